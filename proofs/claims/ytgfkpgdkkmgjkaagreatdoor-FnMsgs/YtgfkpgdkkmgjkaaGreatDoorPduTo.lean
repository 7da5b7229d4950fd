/-
  A copy of a bind, of binds, of a request: the law file's helpers by their contracts.
-/
import Derived.Test.YtgfkpgdkkmgjkaaGreatDoorPduHelp
namespace Go.Proofs.YtgfkpgdkkmgjkaaGreatDoor
open Go.RowKit

/-- A bind of nothing. -/
def BI.zero : BI := ⟨none, 0, 0, [], 0, 0, ⟨#[]⟩, none, 0, 0, []⟩

theorem Tryz.infoBind : (Tryz.prog.info? 84).map (fun i => (i.zero, i.size, i.bytes)) = some (some (.agg #[.slice none 0 0, .int .i64 0, .int .i64 0, .string ⟨#[]⟩, .slice none 0 0]), 5, 80) := by kernel_rfl

theorem made5 (n : Nat) : (madeCells #[.slice none 0 0, .int .i64 0, .int .i64 0, .string ⟨#[]⟩, .slice none 0 0] (n * 5)).toList = cBs (List.replicate n BI.zero) := by
  apply List.ext_getElem?
  intro j
  by_cases hj : j < n * 5
  · have hi : j / 5 < n := by omega
    have e : List.replicate n BI.zero = List.replicate (j / 5) BI.zero ++ BI.zero :: List.replicate (n - j / 5 - 1) BI.zero := by
      rw [← List.replicate_succ, List.replicate_append_replicate]
      congr 1
      omega
    have := cBs_at (List.replicate (j / 5) BI.zero) BI.zero (List.replicate (n - j / 5 - 1) BI.zero) (j % 5) (by omega)
    rw [← e, List.length_replicate, show j / 5 * 5 + j % 5 = j by omega] at this
    rw [this]
    have hm : j % 5 < 5 := Nat.mod_lt _ (by omega)
    simp only [madeCells, Array.toList_map, Array.toList_range, List.getElem?_map, List.getElem?_range hj, Option.map_some]
    generalize j % 5 = m at hm
    match m, hm with
    | 0, _ => rfl
    | 1, _ => rfl
    | 2, _ => rfl
    | 3, _ => rfl
    | 4, _ => rfl
  · rw [List.getElem?_eq_none (by simp [madeCells]; omega), List.getElem?_eq_none (by rw [cBs_length]; simp; omega)]

theorem zero_own (w : World) (base : Nat) : BOwn w base BI.zero := ⟨World.ownsRow_nil _ _ _ _, World.ownsRow_nil _ _ _ _, (by intro z hz; cases hz), (by intro z hz; cases hz), Nat.zero_le _⟩

theorem zeros_apart (n : Nat) : (List.replicate n BI.zero).flatMap BI.blks = [] := by
  rw [List.flatMap_eq_nil_iff]
  intro x hx
  rw [List.eq_of_mem_replicate hx]
  rfl

/-- A bind is laid over another one. -/
theorem BOwns.put {w : World} {base : Nat} {g n cap : Nat} {pre post : List BI} {x y : BI} (h : BOwns w base (some ⟨g, 0, none⟩) n cap (pre ++ x :: post)) (hy : BNew w base y) (hap : ∀ z, z ∈ pre ∨ z ∈ post → ∀ b ∈ z.blks, b ∉ y.blks) :
    BOwns (((((w.setCell ⟨g, pre.length * 5, none⟩ (.slice y.oa y.on y.oc)).setCell ⟨g, pre.length * 5 + 1, none⟩ (.int .i64 y.K)).setCell ⟨g, pre.length * 5 + 2, none⟩ (.int .i64 y.N)).setCell ⟨g, pre.length * 5 + 3, none⟩ (.string y.S)).setCell ⟨g, pre.length * 5 + 4, none⟩ (.slice y.za y.zn y.zc)) base (some ⟨g, 0, none⟩) n cap (pre ++ y :: post) := by
  have R0 := (h.row.stored (pre.length * 5 + 0) (.slice y.oa y.on y.oc)).1
  rw [cBs_set pre x ⟨y.oa, y.on, y.oc, x.o, x.K, x.N, x.S, x.za, x.zn, x.zc, x.z⟩ post 0 (.slice y.oa y.on y.oc) (by omega) rfl] at R0
  have R1 := (R0.stored (pre.length * 5 + 1) (.int .i64 y.K)).1
  rw [cBs_set pre ⟨y.oa, y.on, y.oc, x.o, x.K, x.N, x.S, x.za, x.zn, x.zc, x.z⟩ ⟨y.oa, y.on, y.oc, x.o, y.K, x.N, x.S, x.za, x.zn, x.zc, x.z⟩ post 1 (.int .i64 y.K) (by omega) rfl] at R1
  have R2 := (R1.stored (pre.length * 5 + 2) (.int .i64 y.N)).1
  rw [cBs_set pre ⟨y.oa, y.on, y.oc, x.o, y.K, x.N, x.S, x.za, x.zn, x.zc, x.z⟩ ⟨y.oa, y.on, y.oc, x.o, y.K, y.N, x.S, x.za, x.zn, x.zc, x.z⟩ post 2 (.int .i64 y.N) (by omega) rfl] at R2
  have R3 := (R2.stored (pre.length * 5 + 3) (.string y.S)).1
  rw [cBs_set pre ⟨y.oa, y.on, y.oc, x.o, y.K, y.N, x.S, x.za, x.zn, x.zc, x.z⟩ ⟨y.oa, y.on, y.oc, x.o, y.K, y.N, y.S, x.za, x.zn, x.zc, x.z⟩ post 3 (.string y.S) (by omega) rfl] at R3
  have R4 := (R3.stored (pre.length * 5 + 4) (.slice y.za y.zn y.zc)).1
  rw [cBs_set pre ⟨y.oa, y.on, y.oc, x.o, y.K, y.N, y.S, x.za, x.zn, x.zc, x.z⟩ y post 4 (.slice y.za y.zn y.zc) (by omega) rfl, Nat.add_zero] at R4
  have O : Only [g] w (((((w.setCell ⟨g, pre.length * 5, none⟩ (.slice y.oa y.on y.oc)).setCell ⟨g, pre.length * 5 + 1, none⟩ (.int .i64 y.K)).setCell ⟨g, pre.length * 5 + 2, none⟩ (.int .i64 y.N)).setCell ⟨g, pre.length * 5 + 3, none⟩ (.string y.S)).setCell ⟨g, pre.length * 5 + 4, none⟩ (.slice y.za y.zn y.zc)) :=
    ((((Only.set _ _ _ _).trans (Only.set _ _ _ _)).trans (Only.set _ _ _ _)).trans (Only.set _ _ _ _)).trans (Only.set _ _ _ _)
  have hne : (3 : Nat) ≠ 84 := by decide
  have ya : ∀ b ∈ y.blks, b ∉ [g] := by
    intro b hb hc
    have hc' : (Value.slice (some ⟨g, 0, none⟩) n cap).ownBlock = some b := by simp only [List.mem_singleton] at hc; simp [Value.ownBlock, hc]
    rcases List.mem_append.1 hb with hb | hb
    · exact apart_type hy.own.o h.row hne (mem_blkL.2 hb) hc'
    · exact apart_type hy.own.z h.row hne (mem_blkL.2 hb) hc'
  have keep : ∀ z, z ∈ pre ++ x :: post → BOwn (((((w.setCell ⟨g, pre.length * 5, none⟩ (.slice y.oa y.on y.oc)).setCell ⟨g, pre.length * 5 + 1, none⟩ (.int .i64 y.K)).setCell ⟨g, pre.length * 5 + 2, none⟩ (.int .i64 y.N)).setCell ⟨g, pre.length * 5 + 3, none⟩ (.string y.S)).setCell ⟨g, pre.length * 5 + 4, none⟩ (.slice y.za y.zn y.zc)) base z :=
    fun z hz => (h.item z hz).only O (h.type_apart hz)
  refine ⟨R4, ?_, ?_⟩
  · intro z hz
    rcases List.mem_append.1 hz with hz | hz
    · exact keep z (List.mem_append_left _ hz)
    · rcases List.mem_cons.1 hz with rfl | hz
      · exact hy.own.only O ya
      · exact keep z (List.mem_append_right _ (List.mem_cons_of_mem _ hz))
  · have ha := h.apart
    rw [List.flatMap_append, List.flatMap_cons] at ha ⊢
    obtain ⟨h1, h2, h3⟩ := List.nodup_append.1 ha
    obtain ⟨-, h5, -⟩ := List.nodup_append.1 h2
    refine List.nodup_append.2 ⟨h1, List.nodup_append.2 ⟨hy.nd, h5, ?_⟩, ?_⟩
    · intro a ha b hb e
      subst e
      obtain ⟨z, hz, hb⟩ := List.mem_flatMap.1 hb
      exact hap z (.inr hz) a hb ha
    · intro a ha b hb e
      subst e
      rcases List.mem_append.1 hb with hb | hb
      · obtain ⟨z, hz, ha⟩ := List.mem_flatMap.1 ha
        exact hap z (.inl hz) a ha hb
      · exact h3 a ha a (List.mem_append_right _ hb) rfl

/-- k of n binds are copied. -/
def Half (w wr : World) (l : List BI) (n k : Nat) : Prop :=
  ∃ ys : List BI, ys.length = k ∧ ys.map BI.d = (l.take k).map BI.d ∧ ys.map BI.wt = (l.take k).map BI.wt ∧ BOwns wr w.heap.size (some ⟨w.heap.size, 0, none⟩) n n (ys ++ List.replicate (n - k) BI.zero)

theorem BOwns.set_below {w : World} {base : Nat} {ao : Option Addr} {n cap : Nat} {l : List BI} {g j : Nat} {u : Value} (h : BOwns w base ao n cap l) (hg : g < base) : BOwns (w.setCell ⟨g, j, none⟩ u) base ao n cap l :=
  h.only (Only.set _ _ _ _) (fun b hb hc => by have := (h.blk b hb).1; simp only [List.mem_singleton] at hc; omega)

end Go.Proofs.YtgfkpgdkkmgjkaaGreatDoor
