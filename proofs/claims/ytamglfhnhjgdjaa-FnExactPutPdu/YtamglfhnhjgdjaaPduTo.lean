/-
  A copy of a bind, of binds, of a request: the law file's helpers by their contracts.
-/
import Derived.Test.YtamglfhnhjgdjaaPduHelp
namespace Go.Proofs.Ytamglfhnhjgdjaa
open Go.RowKit

set_option maxRecDepth 100000 in
set_option maxHeartbeats 1000000 in
theorem toBind_made (x : BI) (w : World) (hx : x.In w) (h1 : x.on ≤ 16777216) (h2 : x.zn ≤ 16777216) :
    Calls Try.prog 33 #[.agg #[.slice x.oa x.on x.oc, .int .i64 x.K, .int .i64 x.N, .string x.S, .slice x.za x.zn x.zc]] w fun e w' =>
      ∃ y : BI, e = .returned (.agg #[.slice y.oa y.on y.oc, .int .i64 y.K, .int .i64 y.N, .string y.S, .slice y.za y.zn y.zc]) ∧ y.d = x.d ∧ BNew w' w.heap.size y ∧ y.wt = x.wt ∧ Below w.heap.size w w' := by
  go_enter Try.func33, Try.ntmps33
  go_wp2_with fail
  refine (copyI_made x.oa x.on x.oc x.o _ (hx.o.below (below_three _ _ _ _)) h1).mono ?_
  rintro e w1 ⟨ao, cp, rfl, ho, hr, hb⟩
  obtain ⟨k0, k1, k2⟩ := kept_three hb
  have b1 : Below w.heap.size w w1 := (below_three w _ _ _).trans (hb.mono (below_three w _ _ _).size)
  have n1 := hb.size
  simp at n1
  have ho' := own_lt ho (base' := w.heap.size + 3) (by simp)
  obtain ⟨⟨p0, p1, p2, p3, p4⟩, f0, f1, f2, f3, f4⟩ := cells5 k0
  obtain ⟨⟨q0, q1, q2, q3, q4⟩, g0, g1, g2, g3, g4⟩ := cells5 k1
  obtain ⟨⟨r0, r1, r2, r3, r4⟩, i0, i1, i2, i3, i4⟩ := cells5 k2
  have K0 := hide k0
  have K1 := hide k1
  have K2 : Hid ((w1.setCell ⟨w.heap.size + 1 + 1, 0, none⟩ (.slice ao x.on cp)).heap[w.heap.size + 1 + 1]? = some (.cells #[.slice ao x.on cp, .int .i64 0, .int .i64 0, .string ⟨#[]⟩, .slice none 0 0] 47)) := hide (by have := set_block5 (j := 0) k2 (.slice ao x.on cp); simpa using this)
  have B1 := hide b1
  have HO := hide ho'
  clear k0 k1 k2 b1 ho ho' hb hr
  go_wp2_with fail
  refine (toVal_made x.K x.N x.S x.za x.zn x.zc x.z _ (hx.z.below (below_set B1.out (by omega) _ _)) h2).mono ?_
  rintro e w2 ⟨ao2, cp2, rfl, ho2, -, hb2⟩
  clear p0 p1 p2 p3 p4 f0 f1 f2 f3 f4 q0 q1 q2 q3 q4 g0 g1 g2 g3 g4 r0 r1 r2 r3 r4 i0 i1 i2 i3 i4
  obtain ⟨⟨q0, q1, q2, q3, q4⟩, g0, g1, g2, g3, g4⟩ := cells5 (kept_block (kept_set K1.out (by omega)) hb2)
  obtain ⟨⟨r0, r1, r2, r3, r4⟩, i0, i1, i2, i3, i4⟩ := cells5 (kept_block K2.out hb2)
  have b2 : Below w.heap.size w w2 := (below_set B1.out (by omega) _ _).trans (hb2.mono (Nat.le_trans B1.out.size (by simp)))
  have ho1 := own_below (own_set HO.out (g := w.heap.size + 1 + 1) (j := 0) (u := .slice ao x.on cp) (by omega)) hb2
  have hn2 : w1.heap.size ≤ (w1.setCell ⟨w.heap.size + 1 + 1, 0, none⟩ (.slice ao x.on cp)).heap.size := by simp
  have ho3 := own_lt ho2 hn2
  have hnd := blks_new (x := ⟨ao, x.on, cp, x.o, x.K, x.N, x.S, ao2, x.zn, cp2, x.z⟩) HO.out ho2 hn2
  have B2 := hide b2
  have HO1 := hide ho1
  have HO3 := hide (own_lt ho3 (base' := w.heap.size + 3) (by omega))
  clear K0 K1 K2 B1 HO hb2 b2 ho1 ho2 ho3 hn2
  go_wp2
  refine bodyPost_ret (v := .agg #[.slice ao x.on cp, .int .i64 x.K, .int .i64 x.N, .string x.S, .slice ao2 x.zn cp2]) (by simp [results, Try.results33, go_sem, *]) rfl ⟨⟨ao, x.on, cp, x.o, x.K, x.N, x.S, ao2, x.zn, cp2, x.z⟩, rfl, rfl, ⟨⟨?_, ?_, hx.o.byte, hx.z.byte, hx.s⟩, hnd⟩, rfl, ?_⟩
  · refine own_lt (base := w.heap.size + 3) ?_ (by omega)
    repeat (refine own_set ?_ (by omega))
    exact HO1.out
  · refine own_lt (base := w.heap.size + 3) ?_ (by omega)
    repeat (refine own_set ?_ (by omega))
    exact HO3.out
  · repeat (refine below_set ?_ (by omega) _ _)
    exact B2.out

/-- A bind of nothing. -/
def BI.zero : BI := ⟨none, 0, 0, [], 0, 0, ⟨#[]⟩, none, 0, 0, []⟩

theorem Try.infoBind : (Try.prog.info? 47).map (fun i => (i.zero, i.size, i.bytes)) = some (some (.agg #[.slice none 0 0, .int .i64 0, .int .i64 0, .string ⟨#[]⟩, .slice none 0 0]), 5, 80) := by kernel_rfl

theorem made5 (n : Nat) : (madeCells #[.slice none 0 0, .int .i64 0, .int .i64 0, .string ⟨#[]⟩, .slice none 0 0] (n * 5)).toList = cBs (List.replicate n BI.zero) := by
  apply List.ext_getElem?
  intro j
  by_cases hj : j < n * 5
  · have hi : j / 5 < n := by omega
    have e : List.replicate n BI.zero = List.replicate (j / 5) BI.zero ++ BI.zero :: List.replicate (n - j / 5 - 1) BI.zero := by
      rw [← List.replicate_succ, List.replicate_append_replicate]
      congr 1
      omega
    have := cBs_at (List.replicate (j / 5) BI.zero) BI.zero (List.replicate (n - j / 5 - 1) BI.zero) (j % 5) (by omega)
    rw [← e, List.length_replicate, show j / 5 * 5 + j % 5 = j by omega] at this
    rw [this]
    have hm : j % 5 < 5 := Nat.mod_lt _ (by omega)
    simp only [madeCells, Array.toList_map, Array.toList_range, List.getElem?_map, List.getElem?_range hj, Option.map_some]
    generalize j % 5 = m at hm
    match m, hm with
    | 0, _ => rfl
    | 1, _ => rfl
    | 2, _ => rfl
    | 3, _ => rfl
    | 4, _ => rfl
  · rw [List.getElem?_eq_none (by simp [madeCells]; omega), List.getElem?_eq_none (by rw [cBs_length]; simp; omega)]

theorem zero_own (w : World) (base : Nat) : BOwn w base BI.zero := ⟨World.ownsRow_nil _ _ _ _, World.ownsRow_nil _ _ _ _, (by intro z hz; cases hz), (by intro z hz; cases hz), Nat.zero_le _⟩

theorem zeros_apart (n : Nat) : (List.replicate n BI.zero).flatMap BI.blks = [] := by
  rw [List.flatMap_eq_nil_iff]
  intro x hx
  rw [List.eq_of_mem_replicate hx]
  rfl

/-- A bind is laid over another one. -/
theorem BOwns.put {w : World} {base : Nat} {g n cap : Nat} {pre post : List BI} {x y : BI} (h : BOwns w base (some ⟨g, 0, none⟩) n cap (pre ++ x :: post)) (hy : BNew w base y) (hap : ∀ z, z ∈ pre ∨ z ∈ post → ∀ b ∈ z.blks, b ∉ y.blks) :
    BOwns (((((w.setCell ⟨g, pre.length * 5, none⟩ (.slice y.oa y.on y.oc)).setCell ⟨g, pre.length * 5 + 1, none⟩ (.int .i64 y.K)).setCell ⟨g, pre.length * 5 + 2, none⟩ (.int .i64 y.N)).setCell ⟨g, pre.length * 5 + 3, none⟩ (.string y.S)).setCell ⟨g, pre.length * 5 + 4, none⟩ (.slice y.za y.zn y.zc)) base (some ⟨g, 0, none⟩) n cap (pre ++ y :: post) := by
  have R0 := (h.row.stored (pre.length * 5 + 0) (.slice y.oa y.on y.oc)).1
  rw [cBs_set pre x ⟨y.oa, y.on, y.oc, x.o, x.K, x.N, x.S, x.za, x.zn, x.zc, x.z⟩ post 0 (.slice y.oa y.on y.oc) (by omega) rfl] at R0
  have R1 := (R0.stored (pre.length * 5 + 1) (.int .i64 y.K)).1
  rw [cBs_set pre ⟨y.oa, y.on, y.oc, x.o, x.K, x.N, x.S, x.za, x.zn, x.zc, x.z⟩ ⟨y.oa, y.on, y.oc, x.o, y.K, x.N, x.S, x.za, x.zn, x.zc, x.z⟩ post 1 (.int .i64 y.K) (by omega) rfl] at R1
  have R2 := (R1.stored (pre.length * 5 + 2) (.int .i64 y.N)).1
  rw [cBs_set pre ⟨y.oa, y.on, y.oc, x.o, y.K, x.N, x.S, x.za, x.zn, x.zc, x.z⟩ ⟨y.oa, y.on, y.oc, x.o, y.K, y.N, x.S, x.za, x.zn, x.zc, x.z⟩ post 2 (.int .i64 y.N) (by omega) rfl] at R2
  have R3 := (R2.stored (pre.length * 5 + 3) (.string y.S)).1
  rw [cBs_set pre ⟨y.oa, y.on, y.oc, x.o, y.K, y.N, x.S, x.za, x.zn, x.zc, x.z⟩ ⟨y.oa, y.on, y.oc, x.o, y.K, y.N, y.S, x.za, x.zn, x.zc, x.z⟩ post 3 (.string y.S) (by omega) rfl] at R3
  have R4 := (R3.stored (pre.length * 5 + 4) (.slice y.za y.zn y.zc)).1
  rw [cBs_set pre ⟨y.oa, y.on, y.oc, x.o, y.K, y.N, y.S, x.za, x.zn, x.zc, x.z⟩ y post 4 (.slice y.za y.zn y.zc) (by omega) rfl, Nat.add_zero] at R4
  have O : Only [g] w (((((w.setCell ⟨g, pre.length * 5, none⟩ (.slice y.oa y.on y.oc)).setCell ⟨g, pre.length * 5 + 1, none⟩ (.int .i64 y.K)).setCell ⟨g, pre.length * 5 + 2, none⟩ (.int .i64 y.N)).setCell ⟨g, pre.length * 5 + 3, none⟩ (.string y.S)).setCell ⟨g, pre.length * 5 + 4, none⟩ (.slice y.za y.zn y.zc)) :=
    ((((Only.set _ _ _ _).trans (Only.set _ _ _ _)).trans (Only.set _ _ _ _)).trans (Only.set _ _ _ _)).trans (Only.set _ _ _ _)
  have hne : (3 : Nat) ≠ 47 := by decide
  have ya : ∀ b ∈ y.blks, b ∉ [g] := by
    intro b hb hc
    have hc' : (Value.slice (some ⟨g, 0, none⟩) n cap).ownBlock = some b := by simp only [List.mem_singleton] at hc; simp [Value.ownBlock, hc]
    rcases List.mem_append.1 hb with hb | hb
    · exact apart_type hy.own.o h.row hne (mem_blkL.2 hb) hc'
    · exact apart_type hy.own.z h.row hne (mem_blkL.2 hb) hc'
  have keep : ∀ z, z ∈ pre ++ x :: post → BOwn (((((w.setCell ⟨g, pre.length * 5, none⟩ (.slice y.oa y.on y.oc)).setCell ⟨g, pre.length * 5 + 1, none⟩ (.int .i64 y.K)).setCell ⟨g, pre.length * 5 + 2, none⟩ (.int .i64 y.N)).setCell ⟨g, pre.length * 5 + 3, none⟩ (.string y.S)).setCell ⟨g, pre.length * 5 + 4, none⟩ (.slice y.za y.zn y.zc)) base z :=
    fun z hz => (h.item z hz).only O (h.type_apart hz)
  refine ⟨R4, ?_, ?_⟩
  · intro z hz
    rcases List.mem_append.1 hz with hz | hz
    · exact keep z (List.mem_append_left _ hz)
    · rcases List.mem_cons.1 hz with rfl | hz
      · exact hy.own.only O ya
      · exact keep z (List.mem_append_right _ (List.mem_cons_of_mem _ hz))
  · have ha := h.apart
    rw [List.flatMap_append, List.flatMap_cons] at ha ⊢
    obtain ⟨h1, h2, h3⟩ := List.nodup_append.1 ha
    obtain ⟨-, h5, -⟩ := List.nodup_append.1 h2
    refine List.nodup_append.2 ⟨h1, List.nodup_append.2 ⟨hy.nd, h5, ?_⟩, ?_⟩
    · intro a ha b hb e
      subst e
      obtain ⟨z, hz, hb⟩ := List.mem_flatMap.1 hb
      exact hap z (.inr hz) a hb ha
    · intro a ha b hb e
      subst e
      rcases List.mem_append.1 hb with hb | hb
      · obtain ⟨z, hz, ha⟩ := List.mem_flatMap.1 ha
        exact hap z (.inl hz) a ha hb
      · exact h3 a ha a (List.mem_append_right _ hb) rfl

/-- k of n binds are copied. -/
def Half (w wr : World) (l : List BI) (n k : Nat) : Prop :=
  ∃ ys : List BI, ys.length = k ∧ ys.map BI.d = (l.take k).map BI.d ∧ ys.map BI.wt = (l.take k).map BI.wt ∧ BOwns wr w.heap.size (some ⟨w.heap.size, 0, none⟩) n n (ys ++ List.replicate (n - k) BI.zero)

set_option maxRecDepth 100000 in
set_option maxHeartbeats 2000000 in
theorem toBinds_made (ao : Option Addr) (n c : Nat) (l : List BI) (w : World) (hl : BRow w ao n c l) (hs : n + bulk l ≤ 1048576) :
    Calls Try.prog 13 #[.slice ao n c] w fun e w' => ∃ ao' cap ys, e = .returned (.slice ao' n cap) ∧ ys.map BI.d = l.map BI.d ∧ ys.map BI.wt = l.map BI.wt ∧ BOwns w' w.heap.size ao' n cap ys ∧ Below w.heap.size w w' := by
  obtain ⟨i0, hi, hz0, hz1, hz2⟩ := info_parts Try.infoBind
  have s1 := hl.size
  go_enter Try.func13, Try.ntmps13
  go_wp2_with (at_make; refine wpList_make_full _ rfl _ _ 27 rfl w.heap.size 47 i0 (.agg #[.slice none 0 0, .int .i64 0, .int .i64 0, .string ⟨#[]⟩, .slice none 0 0]) 5 Try.underlying27 hi hz0 hz1 .i64 .i64 _ _ n rfl rfl rfl rfl ?c1 ?c2 ?c3 ?_)
  case c1 => rw [hz2]; omega
  case c2 => unfold maxLen; omega
  case c3 => exact Nat.le_refl _
  intro w1 hown hgrow
  have hb1 : Below w.heap.size w w1 := (Below.refl _ _).grown hgrow (Nat.le_refl _) (by intro k hk; cases hk)
  have hown1 : Half w w1 l n 0 := by
    refine ⟨[], rfl, rfl, rfl, ?_, ?_, ?_⟩
    · rw [List.nil_append, Nat.sub_zero, ← made5]; exact hown
    · intro x hx
      rw [List.nil_append] at hx
      rw [List.eq_of_mem_replicate hx]
      exact zero_own _ _
    · rw [List.nil_append, zeros_apart]; exact List.nodup_nil
  clear hown hgrow hi hz0 hz1 hz2
  go_wp2
  go_loopw [4] (fun i wr => ∃ k : Nat, k ≤ n ∧ i = .int .i64 k ∧ Half w wr l n k ∧ Below w.heap.size w wr) (fun i _ => n - (intOf i).toNat)
  case atStart => exact ⟨0, Nat.zero_le _, rfl, hown1, hb1⟩
  case round =>
    obtain ⟨k, hk, rfl, hh, hb⟩ := hrel
    clear hown1 hb1
    by_cases hlt : k < n
    · obtain ⟨x, b, off, hx, rfl, ⟨a0, a1, a2, a3, a4⟩, hin⟩ := (hl.below hb).at k hlt
      have hw := bulk_mem (List.mem_of_getElem? hx)
      obtain ⟨ys, rfl, hyd, hyw, hyo⟩ := hh
      have hrep : List.replicate (n - ys.length) BI.zero = BI.zero :: List.replicate (n - (ys.length + 1)) BI.zero := by rw [← List.replicate_succ]; congr 1; omega
      rw [hrep] at hyo
      have HX := hide hx
      have HB := hide hb
      have HYD := hide hyd
      have HYW := hide hyw
      have HYO := hide hyo
      clear hx hb hyd hyw hyo hrep
      unfold BI.wt at hw
      go_wp2_with fail
      refine (toBind_made x _ hin (by omega) (by omega)).mono ?_
      rintro e w2 ⟨y, rfl, hy, hnew, hwt, hb2⟩
      have HBO := hide (HYO.out.below hb2)
      obtain ⟨g, hg, ⟨t0, t1, t2, t3, t4⟩, -, fz⟩ := HBO.out.at
      cases hg
      have f0 := fz (ys.length * 5)
      have f1 := fz (ys.length * 5 + 1)
      have f2 := fz (ys.length * 5 + 2)
      have f3 := fz (ys.length * 5 + 3)
      have f4 := fz (ys.length * 5 + 4)
      have hap : ∀ z, z ∈ ys ∨ z ∈ List.replicate (n - (ys.length + 1)) BI.zero → ∀ b ∈ z.blks, b ∉ y.blks := by
        intro z hz b' hb' hc
        have hz' : z ∈ ys ++ BI.zero :: List.replicate (n - (ys.length + 1)) BI.zero := by
          rcases hz with hz | hz
          · exact List.mem_append_left _ hz
          · exact List.mem_append_right _ (List.mem_cons_of_mem _ hz)
        have h1 := ((HYO.out.item z hz').blk b' hb').2
        have h2 := (hnew.own.blk b' hc).1
        omega
      have HAP := hide hap
      have HNEW : Hid (BNew w2 w.heap.size y) := hide ⟨hnew.own.lt HB.out.size, hnew.nd⟩
      have HY := hide hy
      have HWT := hide hwt
      have HB2 := hide (HB.out.trans (hb2.mono HB.out.size))
      clear a0 a1 a2 a3 a4 fz hap hnew hy hwt hb2 HYO HB
      go_wp2
      go_roundw
      case rel =>
        refine ⟨ys.length + 1, by omega, by go_num, ⟨ys ++ [y], by simp, ?_, ?_, ?_⟩, ?_⟩
        · rw [List.map_append, HYD.out, take_one HX.out, List.map_append, List.map_singleton, List.map_singleton, HY.out]
        · rw [List.map_append, HYW.out, take_one HX.out, List.map_append, List.map_singleton, List.map_singleton, HWT.out]
        · rw [List.append_assoc]
          exact HBO.out.put HNEW.out HAP.out
        · repeat (refine below_set ?_ (by omega) _ _)
          exact HB2.out
      case measure => simp [intOf]; omega
    · have hk' : k = n := by omega
      subst hk'
      obtain ⟨ys, hyl, hyd, hyw, hyo⟩ := hh
      rw [List.take_of_length_le (by omega)] at hyd hyw
      rw [Nat.sub_self, List.replicate_zero, List.append_nil] at hyo
      have HYD := hide hyd
      have HYW := hide hyw
      clear hyd hyw
      go_wp2
      go_ret
      exact ⟨_, _, ys, rfl, HYD.out, HYW.out, hyo, hb⟩

theorem BOwns.set_below {w : World} {base : Nat} {ao : Option Addr} {n cap : Nat} {l : List BI} {g j : Nat} {u : Value} (h : BOwns w base ao n cap l) (hg : g < base) : BOwns (w.setCell ⟨g, j, none⟩ u) base ao n cap l :=
  h.only (Only.set _ _ _ _) (fun b hb hc => by have := (h.blk b hb).1; simp only [List.mem_singleton] at hc; omega)

set_option maxRecDepth 100000 in
set_option maxHeartbeats 1000000 in
theorem toPdu_made (K I A B : Int) (ao : Option Addr) (n c : Nat) (l : List BI) (w : World) (hl : BRow w ao n c l) (hs : n + bulk l ≤ 1048576) :
    Calls Try.prog 8 #[.agg #[.int .i64 K, .int .i64 I, .int .i64 A, .int .i64 B, .slice ao n c]] w fun e w' => ∃ ao' cap ys, e = .returned (.agg #[.int .i64 K, .int .i64 I, .int .i64 A, .int .i64 B, .slice ao' n cap]) ∧ ys.map BI.d = l.map BI.d ∧ ys.map BI.wt = l.map BI.wt ∧ BOwns w' w.heap.size ao' n cap ys ∧ Below w.heap.size w w' := by
  go_enter Try.func8, Try.ntmps8
  go_wp2_with fail
  refine (toBinds_made ao n c l _ (hl.below (below_three _ _ _ _)) hs).mono ?_
  rintro e w1 ⟨ao', cp, ys, rfl, hyd, hyw, hyo, hb⟩
  obtain ⟨-, k1, k2⟩ := kept_three hb
  have b1 : Below w.heap.size w w1 := (below_three w _ _ _).trans (hb.mono (below_three w _ _ _).size)
  obtain ⟨⟨q0, q1, q2, q3, q4⟩, g0, g1, g2, g3, g4⟩ := cells5 k1
  obtain ⟨⟨r0, r1, r2, r3, r4⟩, i0, i1, i2, i3, i4⟩ := cells5 k2
  have HYO := hide (hyo.lt (base' := w.heap.size + 3) (by simp))
  have B1 := hide b1
  have HYD := hide hyd
  have HYW := hide hyw
  clear k1 k2 hb b1 hyo hyd hyw
  go_wp2
  refine bodyPost_ret (v := .agg #[.int .i64 K, .int .i64 I, .int .i64 A, .int .i64 B, .slice ao' n cp]) (by simp [results, Try.results8, go_sem, *]) rfl ⟨ao', cp, ys, rfl, HYD.out, HYW.out, ?_, ?_⟩
  · refine BOwns.lt (base := w.heap.size + 3) ?_ (by omega)
    repeat (refine BOwns.set_below ?_ (by omega))
    exact HYO.out
  · repeat (refine below_set ?_ (by omega) _ _)
    exact B1.out

end Go.Proofs.Ytamglfhnhjgdjaa
