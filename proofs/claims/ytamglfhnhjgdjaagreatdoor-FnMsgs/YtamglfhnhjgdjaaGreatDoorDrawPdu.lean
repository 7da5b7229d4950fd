/-
  A request that is drawn, by contracts.
-/
import Derived.Test.YtamglfhnhjgdjaaGreatDoorQJ
import Derived.Test.YtamglfhnhjgdjaaGreatDoorQI
import Derived.Test.YtamglfhnhjgdjaaGreatDoorQK
import Derived.Deep.RegionHeld3
namespace Go.Proofs.YtamglfhnhjgdjaaGreatDoor
open Go.RowKit

/-- A request that was drawn: its binds are the call's own. -/
def DrawnP (w w' : World) (C : Nat) (a0 : Option Addr) (l0 c0 : Nat) (z0 : List Int) (e : Ending) : Prop :=
  ∃ (k id a b : Int) (ys : List BI) (lo : Option Addr) (cap : Nat), e = .returned (.agg #[.int .i64 k, .int .i64 id, .int .i64 a, .int .i64 b, .slice lo ys.length cap]) ∧ ys.length ≤ 20 ∧ BOwns w' w.heap.size lo ys.length cap ys ∧ Went w w' C a0 l0 c0 z0

/-- 'append' of one bind to binds that the call owns, as one step of a region that draws its order. -/
theorem step_append_bind {P : Program} {ops : Array Oper} {o : Oper} {a : Act} {w : World} {K : Act → World → Prop} {Q : Exit → Act → World → Prop} {E : Prop} (hgd : o.guard = none)
    (s x : Operand) (t : TypeId) (ho : o.op = Op.call { callee := Callee.builtin Builtin.append, args := #[s, x], argTypes := #[t, t] }) (base : Nat)
    (ht : P.underlying t = some (TypeDesc.slice 80)) (hinfo : (P.info? 80).map (fun i => (i.zero, i.size, i.bytes)) = some (some (.agg #[.slice none 0 0, .int .i64 0, .int .i64 0, .string ⟨#[]⟩, .slice none 0 0]), 5, 80))
    (lo : Option Addr) (cap : Nat) (ys : List BI) (hs : a.eval s = .slice lo ys.length cap) (hb : BOwns w base lo ys.length cap ys) (B : Nat) (y : BI) (hx : a.eval x = .slice (some ⟨B, 0, none⟩) 1 1)
    (hnews : ∀ (j : Nat) (u : Value), y.cs[j]? = some u → w.cell? ((⟨B, 0, none⟩ : Addr).add j) = some u) (hy : BOwn w base y) (hnd : y.blks.Nodup) (hap : ∀ z ∈ ys, ∀ b ∈ z.blks, b ∉ y.blks) (hn : ys.length ≤ 1000) (hbase : base ≤ w.heap.size)
    (h : ∀ lo' cap' w', BOwns w' base lo' (ys ++ [y]).length cap' (ys ++ [y]) → w.grownBy w' (Value.slice lo ys.length cap).ownBlock → K (a.put o.dst (.slice lo' (ys.length + 1) cap')) w') :
    if Region.wanted o (yielded ops a.tmps) = true then Oper.wp P o a w K Q else E := by
  have hw : Region.wanted o (yielded ops a.tmps) = true := by simp [Region.wanted, hgd]
  rw [if_pos hw]
  obtain ⟨i0, hi, hz0, hz1, hz2⟩ := info_parts hinfo
  refine wp_append_own w s x t ho base 80 i0 (.agg #[.slice none 0 0, .int .i64 0, .int .i64 0, .string ⟨#[]⟩, .slice none 0 0]) 5 80 ht hi hz0 hz1 hz2 rfl (by decide) _ ys.length (cBs ys) hs hb.row ⟨B, 0, none⟩ 1 1 y.cs hx rfl hnews (cs_oneCell y) (by unfold maxLen; omega) (by omega) hbase ?_
  intro v' w' how hgr _
  obtain ⟨lo', cap', rfl⟩ := own_slice how
  exact h lo' cap' w' (by simpa using hb.push hy hnd hap hgr how) hgr

/-- The drawing of binds on its way. -/
structure DSt (w wr : World) (pb : Nat) (C : Nat) (a0 : Option Addr) (l0 c0 : Nat) (z0 : List Int) (k id a b : Int) (ys : List BI) (lo : Option Addr) (cap : Nat) : Prop where
  pbox : wr.heap[pb]? = some (.cells #[.int .i64 k, .int .i64 id, .int .i64 a, .int .i64 b, .slice lo ys.length cap] 26)
  rbox : wr.heap[w.heap.size]? = some (.cells #[.int .i64 0, .int .i64 0, .int .i64 0, .int .i64 0, .slice none 0 0] 26)
  bo : BOwns wr (pb + 1) lo ys.length cap ys
  went : Went w wr C a0 l0 c0 z0
  low : w.heap.size < pb

theorem DSt.bind {w wr w2 w3 : World} {pb C : Nat} {a0 : Option Addr} {l0 c0 : Nat} {z0 : List Int} {k id a b : Int} {ys : List BI} {lo : Option Addr} {cap : Nat} (h : DSt w wr pb C a0 l0 c0 z0 k id a b ys lo cap) (hC : C < w.heap.size) (g2 : wr.grownBy w2 (some C)) (g3 : w2.grownBy w3 (some C)) (c3 : Cur w3 C a0 l0 c0 z0) : DSt w w3 pb C a0 l0 c0 z0 k id a b ys lo cap where
  pbox := kept_grown (kept_grown h.pbox g2 (fun j hj => by cases hj; have := h.low; omega)) g3 (fun j hj => by cases hj; have := h.low; omega)
  rbox := kept_grown (kept_grown h.rbox g2 (fun j hj => by cases hj; omega)) g3 (fun j hj => by cases hj; omega)
  bo := by
    have o2 := Only.of_grown (ao := some ⟨C, 0, none⟩) (n := 0) (c := 0) g2
    have o3 := Only.of_grown (ao := some ⟨C, 0, none⟩) (n := 0) (c := 0) g3
    refine (h.bo.only o2 ?_).only o3 ?_ <;> intro j hj hc <;> (have h1 := (h.bo.blk j hj).1; have h2 := h.low; simp [blkL] at hc; omega)
  went := ⟨c3, ⟨(g3.os.trans g2.os).trans h.went.grown.os, (g3.tape.trans g2.tape).trans h.went.grown.tape, (g3.output.trans g2.output).trans h.went.grown.output, Nat.le_trans h.went.grown.size (Nat.le_trans g2.size g3.size), fun j hj hne => ((g3.block j (Nat.lt_of_lt_of_le (Nat.lt_of_lt_of_le hj h.went.grown.size) g2.size) hne).trans (g2.block j (Nat.lt_of_lt_of_le hj h.went.grown.size) hne)).trans (h.went.grown.block j hj hne)⟩⟩
  low := h.low

theorem DSt.below {w wr w2 : World} {pb C : Nat} {a0 : Option Addr} {l0 c0 : Nat} {z0 : List Int} {k id a b : Int} {ys : List BI} {lo : Option Addr} {cap : Nat} (h : DSt w wr pb C a0 l0 c0 z0 k id a b ys lo cap) (hb : Below wr.heap.size wr w2) : DSt w w2 pb C a0 l0 c0 z0 k id a b ys lo cap :=
  ⟨kept_block h.pbox hb, kept_block h.rbox hb, h.bo.below hb, h.went.made hb, h.low⟩

/-- One bind more, stored. -/
theorem DSt.push {w wr w5 : World} {pb C : Nat} {a0 : Option Addr} {l0 c0 : Nat} {z0 : List Int} {k id a b : Int} {ys : List BI} {lo lo' : Option Addr} {cap cap' : Nat} {y : BI} (h : DSt w wr pb C a0 l0 c0 z0 k id a b ys lo cap) (hg : wr.grownBy w5 (Value.slice lo ys.length cap).ownBlock) (hb : BOwns w5 (pb + 1) lo' (ys ++ [y]).length cap' (ys ++ [y])) (hp : pb + 1 ≤ wr.heap.size) (hC : C < w.heap.size) :
    DSt w (w5.setCell ⟨pb, 4, none⟩ (.slice lo' (ys.length + 1) cap')) pb C a0 l0 c0 z0 k id a b (ys ++ [y]) lo' cap' where
  pbox := by
    have O := Only.of_grown hg
    have k5 := O.kept h.pbox (fun hc => by have := (h.bo.row.lt pb (mem_blkL.2 hc)).1; omega)
    have := heap_setCell_same w5 pb 4 _ _ (.slice lo' (ys.length + 1) cap') k5
    simpa using this
  rbox := by
    have O := Only.of_grown hg
    have k5 := O.kept h.rbox (fun hc => by have h1 := (h.bo.row.lt w.heap.size (mem_blkL.2 hc)).1; have := h.low; omega)
    exact kept_set k5 (by have := h.low; omega)
  bo := by simpa using hb.set_below (g := pb) (j := 4) (u := .slice lo' (ys.length + 1) cap') (by omega)
  went := by
    have B5 : Below (pb + 1) wr w5 := (Only.of_grown hg).below hp (fun j hj => (h.bo.row.lt j (mem_blkL.2 hj)).1)
    have hl := h.low
    have h1 := h.went.madeAt B5 (by omega) (by omega)
    exact h1.madeAt (below_set (Below.refl (pb) w5) (Nat.le_refl _) 4 _) (by omega) (by omega)
  low := h.low

theorem drawn_bind {w2 w3 : World} {C : Nat} {oa za : Option Addr} {on oc zn zc : Nat} {o z : List Int} {K N : Int} {S : ByteArray} {base s2 : Nat} (ho : w2.ownsRow base 3 1 (.slice oa on oc) on (cI o)) (hoi : I64s o) (g3 : w2.grownBy w3 (some C)) (hC : C < base) (hz : w3.ownsRow s2 3 1 (.slice za zn zc) zn (cI z)) (hzi : I64s z) (hs : w2.heap.size ≤ s2) (hb : base ≤ w2.heap.size) (hS : S.size ≤ 30) :
    BNew w3 base ⟨oa, on, oc, o, K, N, S, za, zn, zc, z⟩ := by
  refine ⟨⟨?_, own_lt hz (by omega), hoi, hzi, by unfold maxLen; exact Nat.le_trans hS (by omega)⟩, blks_new (x := ⟨oa, on, oc, o, K, N, S, za, zn, zc, z⟩) ho hz hs⟩
  exact own_above ho g3 (by intro k hk; cases hk; exact hC)

end Go.Proofs.YtamglfhnhjgdjaaGreatDoor
