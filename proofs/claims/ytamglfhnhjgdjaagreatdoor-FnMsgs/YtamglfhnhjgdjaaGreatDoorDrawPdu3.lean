/-
  A request that is drawn, of whatever kind: its state while it is turned.
-/
import Derived.Test.YtamglfhnhjgdjaaGreatDoorDrawPdu2
namespace Go.Proofs.YtamglfhnhjgdjaaGreatDoor
open Go.RowKit

/-- A request that was drawn, right or not. -/
def DrawnQ (w w' : World) (C : Nat) (a0 : Option Addr) (l0 c0 : Nat) (z0 : List Int) (e : Ending) : Prop :=
  ∃ (k id a b : Int) (ys : List BI) (lo : Option Addr) (cap : Nat), e = .returned (.agg #[.int .i64 k, .int .i64 id, .int .i64 a, .int .i64 b, .slice lo ys.length cap]) ∧ ys.length ≤ 40 ∧ BOwns w' w.heap.size lo ys.length cap ys ∧ Went w w' C a0 l0 c0 z0

theorem own_box {w : World} {base : Nat} {e T : TypeId} {size : Nat} {v : Value} {n : Nat} {xs : List Value} {pb : Nat} {cs : Array Value} (h : w.ownsRow base e size v n xs) (hv : v.ownBlock = some pb) (hp : w.heap[pb]? = some (.cells cs T)) (hne : T ≠ e) : False := by
  obtain ⟨-, ⟨rfl, -⟩ | ⟨g, cap, cur, rfl, hg, hh, r⟩⟩ := h
  · cases hv
  · have e1 : g = pb := by simpa [Value.ownBlock] using hv
    subst e1
    rw [hp] at hh
    cases hh
    exact hne rfl

/-- The box of a request is none of the blocks of binds. -/
theorem box_apart {w : World} {base : Nat} {ao : Option Addr} {n cap : Nat} {l : List BI} (h : BOwns w base ao n cap l) {pb : Nat} {cs : Array Value} (hp : w.heap[pb]? = some (.cells cs 26)) : pb ∉ allB ao l := by
  intro hb
  have n1 : (26 : Nat) ≠ 80 := by decide
  have n2 : (26 : Nat) ≠ 3 := by decide
  rcases List.mem_append.1 hb with hb | hb
  · exact own_box h.row (mem_blkL.2 hb) hp n1
  · obtain ⟨x, hx, hb⟩ := List.mem_flatMap.1 hb
    rcases List.mem_append.1 hb with hb | hb
    · exact own_box (h.item x hx).o (mem_blkL.2 hb) hp n2
    · exact own_box (h.item x hx).z (mem_blkL.2 hb) hp n2

/-- The turning of a drawn request on its way. -/
structure ASt (w wr : World) (pb : Nat) (C : Nat) (a0 : Option Addr) (l0 c0 : Nat) (z0 : List Int) (k id a b : Int) (ys : List BI) (lo : Option Addr) (cap : Nat) : Prop where
  pbox : wr.heap[pb]? = some (.cells #[.int .i64 k, .int .i64 id, .int .i64 a, .int .i64 b, .slice lo ys.length cap] 26)
  rbox : wr.heap[w.heap.size]? = some (.cells #[.int .i64 0, .int .i64 0, .int .i64 0, .int .i64 0, .slice none 0 0] 26)
  bo : BOwns wr (w.heap.size + 1) lo ys.length cap ys
  went : Went w wr C a0 l0 c0 z0
  low : w.heap.size < pb

theorem ASt.bind {w wr : World} {pb C : Nat} {a0 : Option Addr} {l0 c0 : Nat} {z0 : List Int} {k id a b : Int} {ys : List BI} {lo : Option Addr} {cap : Nat} {w2 w3 : World} (h : ASt w wr pb C a0 l0 c0 z0 k id a b ys lo cap) (hC : C < w.heap.size) (g2 : wr.grownBy w2 (some C)) (g3 : w2.grownBy w3 (some C)) (c3 : Cur w3 C a0 l0 c0 z0) : ASt w w3 pb C a0 l0 c0 z0 k id a b ys lo cap where
  pbox := kept_grown (kept_grown h.pbox g2 (fun j hj => by cases hj; have := h.low; omega)) g3 (fun j hj => by cases hj; have := h.low; omega)
  rbox := kept_grown (kept_grown h.rbox g2 (fun j hj => by cases hj; omega)) g3 (fun j hj => by cases hj; omega)
  bo := by
    have o2 := Only.of_grown (ao := some ⟨C, 0, none⟩) (n := 0) (c := 0) g2
    have o3 := Only.of_grown (ao := some ⟨C, 0, none⟩) (n := 0) (c := 0) g3
    refine (h.bo.only o2 ?_).only o3 ?_ <;> intro j hj hc <;> (have h1 := (h.bo.blk j hj).1; simp [blkL] at hc; omega)
  went := ⟨c3, ⟨(g3.os.trans g2.os).trans h.went.grown.os, (g3.tape.trans g2.tape).trans h.went.grown.tape, (g3.output.trans g2.output).trans h.went.grown.output, Nat.le_trans h.went.grown.size (Nat.le_trans g2.size g3.size), fun j hj hne => ((g3.block j (Nat.lt_of_lt_of_le (Nat.lt_of_lt_of_le hj h.went.grown.size) g2.size) hne).trans (g2.block j (Nat.lt_of_lt_of_le hj h.went.grown.size) hne)).trans (h.went.grown.block j hj hne)⟩⟩
  low := h.low

theorem ASt.below {w wr : World} {pb C : Nat} {a0 : Option Addr} {l0 c0 : Nat} {z0 : List Int} {k id a b : Int} {ys : List BI} {lo : Option Addr} {cap : Nat} {w2 : World} (h : ASt w wr pb C a0 l0 c0 z0 k id a b ys lo cap) (hb : Below wr.heap.size wr w2) : ASt w w2 pb C a0 l0 c0 z0 k id a b ys lo cap :=
  ⟨kept_block h.pbox hb, kept_block h.rbox hb, h.bo.below hb, h.went.made hb, h.low⟩

theorem ASt.big {w wr : World} {pb C : Nat} {a0 : Option Addr} {l0 c0 : Nat} {z0 : List Int} {k id a b : Int} {ys : List BI} {lo : Option Addr} {cap : Nat} (h : ASt w wr pb C a0 l0 c0 z0 k id a b ys lo cap) : w.heap.size + 1 ≤ wr.heap.size := (Array.getElem?_eq_some_iff.1 h.rbox).1

theorem ASt.push {w wr : World} {pb C : Nat} {a0 : Option Addr} {l0 c0 : Nat} {z0 : List Int} {k id a b : Int} {ys : List BI} {lo : Option Addr} {cap : Nat} {w5 : World} {lo' : Option Addr} {cap' : Nat} {y : BI} (h : ASt w wr pb C a0 l0 c0 z0 k id a b ys lo cap) (hg : wr.grownBy w5 (Value.slice lo ys.length cap).ownBlock) (hb : BOwns w5 (w.heap.size + 1) lo' (ys ++ [y]).length cap' (ys ++ [y])) (hC : C < w.heap.size) :
    ASt w (w5.setCell ⟨pb, 4, none⟩ (.slice lo' (ys.length + 1) cap')) pb C a0 l0 c0 z0 k id a b (ys ++ [y]) lo' cap' := by
  have O := Only.of_grown hg
  have k5 := O.kept h.pbox (fun hc => box_apart h.bo h.pbox (List.mem_append_left _ hc))
  have hl := h.low
  refine ⟨?_, ?_, ?_, ?_, hl⟩
  · have := heap_setCell_same w5 pb 4 _ _ (.slice lo' (ys.length + 1) cap') k5
    simpa using this
  · have k6 := O.kept h.rbox (fun hc => by have h1 := (h.bo.row.lt w.heap.size (mem_blkL.2 hc)).1; omega)
    exact kept_set k6 (by omega)
  · have := hb.only (Only.set w5 pb 4 (.slice lo' (ys.length + 1) cap')) (fun b hb' hc => by rw [List.mem_singleton] at hc; subst hc; exact box_apart hb k5 hb')
    simpa using this
  · have B5 : Below (w.heap.size + 1) wr w5 := O.below h.big (fun j hj => (h.bo.row.lt j (mem_blkL.2 hj)).1)
    have h1 := h.went.madeAt B5 (by omega) (by omega)
    exact h1.madeAt (below_set (Below.refl pb w5) (Nat.le_refl _) 4 _) (by omega) (by omega)

theorem ASt.set0 {w wr : World} {pb C : Nat} {a0 : Option Addr} {l0 c0 : Nat} {z0 : List Int} {k id a b : Int} {ys : List BI} {lo : Option Addr} {cap : Nat} (h : ASt w wr pb C a0 l0 c0 z0 k id a b ys lo cap) (x : Int) (hC : C < w.heap.size) : ASt w (wr.setCell ⟨pb, 0, none⟩ (.int .i64 x)) pb C a0 l0 c0 z0 x id a b ys lo cap :=
  ⟨by have := heap_setCell_same wr pb 0 _ _ (.int .i64 x) h.pbox; simpa using this, kept_set h.rbox (by have := h.low; omega), h.bo.only (Only.set _ _ _ _) (fun b hb hc => by rw [List.mem_singleton] at hc; subst hc; exact box_apart h.bo h.pbox hb), h.went.madeAt (below_set (Below.refl pb wr) (Nat.le_refl _) 0 _) (by have := h.low; omega) (by have := h.low; omega), h.low⟩

theorem ASt.set2 {w wr : World} {pb C : Nat} {a0 : Option Addr} {l0 c0 : Nat} {z0 : List Int} {k id a b : Int} {ys : List BI} {lo : Option Addr} {cap : Nat} (h : ASt w wr pb C a0 l0 c0 z0 k id a b ys lo cap) (x : Int) (hC : C < w.heap.size) : ASt w (wr.setCell ⟨pb, 2, none⟩ (.int .i64 x)) pb C a0 l0 c0 z0 k id x b ys lo cap :=
  ⟨by have := heap_setCell_same wr pb 2 _ _ (.int .i64 x) h.pbox; simpa using this, kept_set h.rbox (by have := h.low; omega), h.bo.only (Only.set _ _ _ _) (fun b hb hc => by rw [List.mem_singleton] at hc; subst hc; exact box_apart h.bo h.pbox hb), h.went.madeAt (below_set (Below.refl pb wr) (Nat.le_refl _) 2 _) (by have := h.low; omega) (by have := h.low; omega), h.low⟩

end Go.Proofs.YtamglfhnhjgdjaaGreatDoor
