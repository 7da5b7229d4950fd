/-
  Parts of bytes: what PutTlv answers, as a plain function, and both Go functions by their contracts.
-/
import Derived.Test.YtmlcjdfnoipihaaNum
namespace Go.Proofs.Ytmlcjdfnoipihaa
open Go.RowKit

/-- A length as bytes. -/
def lenB (n : Nat) : List Int := if n < 128 then [(n : Int)] else [129, (n : Int)]
/-- A part put behind b; b alone of what is refused. -/
def putTlv (b : List Int) (tag : Int) (body : List Int) : List Int :=
  if tag < 0 ∨ 255 < tag ∨ 250 < body.length then b else b ++ ([tag] ++ lenB body.length ++ body)

theorem lenB_byte (n : Nat) (h : n ≤ 250) : Byt (lenB n) := by
  unfold lenB; split
  · exact byte_cons (by omega) (by intro z hz; cases hz)
  · exact byte_cons (by omega) (byte_cons (by omega) (by intro z hz; cases hz))
theorem lenB_length (n : Nat) : (lenB n).length ≤ 2 := by unfold lenB; split <;> simp
theorem putTlv_byte (b : List Int) (tag : Int) (body : List Int) (hb : Byt b) (hc : Byt body) : Byt (putTlv b tag body) := by
  unfold putTlv; split
  · exact hb
  · refine byte_append hb (byte_append (byte_append (byte_cons (by omega) (by intro z hz; cases hz)) (lenB_byte _ (by omega))) hc)
theorem putTlv_length (b : List Int) (tag : Int) (body : List Int) : (putTlv b tag body).length ≤ b.length + body.length + 3 := by
  unfold putTlv lenB; split
  · omega
  · split <;> (simp; omega)

theorem row_lit (w : World) (B : Nat) (zs : List Int) (n : Nat) (hB : B = w.heap.size) (hn : zs.length = n) (hs : n ≤ 1000) (hz : Byt zs) : Row (w.alloc (.cells (cB zs).toArray 5)) (some ⟨B, 0, none⟩) n n zs := by
  subst hB
  have := World.ownsRow_lit (base := 0) (e := 5) (size := 1) w (cB zs).toArray n (Nat.zero_le _) (by unfold maxLen; omega) (by simp [cB_length]; omega)
  exact row_own this hz

theorem Row.cong {w : World} {ao : Option Addr} {n c : Nat} {zs zs' : List Int} (h : Row w ao n c zs) (e : zs = zs') : Row w ao n c zs' := e ▸ h

theorem len_mod (x : Int) (n : Nat) (h : x = n) (hn : n ≤ 250) : x % 256 = n := by omega

theorem pieces_none (w : World) : Pieces w none 0 0 [] := ⟨rfl, by omega, .inl rfl, fun i hi => by omega⟩

theorem byte_nil : Byt [] := by intro z hz; cases hz

theorem made_of {w w' : World} {e : Ending} {P : List Int} (hP : Byt P) (h : ∃ ao n cap, e = .returned (.slice ao n cap) ∧ w'.ownsRow w.heap.size 5 1 (.slice ao n cap) n (cB P) ∧ Below w.heap.size w w') :
    ∃ ao cap, e = .returned (.slice ao P.length cap) ∧ w'.ownsRow w.heap.size 5 1 (.slice ao P.length cap) P.length (cB P) ∧ Row w' ao P.length cap P ∧ Below w.heap.size w w' := by
  obtain ⟨ao, n, cap, rfl, ho, hb⟩ := h
  have hn : P.length = n := by have := ho.1; simpa [cB] using this
  subst hn
  exact ⟨ao, cap, rfl, ho, row_own ho hP, hb⟩

end Go.Proofs.Ytmlcjdfnoipihaa
