/-
  The specification's GetTlv by its contract: it answers what the plain function says.
-/
import Derived.Test.YtamglfhnhjgdjaaGreatDoorGet
namespace Go.Proofs.YtamglfhnhjgdjaaGreatDoor
open Go.RowKit

theorem getTlv_no (z : List Int) (p : Nat) (h : ¬ ((lenAt z (p + 1)).2.2 = true ∧ (lenAt z (p + 1)).1 ≤ z.length - (lenAt z (p + 1)).2.1)) : getTlv z p = (0, [], 0, false) := by
  unfold getTlv
  simp only [Int.toNat_natCast]
  rw [if_neg h]
  split <;> rfl

theorem getTlv_yes (z : List Int) (p n f : Nat) (hp : p < z.length) (hl : lenAt z (p + 1) = ((n : Int), (f : Int), true)) (h : (n : Int) ≤ z.length - f) : getTlv z p = (z.getD p 0, (z.drop f).take n, (f : Int) + n, true) := by
  unfold getTlv
  rw [if_neg (by omega)]
  simp only [Int.toNat_natCast]
  rw [hl, if_pos ⟨rfl, h⟩]
  simp

theorem lenAt_out (z : List Int) (p : Nat) (h : z.length ≤ p) : lenAt z p = (0, 0, false) := by unfold lenAt; rw [if_pos h]
theorem lenAt_short (z : List Int) (p : Nat) (x : Int) (h : p < z.length) (hx : z.getD p 0 = x) (h1 : x < 128) : lenAt z p = (x, (p : Int) + 1, true) := by
  unfold lenAt; rw [if_neg (by omega), hx, if_pos h1]
theorem lenAt_other (z : List Int) (p : Nat) (x : Int) (h : p < z.length) (hx : z.getD p 0 = x) (h1 : ¬ x < 128) (h2 : ¬ x = 129) : lenAt z p = (0, 0, false) := by
  unfold lenAt; rw [if_neg (by omega), hx, if_neg h1, if_pos h2]
theorem lenAt_cut (z : List Int) (p : Nat) (h : p < z.length) (hx : z.getD p 0 = 129) (h1 : z.length ≤ p + 1) : lenAt z p = (0, 0, false) := by
  unfold lenAt; rw [if_neg (by omega), hx, if_neg (by omega), if_neg (by omega), if_pos h1]
theorem lenAt_long (z : List Int) (p : Nat) (y : Int) (h : p + 1 < z.length) (hx : z.getD p 0 = 129) (hy : z.getD (p + 1) 0 = y) : lenAt z p = (y, (p : Int) + 2, decide (128 ≤ y) && decide (y ≤ 250)) := by
  unfold lenAt; rw [if_neg (by omega), hx, if_neg (by omega), if_neg (by omega), if_neg (by omega), hy]

/-- What the contract says of the specification's GetTlv. -/
def SpecGet (a1 : Option Addr) (l1 c1 : Nat) (z1 : List Int) (t : Int) (w : World) : Prop :=
    Calls Tryz.prog 33 #[.slice a1 l1 c1, .int .i64 t] w fun e w' => ∃ ao n cap, e = .returned (.tuple #[.int .i64 (getTlv z1 t).1, .slice ao n cap, .int .i64 (getTlv z1 t).2.2.1, .bool (getTlv z1 t).2.2.2]) ∧
      w'.ownsRow w.heap.size 5 1 (.slice ao n cap) n (cB (getTlv z1 t).2.1) ∧ Below w.heap.size w w'

set_option maxRecDepth 100000 in
set_option maxHeartbeats 400000 in
theorem specGet_out (a1 : Option Addr) (l1 c1 : Nat) (z1 : List Int) (t : Int) (w : World) (h1 : Row w a1 l1 c1 z1) (hs : l1 ≤ 3000000) (ht : t < 0 ∨ (l1 : Int) ≤ t + 1) : SpecGet a1 l1 c1 z1 t w := by
  have s1 := h1.size
  unfold SpecGet
  have e : getTlv z1 t = (0, [], 0, false) := by
    by_cases k : t < 0 ∨ (z1.length : Int) ≤ t
    · unfold getTlv; rw [if_pos k]
    · obtain ⟨p, rfl⟩ : ∃ p : Nat, t = p := ⟨t.toNat, by omega⟩
      exact getTlv_no z1 p (by rw [lenAt_out _ _ (by omega)]; simp)
  rw [e]; clear e h1
  by_cases k1 : t < 0
  · go_enter Tryz.func33, Tryz.ntmps33
    go_wp2
    exact bodyPost_ret (v := .tuple #[.int .i64 0, .slice (some ⟨w.heap.size, 0, none⟩) 0 0, .int .i64 0, .bool false]) (by simp [results, Tryz.results33, go_sem]) rfl ⟨_, _, _, rfl, World.ownsRow_lit w #[] 0 (Nat.le_refl _) (Nat.zero_le _) rfl, (Below.refl _ _).alloc (Nat.le_refl _) _⟩
  by_cases k2 : (l1 : Int) ≤ t
  · go_enter Tryz.func33, Tryz.ntmps33
    go_wp2
    exact bodyPost_ret (v := .tuple #[.int .i64 0, .slice (some ⟨w.heap.size, 0, none⟩) 0 0, .int .i64 0, .bool false]) (by simp [results, Tryz.results33, go_sem]) rfl ⟨_, _, _, rfl, World.ownsRow_lit w #[] 0 (Nat.le_refl _) (Nat.zero_le _) rfl, (Below.refl _ _).alloc (Nat.le_refl _) _⟩
  have k3 : t + 1 = l1 := by omega
  have k4 : (l1 : Int) ≤ t + 1 := by omega
  have k5 : t < l1 := by omega
  clear k3 ht
  go_enter Tryz.func33, Tryz.ntmps33
  go_wp2
  exact bodyPost_ret (v := .tuple #[.int .i64 0, .slice (some ⟨w.heap.size, 0, none⟩) 0 0, .int .i64 0, .bool false]) (by simp [results, Tryz.results33, go_sem]) rfl ⟨_, _, _, rfl, World.ownsRow_lit w #[] 0 (Nat.le_refl _) (Nat.zero_le _) rfl, (Below.refl _ _).alloc (Nat.le_refl _) _⟩

set_option maxRecDepth 100000 in
set_option maxHeartbeats 800000 in
theorem specGet_bad (b off l1 c1 p : Nat) (z1 : List Int) (w : World) (h1 : Row w (some ⟨b, off, none⟩) l1 c1 z1) (hc : ∀ i, i < l1 → w.cell? ⟨b, off + i, none⟩ = some (.int .u8 (z1.getD i 0))) (hs : l1 ≤ 3000000) (hp : p + 1 < l1)
    (hno : ¬ ((lenAt z1 (p + 1)).2.2 = true ∧ (lenAt z1 (p + 1)).1 ≤ z1.length - (lenAt z1 (p + 1)).2.1)) : SpecGet (some ⟨b, off, none⟩) l1 c1 z1 p w := by
  have s1 := h1.size
  unfold SpecGet
  rw [getTlv_no z1 p hno]
  have cx := hc (p + 1) (by omega)
  have bx := getD_byte h1.byte (p + 1)
  generalize hx : z1.getD (p + 1) 0 = x at cx bx
  by_cases k1 : x < 128
  · rw [lenAt_short z1 (p + 1) x (by omega) hx k1] at hno
    have k2 : ¬ x ≤ (l1 : Int) - (p + 2) := by intro h; exact hno ⟨rfl, by simp; omega⟩
    clear hno hc h1 hx
    go_enter Tryz.func33, Tryz.ntmps33
    go_wp2
    exact bodyPost_ret (v := .tuple #[.int .i64 0, .slice (some ⟨w.heap.size, 0, none⟩) 0 0, .int .i64 0, .bool false]) (by simp [results, Tryz.results33, go_sem]) rfl ⟨_, _, _, rfl, World.ownsRow_lit w #[] 0 (Nat.le_refl _) (Nat.zero_le _) rfl, (Below.refl _ _).alloc (Nat.le_refl _) _⟩
  by_cases k2 : x = 129
  · subst k2
    by_cases k3 : l1 ≤ p + 2
    · clear hno hc h1 hx
      go_enter Tryz.func33, Tryz.ntmps33
      go_wp2
      exact bodyPost_ret (v := .tuple #[.int .i64 0, .slice (some ⟨w.heap.size, 0, none⟩) 0 0, .int .i64 0, .bool false]) (by simp [results, Tryz.results33, go_sem]) rfl ⟨_, _, _, rfl, World.ownsRow_lit w #[] 0 (Nat.le_refl _) (Nat.zero_le _) rfl, (Below.refl _ _).alloc (Nat.le_refl _) _⟩
    have cy := hc (p + 2) (by omega)
    have b2 := getD_byte h1.byte (p + 2)
    generalize hy : z1.getD (p + 2) 0 = y at cy b2
    rw [lenAt_long z1 (p + 1) y (by omega) hx hy] at hno
    by_cases k4 : y < 128
    · clear hno hc h1 hx hy
      go_enter Tryz.func33, Tryz.ntmps33
      go_wp2
      exact bodyPost_ret (v := .tuple #[.int .i64 0, .slice (some ⟨w.heap.size, 0, none⟩) 0 0, .int .i64 0, .bool false]) (by simp [results, Tryz.results33, go_sem]) rfl ⟨_, _, _, rfl, World.ownsRow_lit w #[] 0 (Nat.le_refl _) (Nat.zero_le _) rfl, (Below.refl _ _).alloc (Nat.le_refl _) _⟩
    by_cases k5 : 250 < y
    · clear hno hc h1 hx hy
      go_enter Tryz.func33, Tryz.ntmps33
      go_wp2
      exact bodyPost_ret (v := .tuple #[.int .i64 0, .slice (some ⟨w.heap.size, 0, none⟩) 0 0, .int .i64 0, .bool false]) (by simp [results, Tryz.results33, go_sem]) rfl ⟨_, _, _, rfl, World.ownsRow_lit w #[] 0 (Nat.le_refl _) (Nat.zero_le _) rfl, (Below.refl _ _).alloc (Nat.le_refl _) _⟩
    have k6 : ¬ y ≤ (l1 : Int) - (p + 3) := by intro h; exact hno ⟨by simp; omega, by simp; omega⟩
    clear hno hc h1 hx hy
    go_enter Tryz.func33, Tryz.ntmps33
    go_wp2
    exact bodyPost_ret (v := .tuple #[.int .i64 0, .slice (some ⟨w.heap.size, 0, none⟩) 0 0, .int .i64 0, .bool false]) (by simp [results, Tryz.results33, go_sem]) rfl ⟨_, _, _, rfl, World.ownsRow_lit w #[] 0 (Nat.le_refl _) (Nat.zero_le _) rfl, (Below.refl _ _).alloc (Nat.le_refl _) _⟩
  · have hne : (x != 129) = true := by simpa using k2
    clear hno hc h1 hx k2
    go_enter Tryz.func33, Tryz.ntmps33
    go_wp2
    exact bodyPost_ret (v := .tuple #[.int .i64 0, .slice (some ⟨w.heap.size, 0, none⟩) 0 0, .int .i64 0, .bool false]) (by simp [results, Tryz.results33, go_sem]) rfl ⟨_, _, _, rfl, World.ownsRow_lit w #[] 0 (Nat.le_refl _) (Nat.zero_le _) rfl, (Below.refl _ _).alloc (Nat.le_refl _) _⟩

end Go.Proofs.YtamglfhnhjgdjaaGreatDoor
