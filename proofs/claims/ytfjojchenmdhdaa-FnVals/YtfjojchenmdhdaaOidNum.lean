/-
  numberAt by its contract: the number at a place, the place behind it, and whether it is right.
-/
import Derived.Test.YtfjojchenmdhdaaGroup
namespace Go.Proofs.Ytfjojchenmdhdaa
open Go.RowKit

theorem getD_drop (l : List Int) (i k : Nat) : (l.drop i).getD k 0 = l.getD (i + k) 0 := by
  simp [List.getD_eq_getElem?_getD, List.getElem?_drop]

/-- No right number begins here. -/
def NoNum (rest : List Int) : Prop := ∀ m, m ≤ 100000 → ∀ x, rest ≠ groups m ++ x

/-- What numberAt says of the bytes from a place on. -/
structure Num (z : List Int) (p : Nat) (n q : Int) (ok : Bool) : Prop where
  lo : 0 ≤ n
  hi : n ≤ 12800127
  yes : ok = true → n ≤ 100000 ∧ ∃ j : Nat, 1 ≤ j ∧ p + j ≤ z.length ∧ q = ((p + j : Nat) : Int) ∧ z.drop p = groups n.toNat ++ z.drop (p + j)
  no : ok = false → NoNum (z.drop p)

/-- What numberAt answers. -/
def NumAns (z : List Int) (p : Nat) (e : Ending) : Prop := ∃ n q ok, e = .returned (.tuple #[.int .i64 n, .int .i64 q, .bool ok]) ∧ Num z p n q ok

theorem num_bad {z : List Int} {p : Nat} (h : NoNum (z.drop p)) : Num z p 0 0 false := ⟨by omega, by omega, (by intro h; cases h), fun _ => h⟩

theorem head_drop {z : List Int} {p : Nat} (h : p < z.length) : (z.drop p).head? = some (z.getD p 0) := by
  rw [List.head?_drop, List.getElem?_eq_getElem h]; simp [h]

theorem num_128 {z : List Int} {p : Nat} (h : p < z.length) (h1 : z.getD p 0 = 128) : NoNum (z.drop p) := by
  intro m _ x e
  rw [drop_at h, h1] at e
  exact groups_head m x _ e.symm

theorem num_last {z : List Int} {p k : Nat} {x y : Int} (hr : Rd (z.drop p) k x.toNat) (h : p + k < z.length) (hx : 0 ≤ x ∧ x ≤ 100000) (hy : z.getD (p + k) 0 = y) (h0 : 0 ≤ y) (h1 : y < 128) (hh : (z.drop p).head? ≠ some 128) :
    Num z p (x * 128 + y) ((p + k + 1 : Nat) : Int) (decide (x * 128 + y ≤ 100000)) := by
  have hk : k < (z.drop p).length := by simp; omega
  have hz : (z.drop p).getD k 0 = y := by rw [getD_drop]; exact hy
  obtain ⟨e1, _, e3⟩ := rd_last hr hk hz h0 h1
  have ev : x.toNat * 128 + y.toNat = (x * 128 + y).toNat := by omega
  rw [ev] at e1 e3
  refine ⟨by omega, by omega, ?_, ?_⟩
  · intro hq
    have hq' := of_decide_eq_true hq
    refine ⟨hq', k + 1, by omega, by omega, by rw [Nat.add_assoc], ?_⟩
    have := e3 hh
    rw [List.drop_drop] at this
    exact this
  · intro hq
    have hq' := of_decide_eq_false hq
    exact bad_great' e1 (by omega)

theorem num_more {z : List Int} {p k : Nat} {x y : Int} (hr : Rd (z.drop p) k x.toNat) (h : p + k < z.length) (hx : 0 ≤ x) (hy : z.getD (p + k) 0 = y) (h0 : 128 ≤ y) (h1 : y ≤ 255) : Rd (z.drop p) (k + 1) (x * 128 + y % 128).toNat := by
  have hk : k < (z.drop p).length := by simp; omega
  have hz : (z.drop p).getD k 0 = y := by rw [getD_drop]; exact hy
  have := rd_more hr hk hz h0 h1
  have ev : x.toNat * 128 + (y.toNat - 128) = (x * 128 + y % 128).toNat := by omega
  rw [ev] at this
  exact this

theorem num_end {z : List Int} {p k : Nat} {n : Nat} (hr : Rd (z.drop p) k n) (h : p + k = z.length) : NoNum (z.drop p) := by
  intro m _ x
  refine no_end ?_ m x
  have : (z.drop p).take k = z.drop p := List.take_of_length_le (by simp; omega)
  have h2 := hr.2.1
  rw [this] at h2
  exact h2

theorem num_great {z : List Int} {p k : Nat} {n : Nat} (hr : Rd (z.drop p) k n) (h : 100000 < n) : NoNum (z.drop p) := bad_great hr.1 h

set_option maxRecDepth 100000 in
set_option maxHeartbeats 1000000 in
theorem numAt_any (a1 : Option Addr) (l1 c1 : Nat) (z1 : List Int) (p : Nat) (w : World) (h1 : Row w a1 l1 c1 z1) (hp : p < l1) (hs : l1 ≤ 1048576) :
    Calls Try.prog 84 #[.slice a1 l1 c1, .int .i64 p] w fun e w' => NumAns z1 p e ∧ w' = w := by
  have s1 := h1.size
  have hby := h1.byte
  obtain ⟨b, off, rfl, hc⟩ := h1.at (by omega)
  clear h1
  have HC := hide hc
  clear hc
  have cx := HC.out p hp
  have bx := hby.at p
  by_cases h128 : z1.getD p 0 = 128
  · have HN := hide (num_128 (z := z1) (p := p) (by omega) h128)
    rw [h128] at cx
    clear bx h128
    go_enter Try.func84, Try.ntmps84
    go_wp2
    go_ret3
    exact ⟨⟨0, 0, false, rfl, num_bad HN.out⟩, rfl⟩
  · have hhd : (z1.drop p).head? ≠ some 128 := by rw [head_drop (by omega)]; simpa using h128
    have HH := hide hhd
    have hr0 := rd_start (z1.drop p)
    generalize z1.getD p 0 = y at cx bx h128
    have hne : (y == 128) = false := by simp [h128]
    clear hhd
    go_enter Try.func84, Try.ntmps84
    go_wp2
    go_loop [1, 7] (fun i m => ∃ (k : Nat) (x : Int), p + k ≤ l1 ∧ 0 ≤ x ∧ x ≤ 12800127 ∧ i = .int .i64 ((p + k : Nat) : Int) ∧ m = .int .i64 x ∧ Rd (z1.drop p) k x.toNat) (fun i _ => l1 - (intOf i).toNat)
    case atStart => exact ⟨0, 0, by omega, by omega, by omega, by simp, rfl, hr0⟩
    case round =>
      clear cx bx hr0 hne h128
      obtain ⟨k, x, hk, hx0, hx1, rfl, rfl, hr⟩ := hrel
      have HR := hide hr
      clear hr
      by_cases hlt : p + k < l1
      · by_cases hg : x ≤ 100000
        · have cy := HC.out (p + k) hlt
          have bz := hby.at (p + k)
          generalize hy : z1.getD (p + k) 0 = z at cy bz
          have HY := hide hy
          clear hy
          have e1 := and127b z bz
          have e2 := or_group x (z % 128) ⟨hx0, by omega⟩ (by omega)
          generalize hpk : p + k = t at *
          have HT := hide hpk
          clear hpk
          by_cases hz : z < 128
          · have hzm : z % 128 = z := by omega
            have HN : Hid (Num z1 p (x * 128 + z) ((t + 1 : Nat) : Int) (decide (x * 128 + z ≤ 100000))) := by
              have := num_last HR.out (by rw [HT.out]; omega) ⟨hx0, hg⟩ (by rw [HT.out]; exact HY.out) bz.1 hz HH.out
              rw [HT.out] at this
              exact this
            rw [hzm] at e1 e2
            clear hzm
            go_wp2
            go_ret3
            exact ⟨⟨_, _, _, rfl, HN.out⟩, rfl⟩
          · have HN : Hid (Rd (z1.drop p) (k + 1) (x * 128 + z % 128).toNat) := num_more HR.out (by rw [HT.out]; omega) hx0 (by rw [HT.out]; exact HY.out) (by omega) (by omega)
            go_wp2
            go_round
            case rel => exact ⟨k + 1, x * 128 + z % 128, by rw [← Nat.add_assoc, HT.out]; omega, by omega, by omega, by rw [← Nat.add_assoc, HT.out]; go_num, rfl, HN.out⟩
            case measure => simp [intOf]; omega
        · have HN : Hid (NoNum (z1.drop p)) := num_great HR.out (by omega)
          go_wp2
          go_ret3
          exact ⟨⟨0, 0, false, rfl, num_bad HN.out⟩, rfl⟩
      · have HN : Hid (NoNum (z1.drop p)) := num_end HR.out (by omega)
        go_wp2
        go_ret3
        exact ⟨⟨0, 0, false, rfl, num_bad HN.out⟩, rfl⟩

end Go.Proofs.Ytfjojchenmdhdaa
