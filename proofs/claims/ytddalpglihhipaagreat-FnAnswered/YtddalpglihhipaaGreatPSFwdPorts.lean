/-
  The bits of the ports by which frames go out: both functions by their contracts, at ports of which a number of eight bits tells.
-/
import Derived.Test.YtddalpglihhipaaGreatPSK01
import Derived.Test.YtddalpglihhipaaGreatPSK07
import Derived.Test.YtddalpglihhipaaGreatPSK17
namespace Go.Proofs.YtddalpglihhipaaGreat
open Go.RowKit

def portsTo (l : List OI) : Nat → Int
 | 0 => 0
 | k + 1 => match l[k]? with
  | some x => bits .or .i64 (portsTo l k) (2 ^ x.p.toNat)
  | none => portsTo l k

theorem portsTo_next {l : List OI} {k j : Nat} {x : OI} (hx : l[k]? = some x) (hp : x.p = (j : Int)) : portsTo l (k + 1) = bits .or .i64 (portsTo l k) (2 ^ j) := by
 rw [portsTo, hx]
 simp only [hp, Int.toNat_natCast]

set_option maxRecDepth 100000 in
set_option maxHeartbeats 4000000 in
theorem implPorts_any (a : Option Addr) (n c : Nat) (l : List OI) (w : World) (h : GRow outF w a n c l) (hp : ∀ (i : Nat) (x : OI), l[i]? = some x → ∃ j : Nat, j ≤ 7 ∧ x.p = (j : Int)) (hn : n ≤ 1000) :
  Calls Tryz.prog 21 #[.slice a n c] w fun e w' => e = .returned (.int .i64 (portsTo l n)) ∧ Below w.heap.size w w' := by
 go_enter Tryz.func21, Tryz.ntmps21
 go_wp2
 go_loopw [3, 8] (fun s i wr => ∃ k : Nat, k ≤ n ∧ i = .int .i64 k ∧ s = .int .i64 (portsTo l k) ∧ Below w.heap.size w wr) (fun _ i _ => n - (intOf i).toNat)
 case atStart => exact ⟨0, Nat.zero_le _, rfl, rfl, Below.refl _ _⟩
 case round =>
  obtain ⟨k, hk, rfl, rfl, hb⟩ := hrel
  by_cases hlt : k < n
  ·obtain ⟨x, xb, xo, hx, rfl, c0, c1, c2, c3, c4⟩ := out_at (h.below hb) k hlt
   obtain ⟨j, hj, e1⟩ := hp k x hx
   have HN := hide (portsTo_next hx e1)
   have HW := hide (wrap_pow j hj)
   rw [e1] at c0
   generalize portsTo l k = P at *
   have i1 : (0 : Int) ≤ (k : Int) := by omega
   have i2 : (k : Int) < (n : Int) := by omega
   have j1 : (0 : Int) ≤ (j : Int) := by omega
   have HB := hide (gr_trans hb (below_one wr (.cells #[.int .i64 (j : Int), .int .i64 x.d, .int .i64 x.s, .int .i64 x.t, .slice x.a x.n x.c] 48)))
   clear hx e1 hb
   go_wp2
   try rw [HW.out]
   go_roundw
   case rel => exact ⟨k + 1, by omega, by go_num, by rw [HN.out], HB.out⟩
   case measure => simp [intOf]; omega
  ·have hkn : k = n := by omega
   subst hkn
   go_wp2
   go_ret
   exact ⟨rfl, hb⟩

set_option maxRecDepth 100000 in
set_option maxHeartbeats 4000000 in
theorem specPorts_any (a : Option Addr) (n c : Nat) (l : List OI) (w : World) (h : GRow outF w a n c l) (hp : ∀ (i : Nat) (x : OI), l[i]? = some x → ∃ j : Nat, j ≤ 7 ∧ x.p = (j : Int)) (hn : n ≤ 1000) :
  Calls Tryz.prog 22 #[.slice a n c] w fun e w' => e = .returned (.int .i64 (portsTo l n)) ∧ Below w.heap.size w w' := by
 go_enter Tryz.func22, Tryz.ntmps22
 go_wp2
 go_loopw [3, 4] (fun s i wr => ∃ k : Nat, k ≤ n ∧ i = .int .i64 k ∧ s = .int .i64 (portsTo l k) ∧ Below w.heap.size w wr) (fun _ i _ => n - (intOf i).toNat)
 case atStart => exact ⟨0, Nat.zero_le _, rfl, rfl, Below.refl _ _⟩
 case round =>
  obtain ⟨k, hk, rfl, rfl, hb⟩ := hrel
  by_cases hlt : k < n
  ·obtain ⟨x, xb, xo, hx, rfl, c0, c1, c2, c3, c4⟩ := out_at (h.below hb) k hlt
   obtain ⟨j, hj, e1⟩ := hp k x hx
   have HN := hide (portsTo_next hx e1)
   have HW := hide (wrap_pow j hj)
   have HD : Hid ((decide ((0 : Int) ≤ (j : Int)) && decide ((j : Int) ≤ 7)) = true) := hide (by rw [decide_eq_true (show (0 : Int) ≤ (j : Int) by omega), decide_eq_true (show (j : Int) ≤ 7 by omega)]; rfl)
   rw [e1] at c0
   generalize portsTo l k = P at *
   have i1 : (0 : Int) ≤ (k : Int) := by omega
   have i2 : (k : Int) < (n : Int) := by omega
   have j1 : (0 : Int) ≤ (j : Int) := by omega
   have HB := hide hb
   clear hx e1 hb
   go_wp2_with fail
   refine (within_any (j : Int) 0 7 _).mono ?_
   rw [HD.out]
   rintro e w1 ⟨rfl, e2⟩
   obtain rfl := e2.symm
   go_wp2
   try rw [HW.out]
   go_roundw
   case rel => exact ⟨k + 1, by omega, by go_num, by rw [HN.out], HB.out⟩
   case measure => simp [intOf]; omega
  ·have hkn : k = n := by omega
   subst hkn
   go_wp2
   go_ret
   exact ⟨rfl, hb⟩

end Go.Proofs.YtddalpglihhipaaGreat
