/-
  strings.Cut at a dot, by its contract.
-/
import Derived.Test.YtpnhockgaajihaaDoorBase
import Derived.Test.YtpnhockgaajihaaDoorTextMath
import Derived.Test.YtpnhockgaajihaaDoorShelf
import Derived.Lib.IndexBytes
import Derived.Lib.PathFns
namespace Go.Proofs.YtpnhockgaajihaaDoor
open Go.RowKit
open Go.Lib (indexByte)

/-- What a text is in front of its first dot, and behind it. -/
def CutAns (s : ByteArray) (e : Ending) : Prop :=
  (indexByte s.data.toList 46 = -1 ∧ e = .returned (.tuple #[.string s, .string ⟨#[]⟩, .bool false])) ∨
  (∃ i : Nat, indexByte s.data.toList 46 = i ∧ i < s.size ∧ e = .returned (.tuple #[.string (s.extract 0 i), .string (s.extract (i + 1) s.size), .bool true]))

theorem size_list (s : ByteArray) : s.data.toList.length = s.size := (Go.Lib.size_eq s).symm

theorem dot_cases (s : ByteArray) : indexByte s.data.toList 46 = -1 ∨ ∃ i : Nat, indexByte s.data.toList 46 = i ∧ i < s.size := by
  have h := Go.Lib.indexByte_ge s.data.toList 46
  by_cases h1 : indexByte s.data.toList 46 = -1
  · exact .inl h1
  · have h2 : indexByte s.data.toList 46 = ((indexByte s.data.toList 46).toNat : Nat) := by omega
    refine .inr ⟨_, h2, ?_⟩
    have := (splitD_cut s.data.toList _ h2).1
    rw [size_list] at this
    exact this

set_option maxRecDepth 100000 in
set_option maxHeartbeats 1000000 in
theorem cutLite_any (s : ByteArray) (w : World) (hs : s.size ≤ 1048576) :
    Calls Tryd.prog 53 #[.string s, .string ⟨#[46]⟩] w fun e w' => CutAns s e ∧ ∃ n, w' = w.drewN n := by
  rcases dot_cases s with hix | ⟨i, hix, hi⟩
  · have HX := hide hix
    clear hix
    go_enter Tryd.func53, Tryd.ntmps53
    go_wp2_with fail
    refine (Tryd.stringslite_Index_one s 46 _).mono ?_
    rintro e w1 ⟨rfl, rfl⟩
    rw [HX.out]
    go_wp2
    go_ret3
    exact ⟨.inl ⟨HX.out, rfl⟩, 0, rfl⟩
  · have HX := hide hix
    clear hix
    have c1 : (0 : Int) ≤ ↑i := by omega
    have c2 : (↑i : Int) ≤ ↑s.size := by omega
    have c3 : (0 : Int) ≤ ↑i + 1 := by omega
    have c4 : (↑i + 1 : Int) ≤ ↑s.size := by omega
    go_enter Tryd.func53, Tryd.ntmps53
    go_wp2_with fail
    refine (Tryd.stringslite_Index_one s 46 _).mono ?_
    rintro e w1 ⟨rfl, rfl⟩
    rw [HX.out]
    go_wp2
    go_quiet (fail)
    go_wp2
    go_ret3
    exact ⟨.inr ⟨i, HX.out, hi, rfl⟩, _, rfl⟩

set_option maxRecDepth 100000 in
set_option maxHeartbeats 400000 in
theorem cut_any (s : ByteArray) (w : World) (hs : s.size ≤ 1048576) :
    Calls Tryd.prog 48 #[.string s, .string ⟨#[46]⟩] w fun e w' => CutAns s e ∧ ∃ n, w' = w.drewN n := by
  go_enter Tryd.func48, Tryd.ntmps48
  go_wp2_with fail
  refine (cutLite_any s _ hs).mono ?_
  rintro e w1 ⟨⟨hx, rfl⟩ | ⟨i, hx, hi, rfl⟩, n, rfl⟩
  · have HX := hide hx
    clear hx
    go_wp2
    go_ret3
    exact ⟨.inl ⟨HX.out, rfl⟩, n, rfl⟩
  · have HX := hide hx
    clear hx
    go_wp2
    go_ret3
    exact ⟨.inr ⟨i, HX.out, hi, rfl⟩, n, rfl⟩

end Go.Proofs.YtpnhockgaajihaaDoor
