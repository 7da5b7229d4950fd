/-
  A part of a kind out of bytes, as the program reads what stands ahead of a message: partWithTag by its contracts.
-/
import Derived.Test.YtjkmagpppfnlpaaGreatDoorMsgHelp
import Derived.Test.YtjkmagpppfnlpaaGreatDoorMsgJ
import Derived.Test.YtjkmagpppfnlpaaGreatDoorBunD
namespace Go.Proofs.YtjkmagpppfnlpaaGreatDoor
open Go.RowKit

set_option maxRecDepth 100000 in
set_option maxHeartbeats 1000000 in
theorem partTag_yes (a1 : Option Addr) (l1 c1 : Nat) (z1 : List Int) (t tag : Int) (P : List Int) (next : Int) (hP : partM z1 t tag = some (P, next)) (w : World) (h1 : Row w a1 l1 c1 z1) (hs : l1 ≤ 1048576) :
    Calls Tryz.prog 88 #[.slice a1 l1 c1, .int .i64 t, .int .i64 tag] w fun e w' => ∃ ao cap, e = .returned (.tuple #[.slice ao P.length cap, .int .i64 next, .nilIface]) ∧
      w'.ownsRow w.heap.size 5 1 (.slice ao P.length cap) P.length (cB P) ∧ Row w' ao P.length cap P ∧ Below w.heap.size w w' := by
  have HT := hide (part_some hP)
  clear hP
  go_enter Tryz.func88, Tryz.ntmps88
  go_wp2_with fail
  refine (implGet_made a1 l1 c1 z1 t tag next true P HT.out _ h1 (by omega)).mono ?_
  rintro e w1 ⟨ao, cap, rfl, ho, r1, hb⟩
  go_wp2
  refine bodyPost_ret (v := .tuple #[.slice ao P.length cap, .int .i64 next, .nilIface]) (by simp [results, Tryz.results88, go_sem]) rfl ⟨ao, cap, rfl, ho, r1, hb⟩

theorem partM_no {z : List Int} {t tag : Int} (h : partM z t tag = none) {k : Int} {P : List Int} {nx : Int} {ok : Bool} (hT : getTlv z t = (k, P, nx, ok)) : ok = false ∨ (ok = true ∧ ¬ k = tag) := by
  unfold partM at h
  rw [hT] at h
  simp only at h
  split at h
  · cases h
  · rename_i hc
    cases ok
    · exact .inl rfl
    · exact .inr ⟨rfl, fun e => hc ⟨rfl, e⟩⟩

set_option maxRecDepth 100000 in
set_option maxHeartbeats 1000000 in
theorem partTag_no (a1 : Option Addr) (l1 c1 : Nat) (z1 : List Int) (t tag : Int) (hP : partM z1 t tag = none) (w : World) (h1 : Row w a1 l1 c1 z1) (hs : l1 ≤ 1048576) :
    Calls Tryz.prog 88 #[.slice a1 l1 c1, .int .i64 t, .int .i64 tag] w fun e w' => e = .returned (.tuple #[.slice none 0 0, .int .i64 0, .iface 56 (.agg #[.int .i64 1])]) ∧ Below w.heap.size w w' := by
  rcases hT : getTlv z1 t with ⟨k, P, nx, ok⟩
  have hno := partM_no hP hT
  have HT := hide hT
  clear hP hT
  go_enter Tryz.func88, Tryz.ntmps88
  go_wp2_with fail
  refine (implGet_made a1 l1 c1 z1 t k nx ok P HT.out _ h1 (by omega)).mono ?_
  rintro e w1 ⟨ao, cap, rfl, -, -, hb⟩
  clear HT
  rcases hno with rfl | ⟨rfl, hkk⟩
  all_goals
    go_wp2
    refine bodyPost_ret (v := .tuple #[.slice none 0 0, .int .i64 0, .iface 56 (.agg #[.int .i64 1])]) (by simp [results, Tryz.results88, go_sem]) rfl ⟨rfl, hb⟩

end Go.Proofs.YtjkmagpppfnlpaaGreatDoor
