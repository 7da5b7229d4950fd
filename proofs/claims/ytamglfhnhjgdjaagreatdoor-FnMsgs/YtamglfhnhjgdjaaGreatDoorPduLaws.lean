/-
  What the laws on requests share: what was read, by its parts; binds are the same as themselves; a request with bytes is right; samePdu by its contract.
-/
import Derived.Test.YtamglfhnhjgdjaaGreatDoorQG
import Derived.Test.YtamglfhnhjgdjaaGreatDoorPduSame
import Derived.Test.YtamglfhnhjgdjaaGreatDoorQK
namespace Go.Proofs.YtamglfhnhjgdjaaGreatDoor
open Go.RowKit

theorem gotAt {r : Option PD} {K I A B : Int} {L : List BD} (hr : r.getD ⟨0, 0, 0, 0, []⟩ = ⟨K, I, A, B, L⟩) {b : Bool} (hb : r.isSome = b) {w : World} {e : Ending} {w' : World} (h : GotP r w e w') :
    ∃ ys lo cap, e = .returned (.tuple #[.agg #[.int .i64 K, .int .i64 I, .int .i64 A, .int .i64 B, .slice lo L.length cap], .bool b]) ∧ BOwns w' w.heap.size lo L.length cap ys ∧ ys.map BI.d = L := by
  obtain ⟨k, id, a, b', ys, lo, cap, he, hbo, hg⟩ := h
  rw [hr] at hg
  simp only [PD.mk.injEq] at hg
  obtain ⟨rfl, rfl, rfl, rfl, rfl⟩ := hg
  refine ⟨ys, lo, cap, ?_, by simpa using hbo, rfl⟩
  rw [he, hb]
  simp

theorem sameD_self : ∀ (l : List BD), sameD l l = true
  | [] => rfl
  | x :: l => by simp [sameD, sameB, sameV_self, sameD_self l]

theorem putP_some {k id a b : Int} {bs : List BD} (h : ¬ (putP k id a b bs).length = 0) : okP k id a b bs = true ∧ (putBs [] bs).length ≤ 250 ∧ (bodyP id a b bs).length ≤ 250 := by
  unfold putP at h
  split at h
  · assumption
  · simp at h

set_option maxRecDepth 100000 in
set_option maxHeartbeats 1000000 in
theorem samePdu_any (K I A B : Int) (ao : Option Addr) (n c : Nat) (l : List BI) (ao' : Option Addr) (n' c' : Nat) (l' : List BI) (w : World) (hl : BRow w ao n c l) (hl' : BRow w ao' n' c' l') :
    Calls Tryz.prog 12 #[.agg #[.int .i64 K, .int .i64 I, .int .i64 A, .int .i64 B, .slice ao n c], .agg #[.int .i64 K, .int .i64 I, .int .i64 A, .int .i64 B, .slice ao' n' c']] w fun e w' => e = .returned (.bool (sameD (l.map BI.d) (l'.map BI.d))) ∧ Below w.heap.size w w' := by
  go_enter Tryz.func12, Tryz.ntmps12
  go_wp2_with fail
  refine (implSameBinds_any ao n c l ao' n' c' l' _ (hl.below (below_two _ _ _)) (hl'.below (below_two _ _ _))).mono ?_
  rintro e w1 ⟨rfl, hb⟩
  go_wp2
  go_ret
  exact ⟨rfl, (below_two w _ _).trans (hb.mono (below_two w _ _).size)⟩

end Go.Proofs.YtamglfhnhjgdjaaGreatDoor
