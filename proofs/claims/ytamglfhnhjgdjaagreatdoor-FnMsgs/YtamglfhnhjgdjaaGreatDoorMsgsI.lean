/-
  FnMsgs answers true at all arguments, for a program whose GetMsg is as the document's mathematics has it: a drawn message comes back with its own word, and with no other one; cut it is none.
-/
import Derived.Test.YtamglfhnhjgdjaaGreatDoorMsgIs
import Derived.Test.YtamglfhnhjgdjaaGreatDoorQL
import Derived.Test.YtamglfhnhjgdjaaGreatDoorDrawMsg
import Derived.Test.YtamglfhnhjgdjaaGreatDoorPduLaws
import Derived.Test.YtamglfhnhjgdjaaGreatDoorQD
import Derived.WalkKit
import Derived.ProofKit
import Derived.OpenShut
import Derived.ShutString
import Derived.ChangeOld
import Derived.Below
import Derived.LaidMore
import Derived.Stop.Joined
import Derived.Stop.LaidErr
import Derived.SevenTiedAt
import Derived.LaidLaws
import Derived.LaidHandle
import Derived.Test.YtamglfhnhjgdjaaGreatDoorCards
import Derived.Test.YtamglfhnhjgdjaaGreatDoorTie
namespace Go.Proofs.YtamglfhnhjgdjaaGreatDoor
open Go.RowKit

theorem putM_le' (word : List Int) (k id a b : Int) (bs : List BD) : (putM word k id a b bs).length ≤ 1000 := by
  unfold putM
  split
  · have := putTlv_length [] 48 (msgB word (putP k id a b bs))
    simp at this
    omega
  · simp

set_option maxRecDepth 100000 in
set_option maxHeartbeats 1000000 in
theorem msgs_walkI (hI : ImplIs) (a0 : Option Addr) (l0 c0 : Nat) (z0 : List Int) (w : World) (h0 : Row w a0 l0 c0 z0) (hg : Hnd w) :
    Calls Tryz.prog 3 #[.slice a0 l0 c0] w fun e w' => e = .returned (.bool true) ∧ Below w.heap.size w w' := by
  by_cases g0 : 1048576 < l0
  · have i1 : (1048576 : Int) < l0 := by omega
    go_enter Tryz.func3, Tryz.ntmps3
    go_wp2
    go_ret
    exact ⟨rfl, Below.refl _ _⟩
  go_enter Tryz.func3, Tryz.ntmps3
  go_wp2_with fail
  refine (big_no _ _ _ _ g0).mono ?_
  rintro e w0 ⟨rfl, rfl⟩
  go_wp2_with fail
  refine (drawPutMsg_any _ _ _ z0 _ h0 (by omega)).mono ?_
  rintro e w1 ⟨S, k, id, a, b, ys, lo, cap, rfl, hS, r1, hb1⟩
  have hSm : S.size ≤ maxLen := by unfold maxLen; omega
  have hpl := putM_le' (strB S) k id a b (ys.map BI.d)
  generalize hP : putM (strB S) k id a b (ys.map BI.d) = P at hpl
  have HP := hide hP
  clear hP
  have d1 := below_one w1 (.cells #[.int .i64 k, .int .i64 id, .int .i64 a, .int .i64 b, .slice lo ys.length cap] 26)
  have k1 := block_last w1 (.cells #[.int .i64 k, .int .i64 id, .int .i64 a, .int .i64 b, .slice lo ys.length cap] 26)
  have q1 := gr_trans hb1 d1
  have r1 := r1.below d1
  clear hb1 d1
  go_wp2_with fail
  generalize (w1.alloc (.cells #[.int .i64 k, .int .i64 id, .int .i64 a, .int .i64 b, .slice lo ys.length cap] 26)) = w1' at *
  refine (implPutMsg_made S hSm k id a b lo ys.length cap ys P HP.out _ r1).mono ?_
  rintro e w2 ⟨ao2, cp2, rfl, -, r2, hb2⟩
  have k2 := kept_block k1 hb2
  have q2 := gr_trans q1 hb2
  have r1 := r1.below hb2
  clear k1 q1 hb2
  obtain ⟨⟨x0, x1, x2, x3, x4⟩, -⟩ := cells5 k2
  go_wp2_with fail
  refine (specPutMsg_made S hSm k id a b lo ys.length cap ys P HP.out _ r1).mono ?_
  rintro e w3 ⟨ao3, cp3, rfl, -, r3, hb3⟩
  have k3 := kept_block k2 hb3
  have q3 := gr_trans q2 hb3
  have r1 := r1.below hb3
  have r2 := r2.below hb3
  clear k2 q2 hb3 x0 x1 x2 x3 x4
  go_wp2_with fail
  refine (same_same _ _ _ _ _ _ P _ r2 r3).mono ?_
  rintro e w4 ⟨rfl, n4, rfl⟩
  have d4 : Below w3.heap.size w3 (w3.drewN n4) := below_drewN (Below.refl _ _) n4
  generalize w3.drewN n4 = w4 at *
  have k4 := kept_block k3 d4
  have q4 := gr_trans q3 d4
  have r1 := r1.below d4
  have r2 := r2.below d4
  clear k3 q3 d4 r3
  by_cases hp0 : P.length = 0
  · have hp1 : ((P.length : Int) == 0) = true := by rw [beq_iff_eq]; omega
    have Q4 := hide q4
    clear q4 k4
    go_wp2
    go_ret
    exact ⟨rfl, Q4.out⟩
  have hp1 : ((P.length : Int) == 0) = false := by rw [beq_eq_false_iff_ne]; omega
  have G1 : Hid (getM (strB S) P = (0, some ⟨k, id, a, b, ys.map BI.d⟩)) := hide (by rw [← HP.out, msg_back (by rw [HP.out]; exact hp0), if_pos rfl])
  have G2 : Hid (getM (strB (S ++ ⟨#[120]⟩)) P = (3, none)) := hide (by rw [← HP.out, msg_back (by rw [HP.out]; exact hp0), if_neg (strB_more S 120)])
  have G3 : ∀ m, m < P.length → getM (strB S) (P.take m) = (1, none) := by
    intro m hm
    have hb := putM_byte (strB_byte S) k id a b (ys.map BI.d)
    have := msg_cut hb (n := m) (by rw [HP.out]; exact hm) (strB S)
    rw [HP.out] at this
    exact this
  have HG3 := hide G3
  clear G3
  go_wp2_with fail
  refine (hI S _ _ _ P _ G1.out _ r2 (by omega) (hg.below q4)).mono ?_
  rintro e w5 ⟨hgot5, hb5⟩
  obtain ⟨ys5, lo5, cp5, rfl, o5, d5⟩ := gotM_at rfl hgot5
  have e5 := below_one w5 (.cells #[.int .i64 k, .int .i64 id, .int .i64 a, .int .i64 b, .slice lo5 ys5.length cp5] 26)
  have kx5 := block_last w5 (.cells #[.int .i64 k, .int .i64 id, .int .i64 a, .int .i64 b, .slice lo5 ys5.length cp5] 26)
  have f5 := gr_trans hb5 e5
  have k5 := kept_block k4 f5
  have q5 := gr_trans q4 f5
  have r1 := r1.below f5
  have r2 := r2.below f5
  have r5 := o5.brow.below e5
  have D5 := hide d5
  clear k4 q4 hb5 e5 f5 hgot5 o5 d5 G1
  go_wp2_with fail
  generalize (w5.alloc (.cells #[.int .i64 k, .int .i64 id, .int .i64 a, .int .i64 b, .slice lo5 ys5.length cp5] 26)) = w5' at *
  refine (hI _ ao2 P.length cp2 P (3, none) ?_ w5' r2 (by omega) (hg.below q5)).mono ?_
  · exact G2.out
  rintro e w6 ⟨hgot6, hb6⟩
  obtain ⟨ys6, lo6, cp6, rfl, -, -⟩ := gotM_at (K := 0) (I := 0) (A := 0) (B := 0) (L := []) rfl hgot6
  have f6 := gr_trans hb6 (below_one w6 (.cells #[.int .i64 0, .int .i64 0, .int .i64 0, .int .i64 0, .slice lo6 ys6.length cp6] 26))
  have k6 := kept_block k5 f6
  have kx6 := kept_block kx5 f6
  have q6 := gr_trans q5 f6
  have r1 := r1.below f6
  have r2 := r2.below f6
  have r5 := r5.below f6
  clear k5 kx5 q5 hb6 f6 hgot6 G2
  go_wp2_with fail
  generalize (w6.alloc (.cells #[.int .i64 0, .int .i64 0, .int .i64 0, .int .i64 0, .slice lo6 ys6.length cp6] 26)) = w6' at *
  refine (at_law _ _ _ z0 _ (h0.below q6) (by omega)).mono ?_
  rintro e w7 ⟨x7, hx0, hx1, rfl, rfl⟩
  obtain ⟨m7, hm7⟩ : ∃ m : Nat, x7 % (P.length : Int) = m := ⟨(x7 % (P.length : Int)).toNat, by have := Int.emod_nonneg x7 (b := (P.length : Int)) (by omega); omega⟩
  have hm7' : m7 < P.length := by have := Int.emod_lt_of_pos x7 (b := (P.length : Int)) (by omega); omega
  have ht7 : Int.tmod x7 (P.length : Int) = (m7 : Int) := by rw [Int.tmod_eq_emod_of_nonneg hx0, hm7]
  have hcp := r2.le
  have j0 : (0 : Int) ≤ (m7 : Int) := by omega
  have j1 : (m7 : Int) ≤ (cp2 : Int) := by omega
  have hpn : ¬ (P.length : Int) = 0 := by omega
  go_wp2_with fail
  refine (hI S ao2 m7 cp2 (P.take m7) (1, none) (HG3.out m7 hm7') w7 (r2.take m7 (by omega)) (by omega) (hg.below q6)).mono ?_
  rintro e w8 ⟨hgot8, hb8⟩
  obtain ⟨ys8, lo8, cp8, rfl, -, -⟩ := gotM_at (K := 0) (I := 0) (A := 0) (B := 0) (L := []) rfl hgot8
  have f8 := gr_trans hb8 (below_one w8 (.cells #[.int .i64 0, .int .i64 0, .int .i64 0, .int .i64 0, .slice lo8 ys8.length cp8] 26))
  have k8 := kept_block k6 f8
  have kx8 := kept_block kx6 f8
  have q8 := gr_trans q6 f8
  have r1 := r1.below f8
  have r5 := r5.below f8
  clear k6 kx6 q6 hb8 f8 hgot8 r2 ht7 hm7 j0 j1
  obtain ⟨⟨x0, x1, x2, x3, x4⟩, -⟩ := cells5 k8
  obtain ⟨⟨y0, y1, y2, y3, y4⟩, -⟩ := cells5 kx8
  clear k8 kx8
  go_wp2_with fail
  generalize (w8.alloc (.cells #[.int .i64 0, .int .i64 0, .int .i64 0, .int .i64 0, .slice lo8 ys8.length cp8] 26)) = w8' at *
  refine (samePdu_any k id a b _ _ _ ys5 _ _ _ ys _ r5 r1).mono ?_
  rintro e w9 ⟨rfl, hb9⟩
  rw [D5.out, sameD_self]
  have Q9 := hide (gr_trans q8 hb9)
  clear q8 hb9 x0 x1 x2 x3 x4 y0 y1 y2 y3 y4
  go_wp2
  go_ret
  exact ⟨rfl, Q9.out⟩

end Go.Proofs.YtamglfhnhjgdjaaGreatDoor
