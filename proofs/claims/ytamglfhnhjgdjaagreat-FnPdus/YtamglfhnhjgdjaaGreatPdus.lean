/-
  FnPdus answers true at all bytes: a drawn request that has bytes comes back of them; what is read is right, and has these bytes.
-/
import Derived.Test.YtamglfhnhjgdjaaGreatQG
import Derived.Test.YtamglfhnhjgdjaaGreatPduOk
import Derived.Test.YtamglfhnhjgdjaaGreatPduLaws
import Derived.Test.YtamglfhnhjgdjaaGreatPduSame
import Derived.Test.YtamglfhnhjgdjaaGreatQH
import Derived.Test.YtamglfhnhjgdjaaGreatQK
import Derived.Test.YtamglfhnhjgdjaaGreatPduSpec3
import Derived.Test.YtamglfhnhjgdjaaGreatDrawPdu6
import Derived.Test.YtamglfhnhjgdjaaGreatQD
import Derived.WalkKit
import Derived.ProofKit
import Derived.OpenShut
import Derived.ShutString
import Derived.ChangeOld
import Derived.Below
namespace Go.Proofs.YtamglfhnhjgdjaaGreat
open Go.RowKit

set_option maxRecDepth 100000 in
set_option maxHeartbeats 4000000 in
theorem pdus_walk (a0 : Option Addr) (l0 c0 : Nat) (z0 : List Int) (w : World) (h0 : Row w a0 l0 c0 z0) :
    Calls Tryz.prog 3 #[.slice a0 l0 c0] w fun e w' => e = .returned (.bool true) ∧ Below w.heap.size w w' := by
  by_cases g0 : 1048576 < l0
  · have i1 : (1048576 : Int) < l0 := by omega
    go_enter Tryz.func3, Tryz.ntmps3
    go_wp2
    go_ret
    exact ⟨rfl, Below.refl _ _⟩
  go_enter Tryz.func3, Tryz.ntmps3
  go_wp2_with fail
  refine (big_no _ _ _ _ g0).mono ?_
  rintro e w0 ⟨rfl, rfl⟩
  go_wp2_with fail
  refine (drawPutPdu_any _ _ _ z0 _ h0 (by omega)).mono ?_
  rintro e w1 ⟨k, id, a, b, ys, lo, cap, rfl, r1, hb1⟩
  have hpl := putP_len k id a b (ys.map BI.d)
  generalize hP : putP k id a b (ys.map BI.d) = P at hpl
  have HP := hide hP
  clear hP
  go_wp2_with fail
  refine (implPutPdu_made k id a b lo ys.length cap ys P HP.out _ (r1.below (below_one w1 (.cells #[.int .i64 k, .int .i64 id, .int .i64 a, .int .i64 b, .slice lo ys.length cap] 26)))).mono ?_
  rintro e w2 ⟨ao2, cp2, rfl, -, r2, hb2⟩
  have kb := kept_block (block_last w1 (.cells #[.int .i64 k, .int .i64 id, .int .i64 a, .int .i64 b, .slice lo ys.length cap] 26)) hb2
  have d2 := (below_one w1 (.cells #[.int .i64 k, .int .i64 id, .int .i64 a, .int .i64 b, .slice lo ys.length cap] 26)).trans (hb2.mono (below_one w1 (.cells #[.int .i64 k, .int .i64 id, .int .i64 a, .int .i64 b, .slice lo ys.length cap] 26)).size)
  have q2 := hb1.trans (d2.mono hb1.size)
  have r1 := r1.below d2
  have KB := hide kb
  clear hb1 hb2 d2 kb
  go_wp2_with fail
  refine (drawGetPdu_any _ _ _ z0 _ (h0.below q2) (by omega)).mono ?_
  rintro e w3 ⟨ao3, n3, cp3, zs3, rfl, hn3, r3, hb3⟩
  obtain rfl := r3.size
  have KB := hide (kept_block KB.out hb3)
  have q3 := q2.trans (hb3.mono q2.size)
  have r2 := r2.below hb3
  have r1 := r1.below hb3
  generalize hG : getP zs3 = G
  have HG := hide hG
  rcases hY : G.getD ⟨0, 0, 0, 0, []⟩ with ⟨K, I, A, B, L⟩
  have HY := hide hY
  generalize hI : G.isSome = is
  have HI := hide hI
  clear hb3 q2 hG hY hI
  go_wp2_with fail
  refine (implGetPdu_any _ _ _ zs3 _ HG.out _ r3 (by omega)).mono ?_
  rintro e w4 ⟨hgot4, hb4⟩
  obtain ⟨ys4, lo4, cp4, rfl, o4, d4⟩ := gotAt HY.out HI.out hgot4
  have e4 := hb4.trans ((below_one w4 (.cells #[.int .i64 K, .int .i64 I, .int .i64 A, .int .i64 B, .slice lo4 L.length cp4] 26)).mono hb4.size)
  have KB := hide (kept_block KB.out e4)
  have q4 := q3.trans (e4.mono q3.size)
  have r2 := r2.below e4
  have r1 := r1.below e4
  have r3 := r3.below e4
  have KY := hide (block_last w4 (.cells #[.int .i64 K, .int .i64 I, .int .i64 A, .int .i64 B, .slice lo4 L.length cp4] 26))
  have r4 := o4.brow.below (below_one w4 (.cells #[.int .i64 K, .int .i64 I, .int .i64 A, .int .i64 B, .slice lo4 L.length cp4] 26))
  have HD4 := hide d4
  clear hb4 e4 q3 hgot4 o4 d4
  go_wp2_with fail
  generalize w4.alloc (.cells #[.int .i64 K, .int .i64 I, .int .i64 A, .int .i64 B, .slice lo4 L.length cp4] 26) = w4' at *
  refine (specGetPdu_any _ _ _ zs3 _ HG.out _ r3 (by omega)).mono ?_
  rintro e w5 ⟨hgot5, hb5⟩
  obtain ⟨ys5, lo5, cp5, rfl, o5, d5⟩ := gotAt HY.out HI.out hgot5
  have e5 := hb5.trans ((below_one w5 (.cells #[.int .i64 K, .int .i64 I, .int .i64 A, .int .i64 B, .slice lo5 L.length cp5] 26)).mono hb5.size)
  have kb := kept_block KB.out e5
  have ky := kept_block KY.out e5
  have q5 := q4.trans (e5.mono q4.size)
  have r2 := r2.below e5
  have r1 := r1.below e5
  have r3 := r3.below e5
  have r4 := r4.below e5
  clear hb5 e5 q4 hgot5 o5 d5 KB KY
  cases is
  · obtain rfl : K = 0 := by
      have h1 := HI.out
      have h2 := HY.out
      cases G with
      | none => simp only [Option.getD_none, PD.mk.injEq] at h2; exact h2.1.symm
      | some x => cases h1
    obtain ⟨⟨x0, x1, x2, x3, x4⟩, -⟩ := cells5 kb
    have KB := hide kb
    have KY := hide ky
    clear kb ky
    go_wp2_with fail
    generalize w5.alloc (.cells #[.int .i64 0, .int .i64 I, .int .i64 A, .int .i64 B, .slice lo5 L.length cp5] 26) = w5' at *
    have qt := q5
    clear q5 r3 r4
    refine (specPutPdu_made k id a b lo ys.length cap ys P HP.out _ r1).mono ?_
    rintro e w6 ⟨ao6, cp6, rfl, -, r6, hb6⟩
    have kb := hide (kept_block KB.out hb6)
    have ky := hide (kept_block KY.out hb6)
    have q6 := qt.trans (hb6.mono qt.size)
    have r2 := r2.below hb6
    have r1 := r1.below hb6
    clear hb6 qt KB KY x0 x1 x2 x3 x4
    go_wp2_with fail
    refine (same_same _ _ _ _ _ _ P _ r2 r6).mono ?_
    rintro e w7 ⟨rfl, n7, rfl⟩
    have d7 : Below w6.heap.size w6 (w6.drewN n7) := below_drewN (Below.refl _ _) n7
    generalize w6.drewN n7 = w7 at *
    have KB := hide (kept_block kb.out d7)
    have ky := kept_block ky.out d7
    have q7 := q6.trans (d7.mono q6.size)
    have r2 := r2.below d7
    have r1 := r1.below d7
    clear d7 q6 r6 kb
    obtain ⟨⟨y0, y1, y2, y3, y4⟩, -⟩ := cells5 ky
    clear ky
    by_cases hp0 : P.length = 0
    · have hp1 : (P.length : Int) = 0 := by omega
      go_wp2
      all_goals
        go_ret
        exact ⟨rfl, q7⟩
    · have hp1 : ¬ (P.length : Int) = 0 := by omega
      have hps := putP_some (k := k) (id := id) (a := a) (b := b) (bs := ys.map BI.d) (by rw [HP.out]; exact hp0)
      have HB : Hid (getP P = some ⟨k, id, a, b, ys.map BI.d⟩) := hide (by rw [← HP.out]; exact pdu_back hps.1 hps.2.1 hps.2.2)
      have HOK := hide hps.1
      clear hps y0 y1 y2 y3 y4
      go_wp2_with fail
      refine (implGetPdu_any _ _ _ P _ HB.out _ r2 (by omega)).mono ?_
      rintro e w8 ⟨hgot8, hb8⟩
      obtain ⟨ys8, lo8, cp8, rfl, o8, d8⟩ := gotAt (r := some ⟨k, id, a, b, ys.map BI.d⟩) (b := true) rfl rfl hgot8
      rw [List.length_map] at o8
      have e8 := hb8.trans ((below_one w8 (.cells #[.int .i64 k, .int .i64 id, .int .i64 a, .int .i64 b, .slice lo8 ys.length cp8] 26)).mono hb8.size)
      have KB := hide (kept_block KB.out e8)
      have KX := hide (block_last w8 (.cells #[.int .i64 k, .int .i64 id, .int .i64 a, .int .i64 b, .slice lo8 ys.length cp8] 26))
      have q8 := q7.trans (e8.mono q7.size)
      have r1 := r1.below e8
      have r8 := o8.brow.below (below_one w8 (.cells #[.int .i64 k, .int .i64 id, .int .i64 a, .int .i64 b, .slice lo8 ys.length cp8] 26))
      have HD8 := hide d8
      clear e8 hb8 hgot8 o8 d8 q7 r2
      go_wp2_with fail
      generalize w8.alloc (.cells #[.int .i64 k, .int .i64 id, .int .i64 a, .int .i64 b, .slice lo8 ys.length cp8] 26) = w8' at *
      refine (drawSameBinds_any _ _ _ z0 _ (h0.below q8) (by omega)).mono ?_
      rintro e w9 ⟨lou, nu, capu, lu, lov, nv, capv, lv, rfl, ru, rv, hb9⟩
      have kb := kept_block KB.out hb9
      have kx := kept_block KX.out hb9
      have q9 := q8.trans (hb9.mono q8.size)
      have r1 := r1.below hb9
      have r8 := r8.below hb9
      clear hb9 q8 KB KX
      obtain ⟨⟨x0, x1, x2, x3, x4⟩, -⟩ := cells5 kb
      obtain ⟨⟨y0, y1, y2, y3, y4⟩, -⟩ := cells5 kx
      have KB := hide kb
      clear kb kx
      have hss : sameD (ys8.map BI.d) (ys.map BI.d) = true := by rw [HD8.out]; exact sameD_self _
      have HSS := hide hss
      clear hss
      go_wp2_with fail
      refine (samePdu_any k id a b _ _ _ ys8 _ _ _ ys _ r8 r1).mono ?_
      rintro e w10 ⟨rfl, hb10⟩
      rw [HSS.out]
      have kb := kept_block KB.out hb10
      have q10 := q9.trans (hb10.mono q9.size)
      have r1 := r1.below hb10
      have ru := ru.below hb10
      have rv := rv.below hb10
      clear hb10 q9 KB r8 x0 x1 x2 x3 x4 y0 y1 y2 y3 y4
      obtain ⟨⟨x0, x1, x2, x3, x4⟩, -⟩ := cells5 kb
      clear kb
      go_wp2_with fail
      refine (implPduOk_any k id a b _ _ _ ys _ r1).mono ?_
      rintro e w11 ⟨rfl, hb11⟩
      rw [HOK.out]
      have q11 := q10.trans (hb11.mono q10.size)
      have ru := ru.below hb11
      have rv := rv.below hb11
      generalize hQ : sameD (lu.map BI.d) (lv.map BI.d) = Q
      have HQ := hide hQ
      clear hb11 q10 r1 hQ x0 x1 x2 x3 x4
      go_wp2_with fail
      refine (implSameBinds_any _ _ _ lu _ _ _ lv _ ru rv).mono ?_
      rintro e w12 ⟨rfl, hb12⟩
      rw [HQ.out]
      have q12 := q11.trans (hb12.mono q11.size)
      have ru := ru.below hb12
      have rv := rv.below hb12
      clear hb12 q11
      go_wp2_with fail
      refine (specSameBinds_any _ _ _ lu _ _ _ lv _ ru rv).mono ?_
      rintro e w13 ⟨rfl, hb13⟩
      rw [HQ.out]
      go_wp2
      go_ret
      exact ⟨by simp, q12.trans (hb13.mono q12.size)⟩
  · have hG : getP zs3 = some ⟨K, I, A, B, L⟩ := by
      have h1 := HI.out
      have h2 := HY.out
      rw [HG.out]
      cases G with
      | none => cases h1
      | some x => simp only [Option.getD_some] at h2; rw [h2]
    obtain ⟨hok4, hput4, -⟩ := pdu_read r3.byte hG
    have HK4 : Hid (okP K I A B (ys4.map BI.d) = true) := hide (by rw [HD4.out]; exact hok4)
    have HP4 : Hid (putP K I A B (ys4.map BI.d) = zs3) := hide (by rw [HD4.out]; exact hput4)
    clear hG hok4 hput4
    obtain ⟨⟨y0, y1, y2, y3, y4⟩, -⟩ := cells5 ky
    have KB := hide kb
    have KY := hide ky
    clear kb ky
    go_wp2_with fail
    generalize w5.alloc (.cells #[.int .i64 K, .int .i64 I, .int .i64 A, .int .i64 B, .slice lo5 L.length cp5] 26) = w5' at *
    refine (implPduOk_any K I A B _ _ _ ys4 _ r4).mono ?_
    rintro e v6 ⟨rfl, hb6⟩
    rw [HK4.out]
    have KB := hide (kept_block KB.out hb6)
    have ky := kept_block KY.out hb6
    have q6 := q5.trans (hb6.mono q5.size)
    have r2 := r2.below hb6
    have r1 := r1.below hb6
    have r3 := r3.below hb6
    have r4 := r4.below hb6
    clear hb6 q5 KY y0 y1 y2 y3 y4
    obtain ⟨⟨y0, y1, y2, y3, y4⟩, -⟩ := cells5 ky
    have KY := hide ky
    clear ky
    go_wp2_with fail
    refine (implPutPdu_made K I A B _ _ _ ys4 zs3 HP4.out _ r4).mono ?_
    rintro e v7 ⟨ao7, cp7, rfl, -, r7, hb7⟩
    have KB := hide (kept_block KB.out hb7)
    have KY := hide (kept_block KY.out hb7)
    have q7 := q6.trans (hb7.mono q6.size)
    have r2 := r2.below hb7
    have r1 := r1.below hb7
    have r3 := r3.below hb7
    clear hb7 q6 r4 y0 y1 y2 y3 y4
    go_wp2_with fail
    refine (same_same _ _ _ _ _ _ zs3 _ r7 r3).mono ?_
    rintro e v8 ⟨rfl, n8, rfl⟩
    have d8 : Below v7.heap.size v7 (v7.drewN n8) := below_drewN (Below.refl _ _) n8
    generalize v7.drewN n8 = v8 at *
    have kb := kept_block KB.out d8
    have ky := kept_block KY.out d8
    have qt := q7.trans (d8.mono q7.size)
    have r2 := r2.below d8
    have r1 := r1.below d8
    clear d8 q7 r3 r7 KB KY
    obtain ⟨⟨x0, x1, x2, x3, x4⟩, -⟩ := cells5 kb
    have KB := hide kb
    have KY := hide ky
    clear kb ky
    go_wp2_with fail
    refine (specPutPdu_made k id a b lo ys.length cap ys P HP.out _ r1).mono ?_
    rintro e w6 ⟨ao6, cp6, rfl, -, r6, hb6⟩
    have kb := hide (kept_block KB.out hb6)
    have ky := hide (kept_block KY.out hb6)
    have q6 := qt.trans (hb6.mono qt.size)
    have r2 := r2.below hb6
    have r1 := r1.below hb6
    clear hb6 qt KB KY x0 x1 x2 x3 x4
    go_wp2_with fail
    refine (same_same _ _ _ _ _ _ P _ r2 r6).mono ?_
    rintro e w7 ⟨rfl, n7, rfl⟩
    have d7 : Below w6.heap.size w6 (w6.drewN n7) := below_drewN (Below.refl _ _) n7
    generalize w6.drewN n7 = w7 at *
    have KB := hide (kept_block kb.out d7)
    have ky := kept_block ky.out d7
    have q7 := q6.trans (d7.mono q6.size)
    have r2 := r2.below d7
    have r1 := r1.below d7
    clear d7 q6 r6 kb
    obtain ⟨⟨y0, y1, y2, y3, y4⟩, -⟩ := cells5 ky
    clear ky
    by_cases hp0 : P.length = 0
    · have hp1 : (P.length : Int) = 0 := by omega
      go_wp2
      all_goals
        go_ret
        exact ⟨rfl, q7⟩
    · have hp1 : ¬ (P.length : Int) = 0 := by omega
      have hps := putP_some (k := k) (id := id) (a := a) (b := b) (bs := ys.map BI.d) (by rw [HP.out]; exact hp0)
      have HB : Hid (getP P = some ⟨k, id, a, b, ys.map BI.d⟩) := hide (by rw [← HP.out]; exact pdu_back hps.1 hps.2.1 hps.2.2)
      have HOK := hide hps.1
      clear hps y0 y1 y2 y3 y4
      go_wp2_with fail
      refine (implGetPdu_any _ _ _ P _ HB.out _ r2 (by omega)).mono ?_
      rintro e w8 ⟨hgot8, hb8⟩
      obtain ⟨ys8, lo8, cp8, rfl, o8, d8⟩ := gotAt (r := some ⟨k, id, a, b, ys.map BI.d⟩) (b := true) rfl rfl hgot8
      rw [List.length_map] at o8
      have e8 := hb8.trans ((below_one w8 (.cells #[.int .i64 k, .int .i64 id, .int .i64 a, .int .i64 b, .slice lo8 ys.length cp8] 26)).mono hb8.size)
      have KB := hide (kept_block KB.out e8)
      have KX := hide (block_last w8 (.cells #[.int .i64 k, .int .i64 id, .int .i64 a, .int .i64 b, .slice lo8 ys.length cp8] 26))
      have q8 := q7.trans (e8.mono q7.size)
      have r1 := r1.below e8
      have r8 := o8.brow.below (below_one w8 (.cells #[.int .i64 k, .int .i64 id, .int .i64 a, .int .i64 b, .slice lo8 ys.length cp8] 26))
      have HD8 := hide d8
      clear e8 hb8 hgot8 o8 d8 q7 r2
      go_wp2_with fail
      generalize w8.alloc (.cells #[.int .i64 k, .int .i64 id, .int .i64 a, .int .i64 b, .slice lo8 ys.length cp8] 26) = w8' at *
      refine (drawSameBinds_any _ _ _ z0 _ (h0.below q8) (by omega)).mono ?_
      rintro e w9 ⟨lou, nu, capu, lu, lov, nv, capv, lv, rfl, ru, rv, hb9⟩
      have kb := kept_block KB.out hb9
      have kx := kept_block KX.out hb9
      have q9 := q8.trans (hb9.mono q8.size)
      have r1 := r1.below hb9
      have r8 := r8.below hb9
      clear hb9 q8 KB KX
      obtain ⟨⟨x0, x1, x2, x3, x4⟩, -⟩ := cells5 kb
      obtain ⟨⟨y0, y1, y2, y3, y4⟩, -⟩ := cells5 kx
      have KB := hide kb
      clear kb kx
      have hss : sameD (ys8.map BI.d) (ys.map BI.d) = true := by rw [HD8.out]; exact sameD_self _
      have HSS := hide hss
      clear hss
      go_wp2_with fail
      refine (samePdu_any k id a b _ _ _ ys8 _ _ _ ys _ r8 r1).mono ?_
      rintro e w10 ⟨rfl, hb10⟩
      rw [HSS.out]
      have kb := kept_block KB.out hb10
      have q10 := q9.trans (hb10.mono q9.size)
      have r1 := r1.below hb10
      have ru := ru.below hb10
      have rv := rv.below hb10
      clear hb10 q9 KB r8 x0 x1 x2 x3 x4 y0 y1 y2 y3 y4
      obtain ⟨⟨x0, x1, x2, x3, x4⟩, -⟩ := cells5 kb
      clear kb
      go_wp2_with fail
      refine (implPduOk_any k id a b _ _ _ ys _ r1).mono ?_
      rintro e w11 ⟨rfl, hb11⟩
      rw [HOK.out]
      have q11 := q10.trans (hb11.mono q10.size)
      have ru := ru.below hb11
      have rv := rv.below hb11
      generalize hQ : sameD (lu.map BI.d) (lv.map BI.d) = Q
      have HQ := hide hQ
      clear hb11 q10 r1 hQ x0 x1 x2 x3 x4
      go_wp2_with fail
      refine (implSameBinds_any _ _ _ lu _ _ _ lv _ ru rv).mono ?_
      rintro e w12 ⟨rfl, hb12⟩
      rw [HQ.out]
      have q12 := q11.trans (hb12.mono q11.size)
      have ru := ru.below hb12
      have rv := rv.below hb12
      clear hb12 q11
      go_wp2_with fail
      refine (specSameBinds_any _ _ _ lu _ _ _ lv _ ru rv).mono ?_
      rintro e w13 ⟨rfl, hb13⟩
      rw [HQ.out]
      go_wp2
      go_ret
      exact ⟨by simp, q12.trans (hb13.mono q12.size)⟩

theorem fnPdus_own : ownKnob Tryz.prog.godebug = none := by kernel_rfl
theorem fnPdus_laid : laidOutB Tryz.prog = true := by kernel_rfl

open Go.ChangeShapes Go.WideShapes Go.ChangeAt in
open Go.ChangeMaps (open_string shut_string) in
set_option maxRecDepth 100000 in
theorem fnPdus_lifted (os : Os) (started : os.Started) (H : Type) (enc : TypeId × Value → H) :
    ReturnsInHanded {} Tryz.checked os 3 .any (Rows.fnPdusSpec.pre6 enc Tryz.prog Tryz.f3 Rows.fnPdusRow.domain false) (Rows.fnPdusSpec.post enc Tryz.prog Tryz.f3 false true false false) := by
  refine returnsInHanded_of_change (C := Tryz.checked) fnPdus_own started (by kernel_rfl) Tryz.func3
    (ChangeSpec.witness6 (enc := enc) (C := Tryz.checked) false ⟨#[], #[.slice none 0 0], []⟩ 8 (by kernel_rfl) (by kernel_rfl) (by kernel_rfl) (by kernel_rfl)) ?_
  intro W base args ds gs before hval0 hW hcnd _
  have hval : ∀ (j : Nat) t v, Tryz.f3.params[j]? = some t → args[j]? = some v → Value.okWide Tryz.prog W .any base t v := hval0
  have hW' := hW
  obtain ⟨p, q, hA0, hV, rfl, hfz, hnd⟩ := hW
  have hA : DataW.TrodAll enc Tryz.prog W 0 (fun _ => true) true Tryz.f3.params.toList args.toList ds p := hA0
  rw [Tryz.params3] at hA hval
  obtain ⟨v0, vs0, d0, ds0, p0, q0, hargs, rfl, rfl, h0, r0⟩ := trodAll_cons hA
  obtain ⟨rfl, rfl, rfl⟩ := trodAll_nil r0
  obtain rfl : args = #[v0] := by cases args; simp_all
  obtain ⟨rfl, rfl⟩ := trodVars_none hV
  obtain ⟨a0, len0, cap0, rfl⟩ := okWide_slice Tryz.underlying22 (hval 0 22 v0 rfl rfl)
  have k0 := h0
  have lt0 : ∀ x ∈ p0, x.block < W.heap.size := by obtain ⟨m, hm⟩ := k0; exact DataW.trod_lt m _ _ _ hm
  obtain ⟨z0, w0⟩ : ∃ zs, Row W a0 len0 cap0 zs := by
    obtain ⟨fuel, hf⟩ := h0
    rcases open_ints Tryz.underlying22 Tryz.underlying5 (by kernel_rfl) hf with ⟨hcs, _⟩ | ⟨x, l, c, zs, hcs, _, hl, hm, hz, _, hcell, hwz⟩
    · simp [Value.cells] at hcs
      obtain ⟨rfl, rfl, rfl⟩ := hcs
      exact ⟨[], row_nil W⟩
    · simp [Value.cells] at hcs
      obtain ⟨rfl, rfl, rfl⟩ := hcs
      exact ⟨zs.take len0, row_open hl hm (by simpa using hz) hcell hwz⟩
  clear hA0 hval0
  refine (pdus_walk a0 len0 cap0 z0 W w0).mono fun e W' ⟨he, bel⟩ => ?_
  subst he
  exact ⟨_, rfl, _, _, _, [], _, [], hW', trodAll_mk1 (shut_bool Tryz.underlying4 _), (trodAll_cons_mk (Below.trod fnPdus_laid (by kernel_rfl) (of_decide_eq_true (by kernel_rfl)) k0 bel lt0) trodAll_mk0), rfl, bel.frame _, fun h => by cases h⟩

theorem fnPdus_holds : Rows.FnPdusSaid :=
  OpenClaim.holds_of_wide 3 Tryz.f3 rfl rfl rfl rfl rfl rfl rfl ⟨rfl, rfl, rfl, rfl, rfl⟩ rfl rfl rfl rfl rfl (by kernel_rfl) Tryz.func3 (by kernel_rfl)
    (of_decide_eq_true (by kernel_rfl)) (by unfold Func.isWrapper; first | (rw [if_pos (by decide +kernel)]; kernel_rfl) | (rw [if_neg (by decide +kernel)]; exact ⟨rfl, rfl⟩))
    (fun os started H enc _ => fnPdus_lifted os started H enc)

#print axioms fnPdus_holds

end Go.Proofs.YtamglfhnhjgdjaaGreat
