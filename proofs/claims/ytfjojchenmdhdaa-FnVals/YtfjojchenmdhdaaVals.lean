/-
  FnVals answers true at all bytes: a drawn value that is right comes back of its bytes; of one that is not nothing is put; what is read of drawn bytes is read just where the specification reads it, is right, and has these bytes; two drawn values are the same just where the specification says so.
-/
import Derived.Test.YtfjojchenmdhdaaValMath
import Derived.Test.YtfjojchenmdhdaaDrawVals
import Derived.Test.YtfjojchenmdhdaaDrawVals2
import Derived.Test.YtfjojchenmdhdaaSame
import Derived.Test.YtfjojchenmdhdaaBig
import Derived.Deep.RegionHeld3
import Derived.WalkKit
import Derived.ProofKit
import Derived.OpenShut
import Derived.ShutString
import Derived.ChangeOld
import Derived.Below
namespace Go.Proofs.Ytfjojchenmdhdaa
open Go.RowKit

theorem text_small {K N : Int} {S : ByteArray} {z : List Int} (h : okV K N S z = true) : S.size ≤ 20 := by
  rcases okV_ways h with ⟨-, -, rfl, -⟩ | ⟨-, -, rfl, -⟩ | ⟨-, hl, -, -⟩ | ⟨-, -, -, rfl⟩
  · exact Nat.zero_le _
  · exact Nat.zero_le _
  · exact hl
  · exact Nat.zero_le _

set_option maxRecDepth 100000 in
set_option maxHeartbeats 4000000 in
theorem vals_walk (a0 : Option Addr) (l0 c0 : Nat) (z0 : List Int) (w : World) (h0 : Row w a0 l0 c0 z0) :
    Calls Try.prog 3 #[.slice a0 l0 c0] w fun e w' => e = .returned (.bool true) ∧ Below w.heap.size w w' := by
  by_cases g0 : 1048576 < l0
  · have i1 : (1048576 : Int) < l0 := by omega
    go_enter Try.func3, Try.ntmps3
    go_wp2
    go_ret
    exact ⟨rfl, Below.refl _ _⟩
  go_enter Try.func3, Try.ntmps3
  go_wp2_with fail
  refine (big_no _ _ _ _ g0).mono ?_
  rintro e w0 ⟨rfl, rfl⟩
  go_wp2_with fail
  refine (drawPutVal_any _ _ _ z0 _ h0 (by omega)).mono ?_
  rintro e w1 ⟨ao1, n1, cp1, zs1, K, N, S, ao, n, cap, zs, rfl, hn1, hS, hn, r1, v1, hb1⟩
  obtain rfl := r1.size
  obtain rfl := v1.size
  have hSm : S.size ≤ maxLen := Nat.le_trans hS (by unfold maxLen; omega)
  have hpl := putV_length zs1 K N S zs
  generalize hP : putV zs1 K N S zs = P at hpl
  have HP := hide hP
  clear hP
  go_wp2_with fail
  refine (implPutVal_made _ _ _ zs1 K N S _ _ _ zs P HP.out _ (r1.below (below_one w1 (.cells #[.int .i64 K, .int .i64 N, .string S, .slice ao zs.length cap] 26))) hSm (v1.below (below_one w1 (.cells #[.int .i64 K, .int .i64 N, .string S, .slice ao zs.length cap] 26))) (by omega)).mono ?_
  rintro e w2 ⟨ao2, cp2, rfl, -, r2, hb2⟩
  have kb := kept_block (block_last w1 (.cells #[.int .i64 K, .int .i64 N, .string S, .slice ao zs.length cap] 26)) hb2
  have d2 := (below_one w1 (.cells #[.int .i64 K, .int .i64 N, .string S, .slice ao zs.length cap] 26)).trans (hb2.mono (below_one w1 (.cells #[.int .i64 K, .int .i64 N, .string S, .slice ao zs.length cap] 26)).size)
  have q2 := hb1.trans (d2.mono hb1.size)
  have r12 := r1.below d2
  have v12 := v1.below d2
  clear hb1 hb2 d2 r1 v1
  go_wp2_with fail
  refine (drawGetVal_any _ _ _ z0 _ (h0.below q2) (by omega)).mono ?_
  rintro e w3 ⟨ao3, n3, cp3, zs3, t, rfl, hn3, ht0, ht1, r3, hb3⟩
  obtain rfl := r3.size
  have kb := kept_block kb hb3
  have q3 := q2.trans (hb3.mono q2.size)
  have r2 := r2.below hb3
  have r1 := r12.below hb3
  have v1 := v12.below hb3
  rcases hG : getV zs3 t with ⟨K3, N3, S3, O3, next, is⟩
  have HG := hide hG
  clear hb3 r12 v12 q2
  go_wp2_with fail
  refine (implGetVal_made _ _ _ zs3 t K3 N3 S3 O3 next is HG.out _ r3 (by omega)).mono ?_
  rintro e w4 ⟨ao4, cp4, rfl, -, r4, hb4⟩
  have e4 := hb4.trans ((below_one w4 (.cells #[.int .i64 K3, .int .i64 N3, .string S3, .slice ao4 O3.length cp4] 26)).mono hb4.size)
  have kb := kept_block kb e4
  have q4 := q3.trans (e4.mono q3.size)
  have r2 := r2.below e4
  have r1 := r1.below e4
  have v1 := v1.below e4
  have r3 := r3.below e4
  have ky := block_last w4 (.cells #[.int .i64 K3, .int .i64 N3, .string S3, .slice ao4 O3.length cp4] 26)
  have r4 := r4.below (below_one w4 (.cells #[.int .i64 K3, .int .i64 N3, .string S3, .slice ao4 O3.length cp4] 26))
  clear hb4 e4 q3
  go_wp2_with fail
  generalize w4.alloc (.cells #[.int .i64 K3, .int .i64 N3, .string S3, .slice ao4 O3.length cp4] 26) = w4' at *
  refine (specGetVal_made _ _ _ zs3 t K3 N3 S3 O3 next is HG.out _ r3 (by omega)).mono ?_
  rintro e w5 ⟨ao5, cp5, rfl, -, -, hb5⟩
  have e5 := hb5.trans ((below_one w5 (.cells #[.int .i64 K3, .int .i64 N3, .string S3, .slice ao5 O3.length cp5] 26)).mono hb5.size)
  have kb := kept_block kb e5
  have ky := kept_block ky e5
  have q5 := q4.trans (e5.mono q4.size)
  have r2 := r2.below e5
  have r1 := r1.below e5
  have v1 := v1.below e5
  have r3 := r3.below e5
  have r4 := r4.below e5
  clear hb5 e5 q4 HG
  go_wp2_with fail
  generalize w5.alloc (.cells #[.int .i64 K3, .int .i64 N3, .string S3, .slice ao5 O3.length cp5] 26) = w5' at *
  have KB := hide kb
  have KY := hide ky
  clear kb ky
  cases is
  · clear hG
    go_wp2
    go_quiet (fail)
    have e8 : Below w5'.heap.size w5' (w5'.drewN nq) := below_drewN (Below.refl _ _) _
    generalize w5'.drewN nq = w8 at *
    have kb := kept_block KB.out e8
    have q8 := q5.trans (e8.mono q5.size)
    have r2 := r2.below e8
    have r1 := r1.below e8
    have v1 := v1.below e8
    clear KB KY e8 q5 r3 r4
    obtain ⟨⟨x0, x1, x2, x3⟩, -⟩ := cells4 kb
    go_wp2_with fail
    refine (specValOk_any K N S _ _ _ zs _ v1).mono ?_
    rintro e w9 ⟨rfl, hb9⟩
    have kb := kept_block kb hb9
    have q9 := q8.trans (hb9.mono q8.size)
    have r2 := r2.below hb9
    have r1 := r1.below hb9
    have v1 := v1.below hb9
    clear hb9 q8 x0 x1 x2 x3
    cases hok : okV K N S zs
    · have hPz : zs1 = P := by rw [← HP.out]; simp [putV, hok]
      have HPZ := hide hPz
      have HOK := hide hok
      clear hok hPz
      have r1' : Row w9 ao1 zs1.length cp1 P := r1.cong HPZ.out
      obtain ⟨⟨x0, x1, x2, x3⟩, -⟩ := cells4 kb
      have KB := hide kb
      clear kb r1
      go_wp2_with fail
      refine (same_same _ _ _ _ _ _ P _ r2 r1').mono ?_
      rintro e w10 ⟨rfl, n10, rfl⟩
      have d10 : Below w9.heap.size w9 (w9.drewN n10) := below_drewN (Below.refl _ _) n10
      have kb := kept_block KB.out d10
      have q10 := q9.trans (d10.mono q9.size)
      have v1 := v1.below d10
      generalize w9.drewN n10 = w10 at *
      clear x0 x1 x2 x3 d10 KB q9
      obtain ⟨⟨x0, x1, x2, x3⟩, -⟩ := cells4 kb
      go_wp2_with fail
      refine (implValOk_any K N S _ _ _ zs _ v1).mono ?_
      rintro e w11 ⟨rfl, hb11⟩
      rw [HOK.out]
      go_wp2
      go_ret
      exact ⟨rfl, q10.trans (hb11.mono q10.size)⟩
    · have HB := hide (show getV P zs1.length = (K, N, S, zs, (P.length : Int), true) by rw [← HP.out]; exact val_back zs1 hok)
      have HOK := hide hok
      clear hok
      have KB := hide kb
      clear kb
      go_wp2_with fail
      refine (implGetVal_made _ _ _ P zs1.length K N S zs P.length true HB.out _ r2 (by omega)).mono ?_
      rintro e w10 ⟨ao10, cp10, rfl, -, r10, hb10⟩
      have e10 := hb10.trans ((below_one w10 (.cells #[.int .i64 K, .int .i64 N, .string S, .slice ao10 zs.length cp10] 26)).mono hb10.size)
      have kb := kept_block KB.out e10
      have kx := block_last w10 (.cells #[.int .i64 K, .int .i64 N, .string S, .slice ao10 zs.length cp10] 26)
      have q10 := q9.trans (e10.mono q9.size)
      have v1 := v1.below e10
      have r10 := r10.below (below_one w10 (.cells #[.int .i64 K, .int .i64 N, .string S, .slice ao10 zs.length cp10] 26))
      clear hb10 e10 q9 KB r2 r1 HB
      have KB := hide kb
      have KX := hide kx
      clear kb kx
      go_wp2_with fail
      generalize w10.alloc (.cells #[.int .i64 K, .int .i64 N, .string S, .slice ao10 zs.length cp10] 26) = w10' at *
      refine (drawSameVal_any _ _ _ z0 _ (h0.below q10) (by omega)).mono ?_
      rintro e w11 ⟨Ka, Na, Sa, aoa, na, capa, zsa, Kb, Nb, Sb, aob, nb, capb, zsb, rfl, ra, rb, hb11⟩
      have e11 := hb11.trans ((below_two w11 (.cells #[.int .i64 Ka, .int .i64 Na, .string Sa, .slice aoa na capa] 26) (.cells #[.int .i64 Kb, .int .i64 Nb, .string Sb, .slice aob nb capb] 26)).mono hb11.size)
      have kb := kept_block KB.out e11
      have kx := kept_block KX.out e11
      have q11 := q10.trans (e11.mono q10.size)
      have v1 := v1.below e11
      have r10 := r10.below e11
      have ra := ra.below (below_two w11 (.cells #[.int .i64 Ka, .int .i64 Na, .string Sa, .slice aoa na capa] 26) (.cells #[.int .i64 Kb, .int .i64 Nb, .string Sb, .slice aob nb capb] 26))
      have rb := rb.below (below_two w11 (.cells #[.int .i64 Ka, .int .i64 Na, .string Sa, .slice aoa na capa] 26) (.cells #[.int .i64 Kb, .int .i64 Nb, .string Sb, .slice aob nb capb] 26))
      obtain ⟨ka, kc⟩ := kept_two (Below.refl ((w11.alloc (.cells #[.int .i64 Ka, .int .i64 Na, .string Sa, .slice aoa na capa] 26)).alloc (.cells #[.int .i64 Kb, .int .i64 Nb, .string Sb, .slice aob nb capb] 26)).heap.size ((w11.alloc (.cells #[.int .i64 Ka, .int .i64 Na, .string Sa, .slice aoa na capa] 26)).alloc (.cells #[.int .i64 Kb, .int .i64 Nb, .string Sb, .slice aob nb capb] 26)))
      clear hb11 e11 q10 KB KX
      have KB := hide kb
      have KX := hide kx
      have KA := hide ka
      have KC := hide kc
      clear kb kx ka kc
      have HSS := hide (sameV_self K N S zs)
      generalize hQ : sameV Ka Na Sa zsa Kb Nb Sb zsb = Q
      have HQ := hide hQ
      clear hQ
      go_wp2_with fail
      generalize (w11.alloc (.cells #[.int .i64 Ka, .int .i64 Na, .string Sa, .slice aoa na capa] 26)).alloc (.cells #[.int .i64 Kb, .int .i64 Nb, .string Sb, .slice aob nb capb] 26) = w11' at *
      obtain ⟨⟨x0, x1, x2, x3⟩, -⟩ := cells4 KB.out
      obtain ⟨⟨y0, y1, y2, y3⟩, -⟩ := cells4 KX.out
      obtain ⟨⟨u0, u1, u2, u3⟩, -⟩ := cells4 KA.out
      obtain ⟨⟨t0, t1, t2, t3⟩, -⟩ := cells4 KC.out
      go_region_held3 (fun W => (W.cell? ⟨w1.heap.size, 0, none⟩ = some (.int .i64 K) ∧ W.cell? ⟨w1.heap.size, 1, none⟩ = some (.int .i64 N) ∧ W.cell? ⟨w1.heap.size, 2, none⟩ = some (.string S) ∧ W.cell? ⟨w1.heap.size, 3, none⟩ = some (.slice ao zs.length cap)) ∧ (W.cell? ⟨w10.heap.size, 0, none⟩ = some (.int .i64 K) ∧ W.cell? ⟨w10.heap.size, 1, none⟩ = some (.int .i64 N) ∧ W.cell? ⟨w10.heap.size, 2, none⟩ = some (.string S) ∧ W.cell? ⟨w10.heap.size, 3, none⟩ = some (.slice ao10 zs.length cp10)) ∧ (W.cell? ⟨w11.heap.size, 0, none⟩ = some (.int .i64 Ka) ∧ W.cell? ⟨w11.heap.size, 1, none⟩ = some (.int .i64 Na) ∧ W.cell? ⟨w11.heap.size, 2, none⟩ = some (.string Sa) ∧ W.cell? ⟨w11.heap.size, 3, none⟩ = some (.slice aoa na capa)) ∧ (W.cell? ⟨w11.heap.size + 1, 0, none⟩ = some (.int .i64 Kb) ∧ W.cell? ⟨w11.heap.size + 1, 1, none⟩ = some (.int .i64 Nb) ∧ W.cell? ⟨w11.heap.size + 1, 2, none⟩ = some (.string Sb) ∧ W.cell? ⟨w11.heap.size + 1, 3, none⟩ = some (.slice aob nb capb))) (first | exact ⟨(cells4 (kept_block KB.out f15)).1, (cells4 (kept_block KX.out f15)).1, (cells4 (kept_block KA.out f15)).1, (cells4 (kept_block KC.out f15)).1⟩ | exact ⟨(cells4 (kept_block KB.out f14)).1, (cells4 (kept_block KX.out f14)).1, (cells4 (kept_block KA.out f14)).1, (cells4 (kept_block KC.out f14)).1⟩ | exact ⟨(cells4 (kept_block KB.out f13)).1, (cells4 (kept_block KX.out f13)).1, (cells4 (kept_block KA.out f13)).1, (cells4 (kept_block KC.out f13)).1⟩ | exact ⟨(cells4 (kept_block KB.out f12)).1, (cells4 (kept_block KX.out f12)).1, (cells4 (kept_block KA.out f12)).1, (cells4 (kept_block KC.out f12)).1⟩ | go_keep) (first
        | (go_at_call 19; refine (specSameVal_any Ka Na Sa _ _ _ zsa Kb Nb Sb _ _ _ zsb _ (ra.below f14) (rb.below f14)).mono ?_; rintro e w15 ⟨rfl, hb15⟩; rw [HQ.out]; have f15 := f14.trans (hb15.mono f14.size))
        | (go_at_call 18; have f13' := f13; refine (implSameVal_any Ka Na Sa _ _ _ zsa Kb Nb Sb _ _ _ zsb _ (ra.below f13') (rb.below f13')).mono ?_; rintro e w14 ⟨rfl, hb14⟩; rw [HQ.out]; have f14 := f13'.trans (hb14.mono f13'.size))
        | (go_at_call 18; refine (implSameVal_any K N S _ _ _ zs K N S _ _ _ zs _ (r10.below (below_drewN (Below.refl _ _) _)) (v1.below (below_drewN (Below.refl _ _) _))).mono ?_; rintro e w12 ⟨rfl, hb12⟩; rw [HSS.out]; have f12 := undrew hb12)
        | (go_at_call 14; refine (implValOk_any K N S _ _ _ zs _ (v1.below f12)).mono ?_; rintro e w13 ⟨rfl, hb13⟩; rw [HOK.out]; have f13 := f12.trans (hb13.mono f12.size)))
      go_wp2
      go_ret
      exact ⟨by simp, q11.trans (f15.mono q11.size)⟩
  · obtain ⟨hoky, p, q, rfl, rfl, hpq, hql, hpl', hput⟩ := val_read r3.byte hG
    generalize hPc : (zs3.drop p).take (q - p) = Pc at hput
    obtain ⟨b, off, rfl, hc⟩ := r3.at (by omega)
    have hle := r3.le
    have hcut : Row w5' (some ⟨b, off + p, none⟩) (q - p) (cp3 - p) Pc := (r3.cut hc p (q - p) (by omega) _ _ rfl (fun _ => rfl) (by intro h; cases h)).cong hPc
    have hSm3 : S3.size ≤ maxLen := Nat.le_trans (text_small hoky) (by unfold maxLen; omega)
    have hpcl : Pc.length = q - p := hcut.size
    have i1 : (q : Int) ≤ cp3 := by omega
    have i2 : (p : Int) ≤ q := by omega
    have i3 : ¬ cp3 = p := by omega
    have re : ∀ (wx : World) (B : Nat), Row wx (some ⟨B, 0, none⟩) 0 0 [] := fun _ _ => ⟨rfl, Nat.le_refl _, Nat.zero_le _, (by intro h; cases h), byte_nil, .inl rfl⟩
    have HPUT := hide hput
    have HRE := hide re
    have HPL := hide hpcl
    have HOKY := hide hoky
    clear hG hPc hput hc re hpcl hoky
    obtain ⟨⟨x0, x1, x2, x3⟩, -⟩ := cells4 KY.out
    go_wp2_with fail
    go_region_held3 (fun W => (W.cell? ⟨w4.heap.size, 0, none⟩ = some (.int .i64 K3) ∧ W.cell? ⟨w4.heap.size, 1, none⟩ = some (.int .i64 N3) ∧ W.cell? ⟨w4.heap.size, 2, none⟩ = some (.string S3) ∧ W.cell? ⟨w4.heap.size, 3, none⟩ = some (.slice ao4 O3.length cp4))) (first | exact (cells4 (kept_block KY.out f8)).1 | exact (cells4 (kept_block KY.out f7)).1 | exact (cells4 (kept_block KY.out f6)).1 | go_keep) (first
      | (go_at_call 14; refine (implValOk_any K3 N3 S3 _ _ _ O3 _ (r4.below (below_drewN (Below.refl _ _) _))).mono ?_; rintro e w6 ⟨rfl, hb6⟩; rw [HOKY.out]; have f6 := undrew hb6)
      | (go_at_call 10; refine (implPutVal_made _ _ _ [] K3 N3 S3 _ _ _ O3 Pc HPUT.out _ (HRE.out _ _) hSm3 ((r4.below f6).below (below_one w6 _)) (by omega)).mono ?_; rintro e w7 ⟨ao7, cp7, rfl, -, r7, hb7⟩; have f7 := f6.trans (((below_one w6 _).trans (hb7.mono (below_one w6 _).size)).mono f6.size))
      | (go_at_call 15; refine (same_same _ _ _ _ _ _ Pc _ r7 (hcut.below f7)).mono ?_; rintro e w8 ⟨rfl, n8, rfl⟩; have f8 := below_drewN f7 n8))
    have e8 := f8
    clear f6 f7 f8 r7 hb6 hb7 hcut HPUT HRE HPL HOKY x0 x1 x2 x3 i1 i2 i3 hSm3 hpq hql hpl' hle
    generalize w7.drewN n8 = w8 at *
    have kb := kept_block KB.out e8
    have q8 := q5.trans (e8.mono q5.size)
    have r2 := r2.below e8
    have r1 := r1.below e8
    have v1 := v1.below e8
    clear KB KY e8 q5 r3 r4
    obtain ⟨⟨x0, x1, x2, x3⟩, -⟩ := cells4 kb
    go_wp2_with fail
    refine (specValOk_any K N S _ _ _ zs _ v1).mono ?_
    rintro e w9 ⟨rfl, hb9⟩
    have kb := kept_block kb hb9
    have q9 := q8.trans (hb9.mono q8.size)
    have r2 := r2.below hb9
    have r1 := r1.below hb9
    have v1 := v1.below hb9
    clear hb9 q8 x0 x1 x2 x3
    cases hok : okV K N S zs
    · have hPz : zs1 = P := by rw [← HP.out]; simp [putV, hok]
      have HPZ := hide hPz
      have HOK := hide hok
      clear hok hPz
      have r1' : Row w9 ao1 zs1.length cp1 P := r1.cong HPZ.out
      obtain ⟨⟨x0, x1, x2, x3⟩, -⟩ := cells4 kb
      have KB := hide kb
      clear kb r1
      go_wp2_with fail
      refine (same_same _ _ _ _ _ _ P _ r2 r1').mono ?_
      rintro e w10 ⟨rfl, n10, rfl⟩
      have d10 : Below w9.heap.size w9 (w9.drewN n10) := below_drewN (Below.refl _ _) n10
      have kb := kept_block KB.out d10
      have q10 := q9.trans (d10.mono q9.size)
      have v1 := v1.below d10
      generalize w9.drewN n10 = w10 at *
      clear x0 x1 x2 x3 d10 KB q9
      obtain ⟨⟨x0, x1, x2, x3⟩, -⟩ := cells4 kb
      go_wp2_with fail
      refine (implValOk_any K N S _ _ _ zs _ v1).mono ?_
      rintro e w11 ⟨rfl, hb11⟩
      rw [HOK.out]
      go_wp2
      go_ret
      exact ⟨rfl, q10.trans (hb11.mono q10.size)⟩
    · have HB := hide (show getV P zs1.length = (K, N, S, zs, (P.length : Int), true) by rw [← HP.out]; exact val_back zs1 hok)
      have HOK := hide hok
      clear hok
      have KB := hide kb
      clear kb
      go_wp2_with fail
      refine (implGetVal_made _ _ _ P zs1.length K N S zs P.length true HB.out _ r2 (by omega)).mono ?_
      rintro e w10 ⟨ao10, cp10, rfl, -, r10, hb10⟩
      have e10 := hb10.trans ((below_one w10 (.cells #[.int .i64 K, .int .i64 N, .string S, .slice ao10 zs.length cp10] 26)).mono hb10.size)
      have kb := kept_block KB.out e10
      have kx := block_last w10 (.cells #[.int .i64 K, .int .i64 N, .string S, .slice ao10 zs.length cp10] 26)
      have q10 := q9.trans (e10.mono q9.size)
      have v1 := v1.below e10
      have r10 := r10.below (below_one w10 (.cells #[.int .i64 K, .int .i64 N, .string S, .slice ao10 zs.length cp10] 26))
      clear hb10 e10 q9 KB r2 r1 HB
      have KB := hide kb
      have KX := hide kx
      clear kb kx
      go_wp2_with fail
      generalize w10.alloc (.cells #[.int .i64 K, .int .i64 N, .string S, .slice ao10 zs.length cp10] 26) = w10' at *
      refine (drawSameVal_any _ _ _ z0 _ (h0.below q10) (by omega)).mono ?_
      rintro e w11 ⟨Ka, Na, Sa, aoa, na, capa, zsa, Kb, Nb, Sb, aob, nb, capb, zsb, rfl, ra, rb, hb11⟩
      have e11 := hb11.trans ((below_two w11 (.cells #[.int .i64 Ka, .int .i64 Na, .string Sa, .slice aoa na capa] 26) (.cells #[.int .i64 Kb, .int .i64 Nb, .string Sb, .slice aob nb capb] 26)).mono hb11.size)
      have kb := kept_block KB.out e11
      have kx := kept_block KX.out e11
      have q11 := q10.trans (e11.mono q10.size)
      have v1 := v1.below e11
      have r10 := r10.below e11
      have ra := ra.below (below_two w11 (.cells #[.int .i64 Ka, .int .i64 Na, .string Sa, .slice aoa na capa] 26) (.cells #[.int .i64 Kb, .int .i64 Nb, .string Sb, .slice aob nb capb] 26))
      have rb := rb.below (below_two w11 (.cells #[.int .i64 Ka, .int .i64 Na, .string Sa, .slice aoa na capa] 26) (.cells #[.int .i64 Kb, .int .i64 Nb, .string Sb, .slice aob nb capb] 26))
      obtain ⟨ka, kc⟩ := kept_two (Below.refl ((w11.alloc (.cells #[.int .i64 Ka, .int .i64 Na, .string Sa, .slice aoa na capa] 26)).alloc (.cells #[.int .i64 Kb, .int .i64 Nb, .string Sb, .slice aob nb capb] 26)).heap.size ((w11.alloc (.cells #[.int .i64 Ka, .int .i64 Na, .string Sa, .slice aoa na capa] 26)).alloc (.cells #[.int .i64 Kb, .int .i64 Nb, .string Sb, .slice aob nb capb] 26)))
      clear hb11 e11 q10 KB KX
      have KB := hide kb
      have KX := hide kx
      have KA := hide ka
      have KC := hide kc
      clear kb kx ka kc
      have HSS := hide (sameV_self K N S zs)
      generalize hQ : sameV Ka Na Sa zsa Kb Nb Sb zsb = Q
      have HQ := hide hQ
      clear hQ
      go_wp2_with fail
      generalize (w11.alloc (.cells #[.int .i64 Ka, .int .i64 Na, .string Sa, .slice aoa na capa] 26)).alloc (.cells #[.int .i64 Kb, .int .i64 Nb, .string Sb, .slice aob nb capb] 26) = w11' at *
      obtain ⟨⟨x0, x1, x2, x3⟩, -⟩ := cells4 KB.out
      obtain ⟨⟨y0, y1, y2, y3⟩, -⟩ := cells4 KX.out
      obtain ⟨⟨u0, u1, u2, u3⟩, -⟩ := cells4 KA.out
      obtain ⟨⟨t0, t1, t2, t3⟩, -⟩ := cells4 KC.out
      go_region_held3 (fun W => (W.cell? ⟨w1.heap.size, 0, none⟩ = some (.int .i64 K) ∧ W.cell? ⟨w1.heap.size, 1, none⟩ = some (.int .i64 N) ∧ W.cell? ⟨w1.heap.size, 2, none⟩ = some (.string S) ∧ W.cell? ⟨w1.heap.size, 3, none⟩ = some (.slice ao zs.length cap)) ∧ (W.cell? ⟨w10.heap.size, 0, none⟩ = some (.int .i64 K) ∧ W.cell? ⟨w10.heap.size, 1, none⟩ = some (.int .i64 N) ∧ W.cell? ⟨w10.heap.size, 2, none⟩ = some (.string S) ∧ W.cell? ⟨w10.heap.size, 3, none⟩ = some (.slice ao10 zs.length cp10)) ∧ (W.cell? ⟨w11.heap.size, 0, none⟩ = some (.int .i64 Ka) ∧ W.cell? ⟨w11.heap.size, 1, none⟩ = some (.int .i64 Na) ∧ W.cell? ⟨w11.heap.size, 2, none⟩ = some (.string Sa) ∧ W.cell? ⟨w11.heap.size, 3, none⟩ = some (.slice aoa na capa)) ∧ (W.cell? ⟨w11.heap.size + 1, 0, none⟩ = some (.int .i64 Kb) ∧ W.cell? ⟨w11.heap.size + 1, 1, none⟩ = some (.int .i64 Nb) ∧ W.cell? ⟨w11.heap.size + 1, 2, none⟩ = some (.string Sb) ∧ W.cell? ⟨w11.heap.size + 1, 3, none⟩ = some (.slice aob nb capb))) (first | exact ⟨(cells4 (kept_block KB.out f15)).1, (cells4 (kept_block KX.out f15)).1, (cells4 (kept_block KA.out f15)).1, (cells4 (kept_block KC.out f15)).1⟩ | exact ⟨(cells4 (kept_block KB.out f14)).1, (cells4 (kept_block KX.out f14)).1, (cells4 (kept_block KA.out f14)).1, (cells4 (kept_block KC.out f14)).1⟩ | exact ⟨(cells4 (kept_block KB.out f13)).1, (cells4 (kept_block KX.out f13)).1, (cells4 (kept_block KA.out f13)).1, (cells4 (kept_block KC.out f13)).1⟩ | exact ⟨(cells4 (kept_block KB.out f12)).1, (cells4 (kept_block KX.out f12)).1, (cells4 (kept_block KA.out f12)).1, (cells4 (kept_block KC.out f12)).1⟩ | go_keep) (first
        | (go_at_call 19; refine (specSameVal_any Ka Na Sa _ _ _ zsa Kb Nb Sb _ _ _ zsb _ (ra.below f14) (rb.below f14)).mono ?_; rintro e w15 ⟨rfl, hb15⟩; rw [HQ.out]; have f15 := f14.trans (hb15.mono f14.size))
        | (go_at_call 18; have f13' := f13; refine (implSameVal_any Ka Na Sa _ _ _ zsa Kb Nb Sb _ _ _ zsb _ (ra.below f13') (rb.below f13')).mono ?_; rintro e w14 ⟨rfl, hb14⟩; rw [HQ.out]; have f14 := f13'.trans (hb14.mono f13'.size))
        | (go_at_call 18; refine (implSameVal_any K N S _ _ _ zs K N S _ _ _ zs _ (r10.below (below_drewN (Below.refl _ _) _)) (v1.below (below_drewN (Below.refl _ _) _))).mono ?_; rintro e w12 ⟨rfl, hb12⟩; rw [HSS.out]; have f12 := undrew hb12)
        | (go_at_call 14; refine (implValOk_any K N S _ _ _ zs _ (v1.below f12)).mono ?_; rintro e w13 ⟨rfl, hb13⟩; rw [HOK.out]; have f13 := f12.trans (hb13.mono f12.size)))
      go_wp2
      go_ret
      exact ⟨by simp, q11.trans (f15.mono q11.size)⟩

theorem fnVals_own : ownKnob Try.prog.godebug = none := by kernel_rfl
theorem fnVals_laid : laidOutB Try.prog = true := by kernel_rfl

open Go.ChangeShapes Go.WideShapes Go.ChangeAt in
open Go.ChangeMaps (open_string shut_string) in
set_option maxRecDepth 100000 in
theorem fnVals_lifted (os : Os) (started : os.Started) (H : Type) (enc : TypeId × Value → H) :
    ReturnsInHanded {} Try.checked os 3 .any (Rows.fnValsSpec.pre6 enc Try.prog Try.f3 Rows.fnValsRow.domain false) (Rows.fnValsSpec.post enc Try.prog Try.f3 false true false false) := by
  refine returnsInHanded_of_change (C := Try.checked) fnVals_own started (by kernel_rfl) Try.func3
    (ChangeSpec.witness6 (enc := enc) (C := Try.checked) false ⟨#[], #[.slice none 0 0], []⟩ 8 (by kernel_rfl) (by kernel_rfl) (by kernel_rfl) (by kernel_rfl)) ?_
  intro W base args ds gs before hval0 hW hcnd _
  have hval : ∀ (j : Nat) t v, Try.f3.params[j]? = some t → args[j]? = some v → Value.okWide Try.prog W .any base t v := hval0
  have hW' := hW
  obtain ⟨p, q, hA0, hV, rfl, hfz, hnd⟩ := hW
  have hA : DataW.TrodAll enc Try.prog W 0 (fun _ => true) true Try.f3.params.toList args.toList ds p := hA0
  rw [Try.params3] at hA hval
  obtain ⟨v0, vs0, d0, ds0, p0, q0, hargs, rfl, rfl, h0, r0⟩ := trodAll_cons hA
  obtain ⟨rfl, rfl, rfl⟩ := trodAll_nil r0
  obtain rfl : args = #[v0] := by cases args; simp_all
  obtain ⟨rfl, rfl⟩ := trodVars_none hV
  obtain ⟨a0, len0, cap0, rfl⟩ := okWide_slice Try.underlying22 (hval 0 22 v0 rfl rfl)
  have k0 := h0
  have lt0 : ∀ x ∈ p0, x.block < W.heap.size := by obtain ⟨m, hm⟩ := k0; exact DataW.trod_lt m _ _ _ hm
  obtain ⟨z0, w0⟩ : ∃ zs, Row W a0 len0 cap0 zs := by
    obtain ⟨fuel, hf⟩ := h0
    rcases open_ints Try.underlying22 Try.underlying5 (by kernel_rfl) hf with ⟨hcs, _⟩ | ⟨x, l, c, zs, hcs, _, hl, hm, hz, _, hcell, hwz⟩
    · simp [Value.cells] at hcs
      obtain ⟨rfl, rfl, rfl⟩ := hcs
      exact ⟨[], row_nil W⟩
    · simp [Value.cells] at hcs
      obtain ⟨rfl, rfl, rfl⟩ := hcs
      exact ⟨zs.take len0, row_open hl hm (by simpa using hz) hcell hwz⟩
  clear hA0 hval0
  refine (vals_walk a0 len0 cap0 z0 W w0).mono fun e W' ⟨he, bel⟩ => ?_
  subst he
  exact ⟨_, rfl, _, _, _, [], _, [], hW', trodAll_mk1 (shut_bool Try.underlying4 _), (trodAll_cons_mk (Below.trod fnVals_laid (by kernel_rfl) (of_decide_eq_true (by kernel_rfl)) k0 bel lt0) trodAll_mk0), rfl, bel.frame _, fun h => by cases h⟩

theorem fnVals_holds : Rows.FnValsSaid :=
  OpenClaim.holds_of_wide 3 Try.f3 rfl rfl rfl rfl rfl rfl rfl ⟨rfl, rfl, rfl, rfl, rfl⟩ rfl rfl rfl rfl rfl (by kernel_rfl) Try.func3 (by kernel_rfl)
    (of_decide_eq_true (by kernel_rfl)) (by unfold Func.isWrapper; first | (rw [if_pos (by decide +kernel)]; kernel_rfl) | (rw [if_neg (by decide +kernel)]; exact ⟨rfl, rfl⟩))
    (fun os started H enc _ => fnVals_lifted os started H enc)

#print axioms fnVals_holds

end Go.Proofs.Ytfjojchenmdhdaa
