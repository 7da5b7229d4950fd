/-
  FnTlvs answers true at all bytes: a drawn part that is put comes back with its kind, its bytes and the place behind it, and cut it does not; of what is refused the bytes ahead are left alone.
-/
import Derived.Test.YtjpfoofijjgpcaaGetMade
import Derived.Test.YtjpfoofijjgpcaaTlvMath
import Derived.Test.YtjpfoofijjgpcaaSame
import Derived.Test.YtjpfoofijjgpcaaBig
import Derived.Test.YtjpfoofijjgpcaaDrawd
import Derived.WalkKit
import Derived.ProofKit
import Derived.OpenShut
import Derived.ShutString
import Derived.ChangeOld
import Derived.Below
namespace Go.Proofs.Ytjpfoofijjgpcaa
open Go.RowKit

set_option maxRecDepth 100000 in
set_option maxHeartbeats 1000000 in
theorem tlvs_walk (a0 : Option Addr) (l0 c0 : Nat) (z0 : List Int) (w : World) (h0 : Row w a0 l0 c0 z0) :
    Calls Try.prog 3 #[.slice a0 l0 c0] w fun e w' => e = .returned (.bool true) ∧ Below w.heap.size w w' := by
  by_cases g0 : 1048576 < l0
  · have i1 : (1048576 : Int) < l0 := by omega
    go_enter Try.func3, Try.ntmps3
    go_wp2
    go_ret
    exact ⟨rfl, Below.refl _ _⟩
  go_enter Try.func3, Try.ntmps3
  go_wp2_with fail
  refine (big_no _ _ _ _ g0).mono ?_
  rintro e w' ⟨rfl, rfl⟩
  go_wp2_with fail
  refine (drawPutTlv_any _ _ _ z0 _ h0 (by omega)).mono ?_
  rintro e w1 ⟨ao1, n1, cp1, zs1, tag, ao2, n2, cp2, zs2, rfl, hn1, hn2, r1, r2, hb1⟩
  obtain rfl := r1.size
  obtain rfl := r2.size
  have hlen : (putTlv zs1 tag zs2).length ≤ 1000 := by have := putTlv_length zs1 tag zs2; omega
  generalize hP : putTlv zs1 tag zs2 = P at hlen
  have HP := hide hP
  go_wp2_with fail
  refine (implTlv_made _ _ _ zs1 tag _ _ _ zs2 P HP.out _ r1 r2 (by omega)).mono ?_
  rintro e w2 ⟨ao3, cp3, rfl, -, r3, hb2⟩
  have f2 : Below w'.heap.size w' w2 := hb1.trans (hb2.mono hb1.size)
  by_cases hr : tag < 0 ∨ 255 < tag ∨ 250 < zs2.length
  · have e : P = zs1 := by rw [← hP]; unfold putTlv; rw [if_pos hr]
    have hr' : tag < 0 ∨ (¬ tag < 0 ∧ 255 < tag) ∨ (¬ tag < 0 ∧ ¬ 255 < tag ∧ 250 < zs2.length) := by omega
    have HE := hide e
    clear hr hP e
    rcases hr' with hr | ⟨hr, hr1⟩ | ⟨hr, hr1, hr2⟩
    all_goals
      go_wp2_with fail
      refine (same_same _ _ _ _ _ _ zs1 _ (r3.cong HE.out) (r1.below hb2)).mono ?_
      rintro e w3 ⟨rfl, n3, rfl⟩
      go_wp2
      go_ret
      exact ⟨rfl, below_drewN f2 n3⟩
  · have t0 : ¬ tag < 0 := by omega
    have t1 : ¬ 255 < tag := by omega
    have t2 : ¬ 250 < zs2.length := by omega
    have back := tlv_back zs1 tag zs2 hr
    have cut := tlv_cut zs1 tag zs2 hr
    have hpl : 2 ≤ P.length := by rw [← hP, putTlv_ok _ _ _ hr]; have : 1 ≤ (lenB zs2.length).length := by unfold lenB; split <;> simp
                                  simp; omega
    rw [hP] at back cut
    have HB := hide back
    have HC := hide cut
    clear hr hP back cut
    go_wp2_with fail
    refine (implGet_made _ _ _ P zs1.length tag P.length true zs2 HB.out _ r3 (by omega)).mono ?_
    rintro e w3 ⟨ao4, cp4, rfl, -, r4, hb3⟩
    have hle := r3.le
    have i1 : (0 : Int) ≤ (P.length : Int) - 1 := by omega
    have i2 : (P.length : Int) - 1 ≤ cp3 := by omega
    have i3 : ¬ cp3 = 0 := by omega
    go_wp2_with fail
    refine (implGet_made _ _ _ (P.take (P.length - 1)) zs1.length 0 0 false [] HC.out _ ((r3.below hb3).take (P.length - 1) (by omega)) (by omega)).mono ?_
    rintro e w4 ⟨ao5, cp5, rfl, -, -, hb4⟩
    have f4 : Below w'.heap.size w' w4 := (f2.trans (hb3.mono f2.size)).trans (hb4.mono (Nat.le_trans f2.size hb3.size))
    go_wp2_with fail
    refine (same_same _ _ _ _ _ _ zs2 _ (r4.below hb4) (((r2.below hb2).below hb3).below hb4)).mono ?_
    rintro e w5 ⟨rfl, n5, rfl⟩
    go_wp2
    go_ret
    exact ⟨rfl, below_drewN f4 n5⟩

theorem fnTlvs_own : ownKnob Try.prog.godebug = none := by kernel_rfl
theorem fnTlvs_laid : laidOutB Try.prog = true := by kernel_rfl

open Go.ChangeShapes Go.WideShapes Go.ChangeAt in
open Go.ChangeMaps (open_string shut_string) in
set_option maxRecDepth 100000 in
theorem fnTlvs_lifted (os : Os) (started : os.Started) (H : Type) (enc : TypeId × Value → H) :
    ReturnsInHanded {} Try.checked os 3 .any (Rows.fnTlvsSpec.pre6 enc Try.prog Try.f3 Rows.fnTlvsRow.domain false) (Rows.fnTlvsSpec.post enc Try.prog Try.f3 false true false false) := by
  refine returnsInHanded_of_change (C := Try.checked) fnTlvs_own started (by kernel_rfl) Try.func3
    (ChangeSpec.witness6 (enc := enc) (C := Try.checked) false ⟨#[], #[.slice none 0 0], []⟩ 8 (by kernel_rfl) (by kernel_rfl) (by kernel_rfl) (by kernel_rfl)) ?_
  intro W base args ds gs before hval0 hW hcnd _
  have hval : ∀ (j : Nat) t v, Try.f3.params[j]? = some t → args[j]? = some v → Value.okWide Try.prog W .any base t v := hval0
  have hW' := hW
  obtain ⟨p, q, hA0, hV, rfl, hfz, hnd⟩ := hW
  have hA : DataW.TrodAll enc Try.prog W 0 (fun _ => true) true Try.f3.params.toList args.toList ds p := hA0
  rw [Try.params3] at hA hval
  obtain ⟨v0, vs0, d0, ds0, p0, q0, hargs, rfl, rfl, h0, r0⟩ := trodAll_cons hA
  obtain ⟨rfl, rfl, rfl⟩ := trodAll_nil r0
  obtain rfl : args = #[v0] := by cases args; simp_all
  obtain ⟨rfl, rfl⟩ := trodVars_none hV
  obtain ⟨a0, len0, cap0, rfl⟩ := okWide_slice Try.underlying22 (hval 0 22 v0 rfl rfl)
  have k0 := h0
  have lt0 : ∀ x ∈ p0, x.block < W.heap.size := by obtain ⟨m, hm⟩ := k0; exact DataW.trod_lt m _ _ _ hm
  obtain ⟨z0, w0⟩ : ∃ zs, Row W a0 len0 cap0 zs := by
    obtain ⟨fuel, hf⟩ := h0
    rcases open_ints Try.underlying22 Try.underlying5 (by kernel_rfl) hf with ⟨hcs, _⟩ | ⟨x, l, c, zs, hcs, _, hl, hm, hz, _, hcell, hwz⟩
    · simp [Value.cells] at hcs
      obtain ⟨rfl, rfl, rfl⟩ := hcs
      exact ⟨[], row_nil W⟩
    · simp [Value.cells] at hcs
      obtain ⟨rfl, rfl, rfl⟩ := hcs
      exact ⟨zs.take len0, row_open hl hm (by simpa using hz) hcell hwz⟩
  clear hA0 hval0
  refine (tlvs_walk a0 len0 cap0 z0 W w0).mono fun e W' ⟨he, bel⟩ => ?_
  subst he
  exact ⟨_, rfl, _, _, _, [], _, [], hW', trodAll_mk1 (shut_bool Try.underlying4 _), (trodAll_cons_mk (Below.trod fnTlvs_laid (by kernel_rfl) (of_decide_eq_true (by kernel_rfl)) k0 bel lt0) trodAll_mk0), rfl, bel.frame _, fun h => by cases h⟩

theorem fnTlvs_holds : Rows.FnTlvsSaid :=
  OpenClaim.holds_of_wide 3 Try.f3 rfl rfl rfl rfl rfl rfl rfl ⟨rfl, rfl, rfl, rfl, rfl⟩ rfl rfl rfl rfl rfl (by kernel_rfl) Try.func3 (by kernel_rfl)
    (of_decide_eq_true (by kernel_rfl)) (by unfold Func.isWrapper; first | (rw [if_pos (by decide +kernel)]; kernel_rfl) | (rw [if_neg (by decide +kernel)]; exact ⟨rfl, rfl⟩))
    (fun os started H enc _ => fnTlvs_lifted os started H enc)

#print axioms fnTlvs_holds

end Go.Proofs.Ytjpfoofijjgpcaa
