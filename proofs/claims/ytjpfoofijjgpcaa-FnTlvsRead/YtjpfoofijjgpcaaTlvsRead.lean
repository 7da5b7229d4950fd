/-
  FnTlvsRead answers true at all bytes: what is read of drawn bytes is read just where the specification reads it, and put again it has these bytes.
-/
import Derived.Test.YtjpfoofijjgpcaaGetMade
import Derived.Test.YtjpfoofijjgpcaaTlvMath
import Derived.Test.YtjpfoofijjgpcaaSame
import Derived.Test.YtjpfoofijjgpcaaBig
import Derived.Test.YtjpfoofijjgpcaaDrawd
import Derived.Deep.RegionHeld3
import Derived.WalkKit
import Derived.ProofKit
import Derived.OpenShut
import Derived.ShutString
import Derived.ChangeOld
import Derived.Below
namespace Go.Proofs.Ytjpfoofijjgpcaa
open Go.RowKit

set_option maxRecDepth 100000 in
set_option maxHeartbeats 1000000 in
theorem tlvsRead_walk (a0 : Option Addr) (l0 c0 : Nat) (z0 : List Int) (w : World) (h0 : Row w a0 l0 c0 z0) :
    Calls Try.prog 4 #[.slice a0 l0 c0] w fun e w' => e = .returned (.bool true) ∧ Below w.heap.size w w' := by
  by_cases g0 : 1048576 < l0
  · have i1 : (1048576 : Int) < l0 := by omega
    go_enter Try.func4, Try.ntmps4
    go_wp2
    go_ret
    exact ⟨rfl, Below.refl _ _⟩
  go_enter Try.func4, Try.ntmps4
  go_wp2_with fail
  refine (big_no _ _ _ _ g0).mono ?_
  rintro e w' ⟨rfl, rfl⟩
  go_wp2_with fail
  refine (drawGetTlv_any _ _ _ z0 _ h0 (by omega)).mono ?_
  rintro e w1 ⟨ao1, n1, cp1, zs1, t, rfl, hn1, ht0, ht1, r1, hb1⟩
  obtain rfl := r1.size
  obtain ⟨⟨k, x, next, ok⟩, hG⟩ : ∃ G, getTlv zs1 t = G := ⟨_, rfl⟩
  have HG := hide hG
  go_wp2_with fail
  refine (implGet_made _ _ _ zs1 t k next ok x HG.out _ r1 (by omega)).mono ?_
  rintro e w2 ⟨ao2, cp2, rfl, -, r2, hb2⟩
  have f2 : Below w'.heap.size w' w2 := hb1.trans (hb2.mono hb1.size)
  go_wp2_with fail
  refine (specGet_made _ _ _ zs1 t k next ok x HG.out _ (r1.below hb2) (by omega)).mono ?_
  rintro e w3 ⟨ao3, cp3, rfl, -, -, hb3⟩
  have f3 : Below w'.heap.size w' w3 := f2.trans (hb3.mono f2.size)
  have q2 := r2.below hb3
  have q1 := (r1.below hb2).below hb3
  clear hb1 hb2 hb3 r1 r2 f2
  cases ok
  · clear hG
    go_wp2
    go_quiet (fail)
    go_wp2
    go_ret
    exact ⟨rfl, below_drewN f3 _⟩
  · obtain ⟨p, q, rfl, rfl, hpq, hql, hput⟩ := tlv_read zs1 q1.byte t k next x hG
    have hxl : x.length ≤ 2001 := by have := getTlv_length zs1 p; rw [hG] at this; simp at this; omega
    have hp : p < zs1.length := by
      by_cases h : p < zs1.length
      · exact h
      · unfold getTlv at hG; rw [if_pos (.inr (by omega))] at hG; simp at hG
    generalize hP : (zs1.drop p).take (q - p) = P at hput
    obtain ⟨b, off, rfl, hc⟩ := q1.at (by omega)
    have hle := q1.le
    have hcut : Row w3 (some ⟨b, off + p, none⟩) (q - p) (cp1 - p) P := (q1.cut hc p (q - p) (by omega) _ _ rfl (fun _ => rfl) (by intro h; cases h)).cong hP
    have hpl : P.length = q - p := hcut.size
    have i1 : (q : Int) ≤ cp1 := by omega
    have i2 : (p : Int) ≤ q := by omega
    have i3 : ¬ cp1 = p := by omega
    have re : ∀ (wx : World) (B : Nat), Row wx (some ⟨B, 0, none⟩) 0 0 [] := fun _ _ => ⟨rfl, Nat.le_refl _, Nat.zero_le _, (by intro h; cases h), byte_nil, .inl rfl⟩
    have HPUT := hide hput
    have HRE := hide re
    have HPL := hide hpl
    clear hG hP hput hc re hpl
    go_wp2
    go_region_held3 (fun _ => True) (trivial) (first | (go_at_call 11; refine (implTlv_made _ _ _ [] k _ _ _ x P HPUT.out _ (HRE.out _ _) (q2.below ((Below.refl _ _).alloc (Nat.le_refl _) _).drew) (by omega)).mono ?_; rintro e w5 ⟨ao5, cp5, rfl, -, r5, hb5⟩) | (go_at_call 12; refine (same_same _ _ _ _ _ _ P _ r5 (hcut.below (((Below.refl _ _).alloc (Nat.le_refl _) _).drew.trans (hb5.mono (by simp))))).mono ?_; rintro e w6 ⟨rfl, n6, rfl⟩))
    all_goals
      go_wp2
      go_ret
      exact ⟨rfl, below_drewN ((f3.alloc f3.size _).drew.trans (hb5.mono (by have := f3.size; simp; omega))) _⟩

theorem fnTlvsRead_own : ownKnob Try.prog.godebug = none := by kernel_rfl
theorem fnTlvsRead_laid : laidOutB Try.prog = true := by kernel_rfl

open Go.ChangeShapes Go.WideShapes Go.ChangeAt in
open Go.ChangeMaps (open_string shut_string) in
set_option maxRecDepth 100000 in
theorem fnTlvsRead_lifted (os : Os) (started : os.Started) (H : Type) (enc : TypeId × Value → H) :
    ReturnsInHanded {} Try.checked os 4 .any (Rows.fnTlvsReadSpec.pre6 enc Try.prog Try.f4 Rows.fnTlvsReadRow.domain false) (Rows.fnTlvsReadSpec.post enc Try.prog Try.f4 false true false false) := by
  refine returnsInHanded_of_change (C := Try.checked) fnTlvsRead_own started (by kernel_rfl) Try.func4
    (ChangeSpec.witness6 (enc := enc) (C := Try.checked) false ⟨#[], #[.slice none 0 0], []⟩ 8 (by kernel_rfl) (by kernel_rfl) (by kernel_rfl) (by kernel_rfl)) ?_
  intro W base args ds gs before hval0 hW hcnd _
  have hval : ∀ (j : Nat) t v, Try.f4.params[j]? = some t → args[j]? = some v → Value.okWide Try.prog W .any base t v := hval0
  have hW' := hW
  obtain ⟨p, q, hA0, hV, rfl, hfz, hnd⟩ := hW
  have hA : DataW.TrodAll enc Try.prog W 0 (fun _ => true) true Try.f4.params.toList args.toList ds p := hA0
  rw [Try.params4] at hA hval
  obtain ⟨v0, vs0, d0, ds0, p0, q0, hargs, rfl, rfl, h0, r0⟩ := trodAll_cons hA
  obtain ⟨rfl, rfl, rfl⟩ := trodAll_nil r0
  obtain rfl : args = #[v0] := by cases args; simp_all
  obtain ⟨rfl, rfl⟩ := trodVars_none hV
  obtain ⟨a0, len0, cap0, rfl⟩ := okWide_slice Try.underlying22 (hval 0 22 v0 rfl rfl)
  have k0 := h0
  have lt0 : ∀ x ∈ p0, x.block < W.heap.size := by obtain ⟨m, hm⟩ := k0; exact DataW.trod_lt m _ _ _ hm
  obtain ⟨z0, w0⟩ : ∃ zs, Row W a0 len0 cap0 zs := by
    obtain ⟨fuel, hf⟩ := h0
    rcases open_ints Try.underlying22 Try.underlying5 (by kernel_rfl) hf with ⟨hcs, _⟩ | ⟨x, l, c, zs, hcs, _, hl, hm, hz, _, hcell, hwz⟩
    · simp [Value.cells] at hcs
      obtain ⟨rfl, rfl, rfl⟩ := hcs
      exact ⟨[], row_nil W⟩
    · simp [Value.cells] at hcs
      obtain ⟨rfl, rfl, rfl⟩ := hcs
      exact ⟨zs.take len0, row_open hl hm (by simpa using hz) hcell hwz⟩
  clear hA0 hval0
  refine (tlvsRead_walk a0 len0 cap0 z0 W w0).mono fun e W' ⟨he, bel⟩ => ?_
  subst he
  exact ⟨_, rfl, _, _, _, [], _, [], hW', trodAll_mk1 (shut_bool Try.underlying4 _), (trodAll_cons_mk (Below.trod fnTlvsRead_laid (by kernel_rfl) (of_decide_eq_true (by kernel_rfl)) k0 bel lt0) trodAll_mk0), rfl, bel.frame _, fun h => by cases h⟩

theorem fnTlvsRead_holds : Rows.FnTlvsReadSaid :=
  OpenClaim.holds_of_wide 4 Try.f4 rfl rfl rfl rfl rfl rfl rfl ⟨rfl, rfl, rfl, rfl, rfl⟩ rfl rfl rfl rfl rfl (by kernel_rfl) Try.func4 (by kernel_rfl)
    (of_decide_eq_true (by kernel_rfl)) (by unfold Func.isWrapper; first | (rw [if_pos (by decide +kernel)]; kernel_rfl) | (rw [if_neg (by decide +kernel)]; exact ⟨rfl, rfl⟩))
    (fun os started H enc _ => fnTlvsRead_lifted os started H enc)

#print axioms fnTlvsRead_holds

end Go.Proofs.Ytjpfoofijjgpcaa
