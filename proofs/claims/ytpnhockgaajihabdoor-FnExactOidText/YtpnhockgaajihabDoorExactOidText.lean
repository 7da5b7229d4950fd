/-
  FnExactOidText answers true at every list: OidText answers as the specification and writes into no argument. The table of powers of ten that the library reads is tied to the program's text.
-/
import Derived.Test.YtpnhockgaajihabDoorTextImpl
import Derived.Test.YtpnhockgaajihabDoorIHelp
import Derived.WalkKit
import Derived.ProofKit
import Derived.OpenShut
import Derived.ShutString
import Derived.ChangeOld
import Derived.Below
import Derived.LaidMore
import Derived.Stop.Joined
import Derived.Lib.LaidTab
import Derived.Stop.LaidErr
import Derived.SevenTiedAt
import Derived.Test.YtpnhockgaajihabDoorCards
import Derived.Test.YtpnhockgaajihabDoorTie
namespace Go.Proofs.YtpnhockgaajihabDoor
open Go.RowKit

set_option maxRecDepth 100000 in
set_option maxHeartbeats 1000000 in
theorem exactOidText_walk (a0 : Option Addr) (l0 c0 : Nat) (z0 : List Int) (w : World) (h0 : IRow w a0 l0 c0 z0) (htab : Tab w) :
    Calls Tryd.prog 3 #[.slice a0 l0 c0] w fun e w' => e = .returned (.bool true) ∧ Below w.heap.size w w' := by
  by_cases g0 : 1048576 < l0
  · go_enter Tryd.func3, Tryd.ntmps3
    go_wp2
    go_ret
    exact ⟨rfl, Below.refl _ _⟩
  generalize hP : textO z0 = P
  have HP := hide hP
  have HTB := hide htab
  clear hP htab
  go_enter Tryd.func3, Tryd.ntmps3
  go_wp2_with fail
  refine (copyI_made _ _ _ z0 _ h0 (by omega)).mono ?_
  rintro e w1 ⟨ao1, cp1, rfl, -, r1, hb1⟩
  go_wp2_with fail
  refine (specText_any _ _ _ z0 P HP.out _ r1).mono ?_
  rintro e w2 ⟨rfl, hb2⟩
  have q2 : Below w.heap.size w w2 := hb1.trans (hb2.mono hb1.size)
  clear hb1 hb2 r1
  go_wp2_with fail
  refine (copyI_made _ _ _ z0 _ (h0.below q2) (by omega)).mono ?_
  rintro e w3 ⟨ao3, cp3, rfl, -, r3, hb3⟩
  have q3 : Below w.heap.size w w3 := q2.trans (hb3.mono q2.size)
  go_wp2_with fail
  refine (implText_any _ _ _ z0 P HP.out _ r3 (tab_below HTB.out q3)).mono ?_
  rintro e w4 ⟨rfl, hb4⟩
  have q4 : Below w.heap.size w w4 := q3.trans (hb4.mono q3.size)
  have r4 := r3.below hb4
  clear hb3 hb4 q2 q3 r3
  have hsame : ((⟨P.toArray⟩ : ByteArray).toList == (⟨P.toArray⟩ : ByteArray).toList) = true := by simp
  go_wp2_with fail
  refine (copyI_made _ _ _ z0 _ (h0.below q4) (by omega)).mono ?_
  rintro e w5 ⟨ao5, cp5, rfl, -, r5, hb5⟩
  go_wp2_with fail
  refine (eqI_same _ _ _ _ _ _ z0 _ (r4.below hb5) r5).mono ?_
  rintro e w6 ⟨rfl, n6, rfl⟩
  go_wp2
  go_ret
  exact ⟨rfl, below_drewN (q4.trans (hb5.mono q4.size)) n6⟩

theorem fnExactOidText_own : ownKnob Tryd.prog.godebug = none := by kernel_rfl
theorem fnExactOidText_laid : laidOutB Tryd.prog = true := by kernel_rfl

theorem fnExactOidText_met (os : Os) (args : Array Value) : laidMetH Tryd.prog Rows.fnExactOidTextRow.laid ((World.doorLaid Tryd.prog 400 os).forCall (fun _ _ => 0) ⟨#[], args, []⟩).memory :=
  laidMetH_of_parts3 (fuel := 8) (laidMet_of_run' 8 (by kernel_rfl) (by kernel_rfl)) (by kernel_rfl) (by kernel_rfl)

theorem fnExactOidText_tab {W : World} (h : laidMetH Tryd.prog Rows.fnExactOidTextRow.laid W) : Tab W := by
  rw [MakeChecks.laidMetH_plain _ _ _ (by kernel_rfl)] at h
  have h2 := laidMet.tail (laidMet.tail (show laidMet Tryd.prog (_ :: _ :: _) W from h))
  first
    | exact Go.Lib.tabIs_of_head (g := 0) (by kernel_rfl) (by kernel_rfl) Tryd.underlying54 Tryd.underlying44 (by kernel_rfl) (by kernel_rfl) h2
    | exact Go.Lib.tabIs_of_head (g := 1) (by kernel_rfl) (by kernel_rfl) Tryd.underlying54 Tryd.underlying44 (by kernel_rfl) (by kernel_rfl) h2
    | exact Go.Lib.tabIs_of_head (g := 2) (by kernel_rfl) (by kernel_rfl) Tryd.underlying54 Tryd.underlying44 (by kernel_rfl) (by kernel_rfl) h2
    | exact Go.Lib.tabIs_of_head (g := 3) (by kernel_rfl) (by kernel_rfl) Tryd.underlying54 Tryd.underlying44 (by kernel_rfl) (by kernel_rfl) h2
    | exact Go.Lib.tabIs_of_head (g := 4) (by kernel_rfl) (by kernel_rfl) Tryd.underlying54 Tryd.underlying44 (by kernel_rfl) (by kernel_rfl) h2

open Go.ChangeShapes Go.WideShapes Go.ChangeAt in
open Go.ChangeMaps (open_string shut_string) in
set_option maxRecDepth 100000 in
theorem fnExactOidText_lifted (os : Os) (started : os.Started) (H : Type) (enc : TypeId × Value → H) :
    ReturnsInHanded {} Tryd.checked os 3 .any (fun w args => (Rows.fnExactOidTextSpec.pre enc Tryd.prog Tryd.f3 [] false w args ∧ laidMetH Tryd.prog Rows.fnExactOidTextRow.laid w) ∧ sizedMet enc Tryd.prog Tryd.f3 (OpenSpec.ofChange Rows.fnExactOidTextSpec) false w args) (Rows.fnExactOidTextSpec.post enc Tryd.prog Tryd.f3 false true false false) := by
  refine returnsInHanded_of_change_and (C := Tryd.checked) (X := fun w _ => laidMetH Tryd.prog Rows.fnExactOidTextRow.laid w) (fun _ _ _ hh h => h.of_heap hh) fnExactOidText_own started (by kernel_rfl) Tryd.func3
    (ChangeSpec.witness_shaped (enc := enc) (C := Tryd.checked) (os := os) (X := fun w _ => laidMetH Tryd.prog Rows.fnExactOidTextRow.laid w) false (World.doorLaid Tryd.prog 400 os) #[.slice none 0 0] 8 rfl (World.shaped_of_RefB (by kernel_rfl) (by kernel_rfl)) (by kernel_rfl) (by kernel_rfl) (by kernel_rfl) (fnExactOidText_met os _)) ?_
  intro W base args ds gs before hval0 hW _ _ hL _
  have hval : ∀ (j : Nat) t v, Tryd.f3.params[j]? = some t → args[j]? = some v → Value.okWide Tryd.prog W .any base t v := hval0
  have hW' := hW
  obtain ⟨p, q, hA0, hV, rfl, hfz, hnd⟩ := hW
  have hA : DataW.TrodAll enc Tryd.prog W 0 (fun _ => true) true Tryd.f3.params.toList args.toList ds p := hA0
  rw [Tryd.params3] at hA hval
  obtain ⟨v0, vs0, d0, ds0, p0, q0, hargs, rfl, rfl, h0, r0⟩ := trodAll_cons hA
  obtain ⟨rfl, rfl, rfl⟩ := trodAll_nil r0
  obtain rfl : args = #[v0] := by cases args; simp_all
  obtain ⟨rfl, rfl⟩ := trodVars_none hV
  obtain ⟨a0, len0, cap0, rfl⟩ := okWide_slice Tryd.underlying22 (hval 0 22 v0 rfl rfl)
  have k0 := h0
  have lt0 : ∀ x ∈ p0, x.block < W.heap.size := by obtain ⟨m, hm⟩ := k0; exact DataW.trod_lt m _ _ _ hm
  obtain ⟨z0, w0⟩ : ∃ zs, IRow W a0 len0 cap0 zs := by
    obtain ⟨fuel, hf⟩ := h0
    rcases open_ints Tryd.underlying22 Tryd.underlying3 (by kernel_rfl) hf with ⟨hcs, _⟩ | ⟨x, l, c, zs, hcs, _, hl, hm, hz, _, hcell, hwz⟩
    · simp [Value.cells] at hcs
      obtain ⟨rfl, rfl, rfl⟩ := hcs
      exact ⟨[], irow_nil W⟩
    · simp [Value.cells] at hcs
      obtain ⟨rfl, rfl, rfl⟩ := hcs
      exact ⟨zs.take len0, irow_open hl hm (by simpa using hz) hcell hwz⟩
  clear hA0 hval0
  have htab := fnExactOidText_tab hL
  refine (exactOidText_walk a0 len0 cap0 z0 W w0 htab).mono fun e W' ⟨he, bel⟩ => ?_
  subst he
  exact ⟨_, rfl, _, _, _, [], _, [], hW', trodAll_mk1 (shut_bool Tryd.underlying4 _), (trodAll_cons_mk (Below.trod fnExactOidText_laid (by kernel_rfl) (of_decide_eq_true (by kernel_rfl)) k0 bel lt0) trodAll_mk0), rfl, bel.frame _, fun h => by cases h⟩

theorem fnExactOidText_row : Rows.FnExactOidTextSaid :=
  OpenClaim.holds_of_wide 3 Tryd.f3 rfl rfl rfl rfl rfl rfl rfl ⟨rfl, rfl, rfl, rfl, rfl⟩ rfl rfl rfl rfl rfl (by kernel_rfl) Tryd.func3 (by kernel_rfl)
    (of_decide_eq_true (by kernel_rfl)) (by unfold Func.isWrapper; first | (rw [if_pos (by decide +kernel)]; kernel_rfl) | (rw [if_neg (by decide +kernel)]; exact ⟨rfl, rfl⟩))
    (fun os started H enc _ => fnExactOidText_lifted os started H enc)

theorem fnExactOidText_holds : Rows.FnExactOidTextCardSaid :=
  Claim7.holds_tied_plain_at .later [] Rows.fnExactOidTextCard.laidKinds true Rows.fnExactOidTextCard.stood.harness Rows.fnExactOidTextCard.stood.looks
    fnExactOidText_row (fun _ h => by cases h) (by kernel_rfl) (fun _ h => by cases h) fnExactOidText_row_tie rfl ⟨rfl, rfl⟩ (by kernel_rfl) rfl
    (fun f fn hf hfn => by
      obtain rfl : f = 3 := Option.some.inj ((show Tryd.prog.funcNamed Rows.fnExactOidTextRow.func = some 3 by kernel_rfl).symm.trans hf) |>.symm
      obtain rfl : fn = Tryd.f3 := (Option.some.inj (Tryd.func3.symm.trans hfn)).symm
      exact ⟨by kernel_rfl, fun j t ht => by
        rw [Tryd.params3] at ht
        have hm : t ∈ [22] := by simpa using Array.mem_of_getElem? ht
        have hall : ([22].all fun u => !Tryd.prog.wantsStandIn u) = true := by kernel_rfl
        exact (show Tryd.prog.wantsStandIn t = false by simpa using List.all_eq_true.1 hall t hm)⟩)
    (by kernel_rfl)

#print axioms fnExactOidText_holds

end Go.Proofs.YtpnhockgaajihabDoor
