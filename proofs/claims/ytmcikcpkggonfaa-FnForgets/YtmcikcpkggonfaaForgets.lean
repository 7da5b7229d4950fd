/-
  FnForgets answers true at all bytes: of drawn entries, behind as many ticks as may be only who is static is left; of a port that is flushed nobody is left but who is static; what is made is right and as the specification has it.
-/
import Derived.Test.YtmcikcpkggonfaaDrawFdb
import Derived.Test.YtmcikcpkggonfaaFdbImplL
import Derived.Test.YtmcikcpkggonfaaSameFdb
import Derived.Test.YtmcikcpkggonfaaBig
import Derived.Deep.RegionHeld3
import Derived.WalkKit
import Derived.ProofKit
import Derived.OpenShut
import Derived.ShutString
import Derived.ChangeOld
import Derived.Below
namespace Go.Proofs.Ytmcikcpkggonfaa
open Go.RowKit

theorem count_next {l : List FE} {k : Nat} {x : FE} (hx : l[k]? = some x) : ((l.take (k + 1)).filter (fun e => e.s)).length = ((l.take k).filter (fun e => e.s)).length + (if x.s = true then 1 else 0) := by
  rw [List.take_add_one, hx]
  simp only [Option.toList_some, List.filter_append, List.length_append]
  cases hs : x.s <;> simp [hs]

theorem count_le (l : List FE) (k : Nat) : ((l.take k).filter (fun e => e.s)).length ≤ l.length := Nat.le_trans (List.length_filter_le _ _) (List.length_take_le' _ _)

set_option maxRecDepth 100000 in
set_option maxHeartbeats 8000000 in
theorem forgets_walk (a0 : Option Addr) (l0 c0 : Nat) (z0 : List Int) (w : World) (h0 : Row w a0 l0 c0 z0) :
    Calls Try.prog 4 #[.slice a0 l0 c0] w fun e w' => e = .returned (.bool true) ∧ Below w.heap.size w w' := by
  by_cases g0 : 1048576 < l0
  · have i1 : (1048576 : Int) < l0 := by omega
    go_enter Try.func4, Try.ntmps4
    go_wp2
    go_ret
    exact ⟨rfl, Below.refl _ _⟩
  go_enter Try.func4, Try.ntmps4
  go_wp2_with fail
  refine (big_no _ _ _ _ g0).mono ?_
  rintro e w0 ⟨rfl, rfl⟩
  go_wp2_with fail
  refine (drawFdb_any _ _ _ z0 _ h0 (by omega)).mono ?_
  rintro e w1 ⟨ao, n, cap, l, t, m, p, rfl, hl, hok, o1, ht, hm, hp, hb1⟩
  obtain rfl := hl
  have r1 := grow_own (F := fentF) o1
  have h12 := ok_len hok
  have HOK := hide hok
  have HR := hide (ok_rng hok)
  have HA5 := hide (age_five hok)
  have HAN := hide (ageN_ok hok)
  have HXO := hide (learn_ok hok t m p)
  have HXR := hide (ok_rng (learn_ok hok t m p))
  have HYO := hide (flush_ok (learn_ok hok t m p) p)
  have hlx := learn_len l t m p
  have hly := flush_len (learnF l t m p) p
  have HFS := hide (flush_says (learnF l t m p) p)
  clear hok o1
  go_wp2_with fail
  refine (implLearn_made _ _ _ l t m p _ r1 (by omega) HR.out).mono ?_
  rintro e w2 ⟨ao2, cap2, rfl, -, r2, hb2⟩
  generalize hX : learnF l t m p = X at *
  clear hX
  go_wp2_with fail
  refine (implFlush_rng _ _ _ X p _ r2 (by omega) HXR.out).mono ?_
  rintro e w3 ⟨ao3, cap3, rfl, -, r3, hb3⟩
  generalize hY : flushF X p = Y at *
  clear hY
  have q3 := gr_trans hb1 (gr_trans hb2 hb3)
  have r1 := r1.below (gr_trans hb2 hb3)
  clear hb1 hb2 hb3 r2
  have hYs := r3.size
  go_wp2
  go_loopw [8] (fun i wr => ∃ k : Nat, k ≤ Y.length ∧ i = .int .i64 k ∧ Below w3.heap.size w3 wr) (fun i _ => Y.length - (intOf i).toNat)
  case atStart => exact ⟨0, Nat.zero_le _, rfl, Below.refl _ _⟩
  case round =>
    obtain ⟨k, hk, rfl, hb⟩ := hrel
    by_cases hlt : k < Y.length
    · obtain ⟨x, b, off, hx, rfl, a0', a1, a2, a3, a4⟩ := fent_at (r3.below hb) k hlt
      have hno := HFS.out x (List.mem_of_getElem? hx)
      clear hx
      cases t1 : (x.p == p)
      · clear hno
        go_wp2
        go_roundw
        case rel => exact ⟨k + 1, by omega, by go_num, hb⟩
        case measure => simp [intOf]; omega
      · have hxs : x.s = true := by
          cases h : x.s
          · exact absurd ⟨by simpa using t1, h⟩ hno
          · rfl
        rw [hxs] at a4
        clear hno hxs
        go_wp2
        go_roundw
        case rel => exact ⟨k + 1, by omega, by go_num, hb⟩
        case measure => simp [intOf]; omega
    · have hkn : k = Y.length := by omega
      subst hkn
      have q4 := gr_trans q3 hb
      have r1 := r1.below hb
      have r3 := r3.below hb
      clear hb q3
      go_wp2
      go_loopw [9, 10] (fun o i w5 => ∃ (k : Nat) (ao5 : Option Addr) (cap5 : Nat), k ≤ 5 ∧ i = .int .i64 k ∧ o = .slice ao5 (ageN k l).length cap5 ∧ GRow fentF w5 ao5 (ageN k l).length cap5 (ageN k l) ∧ Below wr.heap.size wr w5) (fun _ i _ => 5 - (intOf i).toNat)
      case atStart => exact ⟨0, ao, cap, by omega, rfl, rfl, r1, Below.refl _ _⟩
      case round =>
        obtain ⟨k, ao5, cap5, hk5, rfl, rfl, r5, hb5⟩ := hrel
        by_cases hlt5 : k < 5
        · have hok5 := HAN.out k
          have h125 := ok_len hok5
          have HR5 := hide (ok_rng hok5)
          have HO6 := hide (HAN.out (k + 1))
          have h126 := ok_len (HAN.out (k + 1))
          have HAG : Hid (ageF (ageN k l) = ageN (k + 1) l) := rfl
          clear hok5
          go_wp2_with fail
          refine (implAge_made _ _ _ (ageN k l) _ r5 (by omega) HR5.out).mono ?_
          rintro e w6 ⟨ao6, cap6, rfl, -, r6, hb6⟩
          rw [HAG.out] at r6 ⊢
          go_wp2_with fail
          refine (implFdbOk_all _ _ _ (ageN (k + 1) l) _ r6 (by omega)).mono ?_
          rintro e w7 ⟨rfl, hb7⟩
          rw [HO6.out]
          have HR7 := hide (r6.below hb7)
          have HB7 := hide (gr_trans hb5 (gr_trans hb6 hb7))
          clear r5 r6 hb5 hb6 hb7
          go_wp2
          go_roundw
          case rel => exact ⟨k + 1, ao6, cap6, by omega, by go_num, rfl, HR7.out, HB7.out⟩
          case measure => simp [intOf]; omega
        · have hk' : k = 5 := by omega
          subst hk'
          have q5 := gr_trans q4 hb5
          have r1 := r1.below hb5
          have r3 := r3.below hb5
          clear hb5 q4
          go_wp2
          go_loopw [11, 12] (fun c i w6 => ∃ k : Nat, k ≤ l.length ∧ i = .int .i64 k ∧ c = .int .i64 (((l.take k).filter (fun e => e.s)).length : Nat) ∧ Below wr.heap.size wr w6) (fun _ i _ => l.length - (intOf i).toNat)
          case atStart => exact ⟨0, Nat.zero_le _, rfl, by simp, Below.refl _ _⟩
          case round =>
            obtain ⟨k, hk6, rfl, rfl, hb6⟩ := hrel
            have r1 := r1.below hb6
            have r3 := r3.below hb6
            by_cases hlt6 : k < l.length
            · obtain ⟨x, b, off, hx, rfl, a0', a1, a2, a3, a4⟩ := fent_at r1 k hlt6
              have hcn := count_next hx
              have hcl := count_le l k
              cases hxs : x.s
              · rw [hxs] at a4 hcn
                have HCN : Hid (((l.take (k + 1)).filter (fun e => e.s)).length = ((l.take k).filter (fun e => e.s)).length) := by show _ = _; simpa using hcn
                clear hcn hx hxs
                generalize ((l.take k).filter (fun e => e.s)).length = cc at *
                go_wp2
                go_roundw
                case rel => exact ⟨k + 1, by omega, by go_num, by rw [HCN.out], hb6⟩
                case measure => simp [intOf]; omega
              · rw [hxs] at a4 hcn
                have HCN : Hid (((l.take (k + 1)).filter (fun e => e.s)).length = ((l.take k).filter (fun e => e.s)).length + 1) := by show _ = _; simpa using hcn
                clear hcn hx hxs
                generalize ((l.take k).filter (fun e => e.s)).length = cc at *
                go_wp2
                go_roundw
                case rel => exact ⟨k + 1, by omega, by go_num, by rw [HCN.out]; go_num, hb6⟩
                case measure => simp [intOf]; omega
            · have hk' : k = l.length := by omega
              have hcc : ((l.take k).filter (fun e => e.s)).length = (ageN 5 l).length := by rw [HA5.out, hk', List.take_of_length_le (Nat.le_refl _)]
              have HCC := hide hcc
              clear hcc
              subst hk'
              rw [HCC.out]
              have c1 : (((ageN 5 l).length : Int) == ((ageN 5 l).length : Int)) = true := by simp
              go_wp2_with fail
              refine (implFdbOk_all _ _ _ Y _ r3 (by omega)).mono ?_
              rintro e w7 ⟨rfl, hb7⟩
              rw [HYO.out]
              go_wp2_with fail
              refine (implAge_made _ _ _ l _ (r1.below hb7) (by omega) HR.out).mono ?_
              rintro e w8 ⟨ao8, cap8, rfl, -, r8, hb8⟩
              go_wp2_with fail
              refine (specAge_any _ _ _ l _ (r1.below (gr_trans hb7 hb8)) (by omega) HR.out).mono ?_
              rintro e w9 ⟨ao9, cap9, rfl, -, r9, hb9⟩
              go_wp2_with fail
              refine (sameFdb_same _ _ _ _ _ _ (ageF l) _ (r8.below hb9) r9).mono ?_
              rintro e w10 ⟨rfl, hb10⟩
              have HB := hide (gr_trans q5 (gr_trans hb6 (gr_trans hb7 (gr_trans hb8 (gr_trans hb9 hb10)))))
              clear hb7 hb8 hb9 hb10 r8 r9
              go_wp2
              go_ret
              exact ⟨rfl, HB.out⟩

theorem fnForgets_own : ownKnob Try.prog.godebug = none := by kernel_rfl
theorem fnForgets_laid : laidOutB Try.prog = true := by kernel_rfl

open Go.ChangeShapes Go.WideShapes Go.ChangeAt in
open Go.ChangeMaps (open_string shut_string) in
set_option maxRecDepth 100000 in
theorem fnForgets_lifted (os : Os) (started : os.Started) (H : Type) (enc : TypeId × Value → H) :
    ReturnsInHanded {} Try.checked os 4 .any (Rows.fnForgetsSpec.pre6 enc Try.prog Try.f4 Rows.fnForgetsRow.domain false) (Rows.fnForgetsSpec.post enc Try.prog Try.f4 false true false false) := by
  refine returnsInHanded_of_change (C := Try.checked) fnForgets_own started (by kernel_rfl) Try.func4
    (ChangeSpec.witness6 (enc := enc) (C := Try.checked) false ⟨#[], #[.slice none 0 0], []⟩ 8 (by kernel_rfl) (by kernel_rfl) (by kernel_rfl) (by kernel_rfl)) ?_
  intro W base args ds gs before hval0 hW hcnd _
  have hval : ∀ (j : Nat) t v, Try.f4.params[j]? = some t → args[j]? = some v → Value.okWide Try.prog W .any base t v := hval0
  have hW' := hW
  obtain ⟨p, q, hA0, hV, rfl, hfz, hnd⟩ := hW
  have hA : DataW.TrodAll enc Try.prog W 0 (fun _ => true) true Try.f4.params.toList args.toList ds p := hA0
  rw [Try.params4] at hA hval
  obtain ⟨v0, vs0, d0, ds0, p0, q0, hargs, rfl, rfl, h0, r0⟩ := trodAll_cons hA
  obtain ⟨rfl, rfl, rfl⟩ := trodAll_nil r0
  obtain rfl : args = #[v0] := by cases args; simp_all
  obtain ⟨rfl, rfl⟩ := trodVars_none hV
  obtain ⟨a0, len0, cap0, rfl⟩ := okWide_slice Try.underlying22 (hval 0 22 v0 rfl rfl)
  have k0 := h0
  have lt0 : ∀ x ∈ p0, x.block < W.heap.size := by obtain ⟨m, hm⟩ := k0; exact DataW.trod_lt m _ _ _ hm
  obtain ⟨z0, w0⟩ : ∃ zs, Row W a0 len0 cap0 zs := by
    obtain ⟨fuel, hf⟩ := h0
    rcases open_ints Try.underlying22 Try.underlying5 (by kernel_rfl) hf with ⟨hcs, _⟩ | ⟨x, l, c, zs, hcs, _, hl, hm, hz, _, hcell, hwz⟩
    · simp [Value.cells] at hcs
      obtain ⟨rfl, rfl, rfl⟩ := hcs
      exact ⟨[], row_nil W⟩
    · simp [Value.cells] at hcs
      obtain ⟨rfl, rfl, rfl⟩ := hcs
      exact ⟨zs.take len0, row_open hl hm (by simpa using hz) hcell hwz⟩
  clear hA0 hval0
  refine (forgets_walk a0 len0 cap0 z0 W w0).mono fun e W' ⟨he, bel⟩ => ?_
  subst he
  exact ⟨_, rfl, _, _, _, [], _, [], hW', trodAll_mk1 (shut_bool Try.underlying4 _), (trodAll_cons_mk (Below.trod fnForgets_laid (by kernel_rfl) (of_decide_eq_true (by kernel_rfl)) k0 bel lt0) trodAll_mk0), rfl, bel.frame _, fun h => by cases h⟩

theorem fnForgets_holds : Rows.FnForgetsSaid :=
  OpenClaim.holds_of_wide 4 Try.f4 rfl rfl rfl rfl rfl rfl rfl ⟨rfl, rfl, rfl, rfl, rfl⟩ rfl rfl rfl rfl rfl (by kernel_rfl) Try.func4 (by kernel_rfl)
    (of_decide_eq_true (by kernel_rfl)) (by unfold Func.isWrapper; first | (rw [if_pos (by decide +kernel)]; kernel_rfl) | (rw [if_neg (by decide +kernel)]; exact ⟨rfl, rfl⟩))
    (fun os started H enc _ => fnForgets_lifted os started H enc)

#print axioms fnForgets_holds

end Go.Proofs.Ytmcikcpkggonfaa
