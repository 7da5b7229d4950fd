/-
  FnInts answers true at all bytes: a drawn number, or the nearest that is kept, comes back of its bytes, which are as few as there may be; what is read of drawn bytes is read just where the specification reads it, and has these bytes.
-/
import Derived.Test.YtjpfoofijjgpcaaGetNum
import Derived.Test.YtjpfoofijjgpcaaSame
import Derived.Test.YtjpfoofijjgpcaaBig
import Derived.Test.YtjpfoofijjgpcaaDrawd
import Derived.Deep.RegionHeld3
import Derived.WalkKit
import Derived.ProofKit
import Derived.OpenShut
import Derived.ShutString
import Derived.ChangeOld
import Derived.Below
namespace Go.Proofs.Ytjpfoofijjgpcaa
open Go.RowKit

theorem sgn_mod (v : Int) (h : -128 ≤ v ∧ v ≤ 127) : sgn (v % 256) = v := by unfold sgn; split <;> omega

/-- A number comes back of its bytes. -/
theorem int_back (n : Int) : getInt (putInt n) = (clip n, true) := by
  have hc := clip_bd n
  have e : putInt n = ints 3 (clip n) [clip n % 256] := rfl
  rw [e]
  generalize clip n = v at *
  have hv : val (ints 3 v [v % 256]) ((ints 3 v [v % 256]).length - 1) = v ∧ 1 ≤ (ints 3 v [v % 256]).length ∧ (ints 3 v [v % 256]).length ≤ 4 := by
    by_cases k1 : v < -128 ∨ 127 < v
    · by_cases k2 : v / 256 < -128 ∨ 127 < v / 256
      · by_cases k3 : v / 256 / 256 < -128 ∨ 127 < v / 256 / 256
        · simp [ints, k1, k2, k3, val]
          rw [sgn_mod _ (by omega)]; omega
        · simp [ints, k1, k2, k3, val]
          rw [sgn_mod _ (by omega)]; omega
      · simp [ints, k1, k2, val]
        rw [sgn_mod _ (by omega)]; omega
    · simp [ints, k1, val]
      exact sgn_mod _ (by omega)
  obtain ⟨h1, h2, h3⟩ := hv
  have hp : putInt v = ints 3 v [v % 256] := by
    have : clip v = v := by unfold clip; rw [if_neg (by omega), if_neg (by omega)]
    unfold putInt; rw [this]
  unfold getInt
  rw [if_neg (by omega), h1, hp, if_pos rfl]

/-- What is read has these bytes. -/
theorem int_read (z : List Int) (hz : Byt z) (y : Int) (h : getInt z = (y, true)) : putInt y = z := by
  unfold getInt at h
  by_cases h0 : z.length = 0 ∨ 4 < z.length
  · rw [if_pos h0] at h; simp at h
  rw [if_neg h0] at h
  by_cases h1 : (putInt (val z (z.length - 1))).length = z.length
  · rw [if_pos h1] at h
    simp only [Prod.mk.injEq, and_true] at h
    subst h
    have hb := val_bd hz (z.length - 1) (by omega)
    rw [putInt_len _ hb] at h1
    have hc : ∀ v : Int, -2147483648 ≤ v ∧ v ≤ 2147483647 → putInt v = ints 3 v [v % 256] := fun v hv => by
      have : clip v = v := by unfold clip; rw [if_neg (by omega), if_neg (by omega)]
      unfold putInt; rw [this]
    rw [hc _ hb]
    have b0 := hz.at 0; have b1 := hz.at 1; have b2 := hz.at 2; have b3 := hz.at 3
    match z, hz, h0, h1, hb, b0, b1, b2, b3 with
    | [], _, h0, _, _, _, _, _, _ => simp at h0
    | [x0], _, _, h1, _, b0, _, _, _ =>
      simp [val] at *
      generalize hs : sgn x0 = s0 at *
      have : (s0 = x0 ∧ x0 ≤ 127) ∨ (s0 = x0 - 256 ∧ 127 < x0) := by rw [← hs]; unfold sgn; split <;> omega
      have k1 : ¬ (s0 < -128 ∨ 127 < s0) := by omega
      simp [ints, k1]; omega
    | [x0, x1], _, _, h1, _, b0, b1, _, _ =>
      simp [val] at *
      generalize hs : sgn x0 = s0 at *
      have : (s0 = x0 ∧ x0 ≤ 127) ∨ (s0 = x0 - 256 ∧ 127 < x0) := by rw [← hs]; unfold sgn; split <;> omega
      have k0 : ¬ (-128 ≤ s0 * 256 + x1 ∧ s0 * 256 + x1 ≤ 127) := by intro h; rw [if_pos h] at h1; omega
      have k1 : s0 * 256 + x1 < -128 ∨ 127 < s0 * 256 + x1 := by omega
      have k2 : ¬ ((s0 * 256 + x1) / 256 < -128 ∨ 127 < (s0 * 256 + x1) / 256) := by omega
      simp [ints, k1, k2]; omega
    | [x0, x1, x2], _, _, h1, _, b0, b1, b2, _ =>
      simp [val] at *
      generalize hs : sgn x0 = s0 at *
      have : (s0 = x0 ∧ x0 ≤ 127) ∨ (s0 = x0 - 256 ∧ 127 < x0) := by rw [← hs]; unfold sgn; split <;> omega
      generalize hv : (s0 * 256 + x1) * 256 + x2 = v at *
      have k0 : ¬ (-32768 ≤ v ∧ v ≤ 32767) := by intro h; by_cases h' : -128 ≤ v ∧ v ≤ 127 <;> simp [h, h'] at h1
      have k1 : v < -128 ∨ 127 < v := by omega
      have k2 : v / 256 < -128 ∨ 127 < v / 256 := by omega
      have k3 : ¬ (v / 256 / 256 < -128 ∨ 127 < v / 256 / 256) := by omega
      simp [ints, k1, k2, k3]; omega
    | [x0, x1, x2, x3], _, _, h1, _, b0, b1, b2, b3 =>
      simp [val] at *
      generalize hs : sgn x0 = s0 at *
      have : (s0 = x0 ∧ x0 ≤ 127) ∨ (s0 = x0 - 256 ∧ 127 < x0) := by rw [← hs]; unfold sgn; split <;> omega
      generalize hv : ((s0 * 256 + x1) * 256 + x2) * 256 + x3 = v at *
      have k0 : ¬ (-8388608 ≤ v ∧ v ≤ 8388607) := by intro h; by_cases h' : -128 ≤ v ∧ v ≤ 127 <;> by_cases h'' : -32768 ≤ v ∧ v ≤ 32767 <;> simp [h, h', h''] at h1
      have k1 : v < -128 ∨ 127 < v := by omega
      have k2 : v / 256 < -128 ∨ 127 < v / 256 := by omega
      have k3 : v / 256 / 256 < -128 ∨ 127 < v / 256 / 256 := by omega
      simp [ints, k1, k2, k3]; omega
    | x0 :: x1 :: x2 :: x3 :: x4 :: r, _, h0, _, _, _, _, _, _ => simp at h0
  · rw [if_neg h1] at h; simp at h

theorem clip_cases (n : Int) : (2147483647 < n ∧ clip n = 2147483647 ∧ (((putInt n).length : Int) == 1) = false) ∨ (n < -2147483648 ∧ clip n = -2147483648 ∧ (((putInt n).length : Int) == 1) = false) ∨
    ((-128 ≤ n ∧ n ≤ 127) ∧ clip n = n ∧ (((putInt n).length : Int) == 1) = true) ∨ ((-2147483648 ≤ n ∧ n < -128) ∧ clip n = n ∧ (((putInt n).length : Int) == 1) = false) ∨ ((127 < n ∧ n ≤ 2147483647) ∧ clip n = n ∧ (((putInt n).length : Int) == 1) = false) := by
  have hc : clip n = if 2147483647 < n then 2147483647 else if n < -2147483648 then -2147483648 else n := rfl
  have hcc : clip (clip n) = clip n := by have := clip_bd n; generalize clip n = v at *; unfold clip; rw [if_neg (by omega), if_neg (by omega)]
  have hl : (putInt n).length = (putInt (clip n)).length := by unfold putInt; rw [hcc]
  have h2 := putInt_len (clip n) (clip_bd n)
  rw [← hl] at h2
  have hone : (putInt n).length = 1 ↔ (-128 ≤ clip n ∧ clip n ≤ 127) := by
    rw [h2]
    constructor
    · intro h
      by_cases k : -128 ≤ clip n ∧ clip n ≤ 127
      · exact k
      · rw [if_neg k] at h
        split at h
        · omega
        · split at h <;> omega
    · intro h; rw [if_pos h]
  by_cases k1 : 2147483647 < n
  · rw [if_pos k1] at hc
    exact .inl ⟨k1, hc, by simp; omega⟩
  by_cases k2 : n < -2147483648
  · rw [if_neg k1, if_pos k2] at hc
    exact .inr (.inl ⟨k2, hc, by simp; omega⟩)
  rw [if_neg k1, if_neg k2] at hc
  by_cases k3 : -128 ≤ n ∧ n ≤ 127
  · exact .inr (.inr (.inl ⟨k3, hc, by simp; omega⟩))
  by_cases k4 : n < -128
  · exact .inr (.inr (.inr (.inl ⟨by omega, hc, by simp; omega⟩)))
  · exact .inr (.inr (.inr (.inr ⟨by omega, hc, by simp; omega⟩)))

theorem putInt_pos (n : Int) : 1 ≤ (putInt n).length := by
  have h := int_back n
  unfold getInt at h
  by_cases k : (putInt n).length = 0 ∨ 4 < (putInt n).length
  · rw [if_pos k] at h; simp at h
  · omega

set_option maxRecDepth 100000 in
set_option maxHeartbeats 1000000 in
theorem ints_walk (a0 : Option Addr) (l0 c0 : Nat) (z0 : List Int) (w : World) (h0 : Row w a0 l0 c0 z0) :
    Calls Try.prog 5 #[.slice a0 l0 c0] w fun e w' => e = .returned (.bool true) ∧ Below w.heap.size w w' := by
  by_cases g0 : 1048576 < l0
  · have i1 : (1048576 : Int) < l0 := by omega
    go_enter Try.func5, Try.ntmps5
    go_wp2
    go_ret
    exact ⟨rfl, Below.refl _ _⟩
  go_enter Try.func5, Try.ntmps5
  go_wp2_with fail
  refine (big_no _ _ _ _ g0).mono ?_
  rintro e w' ⟨rfl, rfl⟩
  go_wp2_with fail
  refine (drawPutInt_any _ _ _ z0 _ h0 (by omega)).mono ?_
  rintro e w1 ⟨n, rfl, ht0, ht1, hb1⟩
  have hcase := clip_cases n
  have hpos := putInt_pos n
  have hlen := putInt_length n
  have hback := int_back n
  have hPb := putInt_byte n
  obtain ⟨P, hP⟩ : ∃ P, putInt n = P := ⟨_, rfl⟩
  rw [hP] at hcase hpos hlen hback hPb
  have HP := hide hP
  have HB := hide hback
  have HC := hide hcase
  clear hP hback hcase
  go_wp2_with fail
  refine (implInt_made n P HP.out _).mono ?_
  rintro e w2 ⟨ao2, cp2, rfl, -, r2, hb2⟩
  have f2 : Below w'.heap.size w' w2 := hb1.trans (hb2.mono hb1.size)
  have K2 := implGetInt_any _ _ _ P w2 r2 (by omega)
  rw [HB.out] at K2
  have HK2 := hide K2
  clear K2
  go_wp2_with fail
  refine HK2.out.mono ?_
  rintro e w3 ⟨rfl, rfl⟩
  clear HK2
  go_wp2_with fail
  refine (drawGetInt_any _ _ _ z0 _ (h0.below f2) (by omega)).mono ?_
  rintro e w4 ⟨ao4, n4, cp4, zs4, rfl, hn4, r4, hb4⟩
  obtain rfl := r4.size
  have f4 : Below w'.heap.size w' w4 := f2.trans (hb4.mono f2.size)
  obtain ⟨⟨y, is⟩, hG⟩ : ∃ G, getInt zs4 = G := ⟨_, rfl⟩
  have K4 := implGetInt_any _ _ _ zs4 w4 r4 (by omega)
  have K5 := specGetInt_any _ _ _ zs4 w4 r4 (by omega)
  rw [hG] at K4 K5
  have HK4 := hide K4
  have HK5 := hide K5
  have HG := hide hG
  clear K4 K5 hG
  go_wp2_with fail
  refine HK4.out.mono ?_
  rintro e w5 ⟨rfl, rfl⟩
  go_wp2_with fail
  refine HK5.out.mono ?_
  rintro e w6 ⟨rfl, hb6⟩
  have f6 : Below w'.heap.size w' w6 := f4.trans (hb6.mono f4.size)
  clear HK4 HK5
  have HS := hide HC.out
  cases is
  · have hcase := HC.out
    clear HC HS HP HB HG
    generalize hm : clip n = m at *
    rcases hcase with ⟨n0, rfl, n2⟩ | ⟨n0, rfl, n2⟩ | ⟨⟨n0, n3⟩, rfl, n2⟩ | ⟨⟨n0, n3⟩, rfl, n2⟩ | ⟨⟨n0, n3⟩, rfl, n2⟩
    all_goals
      go_wp2
      go_ret
      first | exact ⟨rfl, f6⟩ | exact ⟨ret_bool (by simp; omega), f6⟩
  · have hread := int_read zs4 r4.byte y HG.out
    have HR := hide hread
    clear hread
    go_wp2_with fail
    refine (implInt_made y zs4 HR.out _).mono ?_
    rintro e w7 ⟨ao7, cp7, rfl, -, r7, hb7⟩
    have f7 : Below w'.heap.size w' w7 := f6.trans (hb7.mono f6.size)
    go_wp2_with fail
    refine (same_same _ _ _ _ _ _ zs4 _ r7 ((r4.below hb6).below hb7)).mono ?_
    rintro e w8 ⟨rfl, n8, rfl⟩
    have f8 : Below w'.heap.size w' (w7.drewN n8) := below_drewN f7 n8
    generalize w7.drewN n8 = w8 at *
    have hcase := HC.out
    clear HC HS HP HB HG HR
    generalize hm : clip n = m at *
    rcases hcase with ⟨n0, rfl, n2⟩ | ⟨n0, rfl, n2⟩ | ⟨⟨n0, n3⟩, rfl, n2⟩ | ⟨⟨n0, n3⟩, rfl, n2⟩ | ⟨⟨n0, n3⟩, rfl, n2⟩
    all_goals
      go_wp2
      go_ret
      first | exact ⟨rfl, f8⟩ | exact ⟨ret_bool (by simp; omega), f8⟩

theorem fnInts_own : ownKnob Try.prog.godebug = none := by kernel_rfl
theorem fnInts_laid : laidOutB Try.prog = true := by kernel_rfl

open Go.ChangeShapes Go.WideShapes Go.ChangeAt in
open Go.ChangeMaps (open_string shut_string) in
set_option maxRecDepth 100000 in
theorem fnInts_lifted (os : Os) (started : os.Started) (H : Type) (enc : TypeId × Value → H) :
    ReturnsInHanded {} Try.checked os 5 .any (Rows.fnIntsSpec.pre6 enc Try.prog Try.f5 Rows.fnIntsRow.domain false) (Rows.fnIntsSpec.post enc Try.prog Try.f5 false true false false) := by
  refine returnsInHanded_of_change (C := Try.checked) fnInts_own started (by kernel_rfl) Try.func5
    (ChangeSpec.witness6 (enc := enc) (C := Try.checked) false ⟨#[], #[.slice none 0 0], []⟩ 8 (by kernel_rfl) (by kernel_rfl) (by kernel_rfl) (by kernel_rfl)) ?_
  intro W base args ds gs before hval0 hW hcnd _
  have hval : ∀ (j : Nat) t v, Try.f5.params[j]? = some t → args[j]? = some v → Value.okWide Try.prog W .any base t v := hval0
  have hW' := hW
  obtain ⟨p, q, hA0, hV, rfl, hfz, hnd⟩ := hW
  have hA : DataW.TrodAll enc Try.prog W 0 (fun _ => true) true Try.f5.params.toList args.toList ds p := hA0
  rw [Try.params5] at hA hval
  obtain ⟨v0, vs0, d0, ds0, p0, q0, hargs, rfl, rfl, h0, r0⟩ := trodAll_cons hA
  obtain ⟨rfl, rfl, rfl⟩ := trodAll_nil r0
  obtain rfl : args = #[v0] := by cases args; simp_all
  obtain ⟨rfl, rfl⟩ := trodVars_none hV
  obtain ⟨a0, len0, cap0, rfl⟩ := okWide_slice Try.underlying22 (hval 0 22 v0 rfl rfl)
  have k0 := h0
  have lt0 : ∀ x ∈ p0, x.block < W.heap.size := by obtain ⟨m, hm⟩ := k0; exact DataW.trod_lt m _ _ _ hm
  obtain ⟨z0, w0⟩ : ∃ zs, Row W a0 len0 cap0 zs := by
    obtain ⟨fuel, hf⟩ := h0
    rcases open_ints Try.underlying22 Try.underlying5 (by kernel_rfl) hf with ⟨hcs, _⟩ | ⟨x, l, c, zs, hcs, _, hl, hm, hz, _, hcell, hwz⟩
    · simp [Value.cells] at hcs
      obtain ⟨rfl, rfl, rfl⟩ := hcs
      exact ⟨[], row_nil W⟩
    · simp [Value.cells] at hcs
      obtain ⟨rfl, rfl, rfl⟩ := hcs
      exact ⟨zs.take len0, row_open hl hm (by simpa using hz) hcell hwz⟩
  clear hA0 hval0
  refine (ints_walk a0 len0 cap0 z0 W w0).mono fun e W' ⟨he, bel⟩ => ?_
  subst he
  exact ⟨_, rfl, _, _, _, [], _, [], hW', trodAll_mk1 (shut_bool Try.underlying4 _), (trodAll_cons_mk (Below.trod fnInts_laid (by kernel_rfl) (of_decide_eq_true (by kernel_rfl)) k0 bel lt0) trodAll_mk0), rfl, bel.frame _, fun h => by cases h⟩

theorem fnInts_holds : Rows.FnIntsSaid :=
  OpenClaim.holds_of_wide 5 Try.f5 rfl rfl rfl rfl rfl rfl rfl ⟨rfl, rfl, rfl, rfl, rfl⟩ rfl rfl rfl rfl rfl (by kernel_rfl) Try.func5 (by kernel_rfl)
    (of_decide_eq_true (by kernel_rfl)) (by unfold Func.isWrapper; first | (rw [if_pos (by decide +kernel)]; kernel_rfl) | (rw [if_neg (by decide +kernel)]; exact ⟨rfl, rfl⟩))
    (fun os started H enc _ => fnInts_lifted os started H enc)

#print axioms fnInts_holds

end Go.Proofs.Ytjpfoofijjgpcaa
