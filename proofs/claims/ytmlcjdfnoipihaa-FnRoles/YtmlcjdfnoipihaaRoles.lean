/-
  FnRoles answers true at all bytes: a drawn bridge has one port for the root at most, and one just if it knows a lesser root; which ports send; what it says is never behind what it heard, a step further.
-/
import Derived.Test.YtmlcjdfnoipihaaDrawPt2
import Derived.Test.YtmlcjdfnoipihaaPtSends
import Derived.Test.YtmlcjdfnoipihaaPtSendsI
import Derived.Test.YtmlcjdfnoipihaaBig
import Derived.WalkKit
import Derived.ProofKit
import Derived.OpenShut
import Derived.ShutString
import Derived.ChangeOld
import Derived.Below
namespace Go.Proofs.Ytmlcjdfnoipihaa
open Go.RowKit

theorem retB {x y : Bool} (h : x = y) : Ending.returned (.bool x) = .returned (.bool y) := by rw [h]

set_option maxRecDepth 100000 in
set_option maxHeartbeats 2000000 in
theorem lawBit_any (n : Int) (k : Nat) (hk : k ≤ 7) (B : Bool) (w : World) (h : bitOf n (k : Int) = B) :
    Calls Try.prog 14 #[.int .i64 n, .int .i64 k] w fun e w' => e = .returned (.bool B) ∧ w' = w := by
  have h : (bits .and .i64 (n / 2 ^ k) 1 == 1) = B := by
    rw [← h]
    unfold bitOf in3
    rw [decide_eq_true (show (0 : Int) ≤ (k : Int) by omega), decide_eq_true (show (k : Int) ≤ 7 by omega), Int.toNat_natCast]
    rfl
  have i1 : (0 : Int) ≤ (k : Int) := by omega
  have i2 : (k : Int) < 8 := by omega
  have hwk : IntKind.u64.wrap (k : Int) = (k : Int) := by rw [IntKind.wrap_u64]; omega
  go_enter Try.func14, Try.ntmps14
  go_wp2
  go_ret
  exact ⟨retB (by first | rfl | simp [h]), rfl⟩

/-- How many ports for the root there are among the first ones. -/
def rootsTo (P : Int) (k : Nat) : Int := if 0 ≤ P ∧ P < (k : Int) then 1 else 0

set_option maxRecDepth 100000 in
set_option maxHeartbeats 16000000 in
theorem roles_walk (a0 : Option Addr) (l0 c0 : Nat) (z0 : List Int) (w : World) (h0 : Row w a0 l0 c0 z0) :
    Calls Try.prog 3 #[.slice a0 l0 c0] w fun e w' => e = .returned (.bool true) ∧ Below w.heap.size w w' := by
  by_cases g0 : 1048576 < l0
  · have i1 : (1048576 : Int) < l0 := by omega
    go_enter Try.func3, Try.ntmps3
    go_wp2
    go_ret
    exact ⟨rfl, Below.refl _ _⟩
  have hs : l0 ≤ 1048576 := by omega
  have u : Below w.heap.size w w := Below.refl _ _
  go_enter Try.func3, Try.ntmps3
  go_wp2_with fail
  refine (big_no _ _ _ _ g0).mono ?_
  rintro e w0 ⟨rfl, e0⟩
  obtain rfl := e0.symm
  go_wp2_with fail
  refine (drawPorts_any a0 l0 c0 z0 _ (h0.below u) hs).mono ?_
  rintro e w1 ⟨id, ao, cap, m, l, rfl, hm5, hlen, o1, hb⟩
  have rl := grow_own o1
  have u := gr_trans u hb
  clear hb o1
  obtain ⟨tb, tr, ti, tl, tu⟩ := best_root (id := id) (l := l)
  have BH : Hid (∀ (i : Nat) (x : PT), l[i]? = some x → x.up = true → x.has = true → stepsV x.v x.k = true → ¬ ((stepV x.v x.k).r < (bestV id (bestOf id l)).r ∨ ((stepV x.v x.k).r = (bestV id (bestOf id l)).r ∧ (stepV x.v x.k).c < (bestV id (bestOf id l)).c ∧ (stepV x.v x.k).r < id))) := hide (fun i x hx hu hh hs => best_behind hx hu hh hs)
  have RR : Hid (∀ (i : Nat) (x : PT), l[i]? = some x → (roleOf id l (i : Int) = 1 ↔ bestP (bestOf id l) = (i : Int))) := hide (fun i x hx => role_root hx)
  generalize hV : bestV id (bestOf id l) = V at tb tr ti BH
  generalize hP : bestP (bestOf id l) = P at ti tl tu RR
  have HV := hide hV
  have HP := hide hP
  have HTB := hide tb
  have HTR := hide tr
  have HTI := hide ti
  clear hV hP tb tr ti
  rw [hlen] at tu
  have HLEN := hide hlen
  clear hlen
  go_wp2_with fail
  refine (implBestVec_any id _ _ _ l _ rl).mono ?_
  rintro e w3 ⟨rfl, hb⟩
  rw [HV.out, HP.out]
  have u := gr_trans u hb
  have rl := rl.below hb
  clear hb
  go_upto_region 5 with fail
  generalize hwB : w3.alloc (Obj.cells #[.int .i64 V.r, .int .i64 V.c, .int .i64 V.h, .int .i64 V.b, .int .i64 V.p] 28) = wB
  have bB : Below w3.heap.size w3 wB := by rw [← hwB]; exact below_one _ _
  obtain ⟨Y, hY⟩ : ∃ y, y = w3.heap.size := ⟨_, rfl⟩
  have kY : wB.heap[Y]? = some (.cells #[.int .i64 V.r, .int .i64 V.c, .int .i64 V.h, .int .i64 V.b, .int .i64 V.p] 28) := by rw [← hwB, hY]; exact block_last _ _
  rw [← hY]
  have u := gr_trans u bB
  have rl := rl.below bB
  have hYl : Y < wB.heap.size := (Array.getElem?_eq_some_iff.1 kY).1
  clear hwB bB hY
  have UU := hide u
  clear u
  go_wp2_with fail
  go_loopw [7, 8] (fun n i wr => ∃ k : Nat, k ≤ m ∧ i = .int .i64 k ∧ n = .int .i64 (rootsTo P k) ∧ Below wB.heap.size wB wr) (fun _ i _ => m - (intOf i).toNat)
  case atStart => exact ⟨0, Nat.zero_le _, rfl, by simp [rootsTo], Below.refl _ _⟩
  case round =>
    obtain ⟨k, hk, rfl, rfl, hb⟩ := hrel
    by_cases hlt : k < m
    · obtain ⟨x, b, off, hx, rfl, c0, c1, c2, c3, c4, c5, c6, c7⟩ := pt_at (rl.below hb) k hlt
      have i1 : (0 : Int) ≤ (k : Int) := by omega
      have i2 : (k : Int) < (m : Int) := by omega
      have HX := hide hx
      have h14 := role_one (id := id) (l := l) (k : Int)
      have hdn := role_down (id := id) hx
      have hrt := RR.out k x hx
      have HBIT := hide (sends_bit id l k (by rw [HLEN.out]; exact hlt) (by omega))
      generalize hR : roleOf id l (k : Int) = R at h14 hdn hrt HBIT
      have HR := hide hR
      have HB := hide hb
      clear hR hb hx
      generalize hN : rootsTo P k = n
      have HNN : Hid (rootsTo P (k + 1) = if R = 1 then n + 1 else n) := hide (by
        rw [← hN]
        unfold rootsTo
        by_cases hr : R = 1
        · have := hrt.1 hr
          rw [if_pos hr, if_pos (by omega), if_neg (by omega)]
          rfl
        · have : ¬ P = (k : Int) := fun e => hr (hrt.2 e)
          rw [if_neg hr]
          by_cases hp : 0 ≤ P ∧ P < (k : Int)
          · rw [if_pos hp, if_pos (by omega)]
          · rw [if_neg hp, if_neg (by omega)])
      have hn01 : 0 ≤ n ∧ n ≤ 1 := by rw [← hN]; unfold rootsTo; split <;> omega
      clear hN hrt
      go_wp2_with fail
      refine (implRole_any id _ _ _ l (k : Int) _ (rl.below HB.out)).mono ?_
      rintro e w4 ⟨rfl, hb4⟩
      rw [HR.out]
      have HB := hide (gr_trans HB.out hb4)
      clear hb4 c0 c1 c2 c3 c4 c5 c6 c7
      obtain ⟨x', b', off', hx', ha', c0, c1, c2, c3, c4, c5, c6, c7⟩ := pt_at (rl.below HB.out) k hlt
      rw [HX.out] at hx'
      cases hx'
      cases ha'
      generalize hn' : (if R = 1 then n + 1 else n) = n' at HNN
      go_upto_if 36 with fail
      go_cut [7] from 25 to 124 (fun s wx => s = .int .i64 n' ∧ wx = w4)
      case first =>
        clear c0 c1 c2 c3 c4 c5 c6 c7
        by_cases hr : R = 1
        · have hrb : (R == 1) = true := by simp [hr]
          rw [if_pos hr] at hn'
          subst hn'
          go_wp2_with fail
          go_meet
          exact ⟨rfl, rfl⟩
        · have hrb : (R == 1) = false := by simp [hr]
          rw [if_neg hr] at hn'
          subst hn'
          go_wp2_with fail
          go_meet
          exact ⟨rfl, rfl⟩
      case rest =>
        obtain ⟨rfl, rfl⟩ := hcut
        go_upto_region 12 with fail
        go_cut [68] from 25 to 124 (fun s wx => s = .bool false ∧ Below wc.heap.size wc wx)
        case first =>
          clear hn'
          obtain rfl | rfl | rfl | rfl : R = 1 ∨ R = 2 ∨ R = 3 ∨ R = 4 := by omega
          · have hup : x.up = true := by cases h : x.up; exact absurd (hdn.2 h) (by omega); rfl
            rw [hup] at c0
            clear c1 c2 c3 c4 c5 c6 c7 hdn h14 hup
            go_wp2_with fail
            refine (specRole_any id _ _ _ l (k : Int) _ (rl.below HB.out)).mono ?_
            rintro e w5 ⟨rfl, hb5⟩
            rw [HR.out]
            have HB5 := hide hb5
            have c0 := (hb5.cell (block_lt c0)).trans c0
            clear hb5
            go_wp2_with fail
            refine (implSends_any id _ _ _ l _ (rl.below (gr_trans HB.out HB5.out))).mono ?_
            rintro e w6 ⟨rfl, hb6⟩
            have HB6 := hide (gr_trans HB5.out hb6)
            clear hb6 c0
            go_wp2_with fail
            refine (lawBit_any (sendsOf id l) k (by omega) true _ (by rw [HBIT.out]; rfl)).mono ?_
            rintro e w7 ⟨rfl, e7⟩
            obtain rfl := e7.symm
            go_wp2_with fail
            go_meet
            exact ⟨rfl, HB6.out⟩
          · have hup : x.up = true := by cases h : x.up; exact absurd (hdn.2 h) (by omega); rfl
            rw [hup] at c0
            clear c1 c2 c3 c4 c5 c6 c7 hdn h14 hup
            go_wp2_with fail
            refine (specRole_any id _ _ _ l (k : Int) _ (rl.below HB.out)).mono ?_
            rintro e w5 ⟨rfl, hb5⟩
            rw [HR.out]
            have HB5 := hide hb5
            have c0 := (hb5.cell (block_lt c0)).trans c0
            clear hb5
            go_wp2_with fail
            refine (implSends_any id _ _ _ l _ (rl.below (gr_trans HB.out HB5.out))).mono ?_
            rintro e w6 ⟨rfl, hb6⟩
            have HB6 := hide (gr_trans HB5.out hb6)
            clear hb6 c0
            go_wp2_with fail
            refine (lawBit_any (sendsOf id l) k (by omega) true _ (by rw [HBIT.out]; rfl)).mono ?_
            rintro e w7 ⟨rfl, e7⟩
            obtain rfl := e7.symm
            go_wp2_with fail
            go_meet
            exact ⟨rfl, HB6.out⟩
          · have hup : x.up = true := by cases h : x.up; exact absurd (hdn.2 h) (by omega); rfl
            rw [hup] at c0
            clear c1 c2 c3 c4 c5 c6 c7 hdn h14 hup
            go_wp2_with fail
            refine (specRole_any id _ _ _ l (k : Int) _ (rl.below HB.out)).mono ?_
            rintro e w5 ⟨rfl, hb5⟩
            rw [HR.out]
            have HB5 := hide hb5
            have c0 := (hb5.cell (block_lt c0)).trans c0
            clear hb5
            go_wp2_with fail
            refine (implSends_any id _ _ _ l _ (rl.below (gr_trans HB.out HB5.out))).mono ?_
            rintro e w6 ⟨rfl, hb6⟩
            have HB6 := hide (gr_trans HB5.out hb6)
            clear hb6 c0
            go_wp2_with fail
            refine (lawBit_any (sendsOf id l) k (by omega) false _ (by rw [HBIT.out]; rfl)).mono ?_
            rintro e w7 ⟨rfl, e7⟩
            obtain rfl := e7.symm
            go_wp2_with fail
            go_meet
            exact ⟨rfl, HB6.out⟩
          · have hup : x.up = false := by exact hdn.1 rfl
            rw [hup] at c0
            clear c1 c2 c3 c4 c5 c6 c7 hdn h14 hup
            go_wp2_with fail
            refine (specRole_any id _ _ _ l (k : Int) _ (rl.below HB.out)).mono ?_
            rintro e w5 ⟨rfl, hb5⟩
            rw [HR.out]
            have HB5 := hide hb5
            have c0 := (hb5.cell (block_lt c0)).trans c0
            clear hb5
            go_wp2_with fail
            refine (implSends_any id _ _ _ l _ (rl.below (gr_trans HB.out HB5.out))).mono ?_
            rintro e w6 ⟨rfl, hb6⟩
            have HB6 := hide (gr_trans HB5.out hb6)
            clear hb6 c0
            go_wp2_with fail
            refine (lawBit_any (sendsOf id l) k (by omega) false _ (by rw [HBIT.out]; rfl)).mono ?_
            rintro e w7 ⟨rfl, e7⟩
            obtain rfl := e7.symm
            go_wp2_with fail
            go_meet
            exact ⟨rfl, HB6.out⟩
        case rest =>
          obtain ⟨rfl, hbq⟩ := hcut
          obtain ⟨wq, hwq⟩ : ∃ y, y = wc := ⟨_, rfl⟩
          subst hwq
          have HBQ := hide hbq
          clear c0 c1 c2 c3 c4 c5 c6 c7 hbq h14 hdn
          obtain ⟨x', b', off', hx', ha', c0, c1, c2, c3, c4, c5, c6, c7⟩ := pt_at (rl.below (gr_trans HB.out HBQ.out)) k hlt
          rw [HX.out] at hx'
          cases hx'
          cases ha'
          have HSS : Hid (∀ W', Below wq.heap.size wq W' → W'.cell? ⟨b, off + k * 8 + 1, none⟩ = some (.int .i64 x.k) ∧ W'.cell? ⟨b, off + k * 8 + 3, none⟩ = some (.int .i64 x.v.r) ∧ W'.cell? ⟨b, off + k * 8 + 4, none⟩ = some (.int .i64 x.v.c) ∧ W'.cell? ⟨b, off + k * 8 + 5, none⟩ = some (.int .i64 x.v.h) ∧ W'.cell? ⟨b, off + k * 8 + 6, none⟩ = some (.int .i64 x.v.b) ∧ W'.cell? ⟨b, off + k * 8 + 7, none⟩ = some (.int .i64 x.v.p)) := hide (fun W' hb => ⟨(hb.cell (block_lt c1)).trans c1, (hb.cell (block_lt c3)).trans c3, (hb.cell (block_lt c4)).trans c4, (hb.cell (block_lt c5)).trans c5, (hb.cell (block_lt c6)).trans c6, (hb.cell (block_lt c7)).trans c7⟩)
          have HUH : Hid (∀ W', Below wq.heap.size wq W' → W'.cell? ⟨b, off + k * 8, none⟩ = some (.bool x.up) ∧ W'.cell? ⟨b, off + k * 8 + 2, none⟩ = some (.bool x.has)) := hide (fun W' hb => ⟨(hb.cell (block_lt c0)).trans c0, (hb.cell (block_lt c2)).trans c2⟩)
          obtain ⟨q, hq⟩ : ∃ q, stepOk x.v.r x.v.c x.v.h x.v.b x.v.p x.k = q := ⟨_, rfl⟩
          obtain ⟨u, hu'⟩ : ∃ u, u = (if q = true then stepV x.v x.k else x.v) := ⟨_, rfl⟩
          have HST := hide hq
          have HQ : Hid ((if q = true then Value.agg #[.int .i64 x.v.r, .int .i64 (x.v.c + x.k), .int .i64 (x.v.h + 1), .int .i64 x.v.b, .int .i64 x.v.p] else Value.agg #[.int .i64 x.v.r, .int .i64 x.v.c, .int .i64 x.v.h, .int .i64 x.v.b, .int .i64 x.v.p]) = .agg #[.int .i64 u.r, .int .i64 u.c, .int .i64 u.h, .int .i64 u.b, .int .i64 u.p]) := hide (by subst hu'; cases q <;> rfl)
          have HU := hide hu'
          clear hq hu' c0 c1 c2 c3 c4 c5 c6 c7
          go_upto_region 14 with fail
          go_cut [10, 11] from 25 to 124 (fun s10 s11 wx => ∃ g : Nat, s10 = .pointer (some ⟨g, 0, none⟩) ∧ s11 = .bool q ∧ wq.heap.size ≤ g ∧ wx.heap[g]? = some (.cells #[.int .i64 u.r, .int .i64 u.c, .int .i64 u.h, .int .i64 u.b, .int .i64 u.p] 28) ∧ Below wq.heap.size wq wx)
          case first =>
            have vv : Below wq.heap.size wq wq.drew := gr_drew (Below.refl _ _)
            go_wp2_with fail
            refine wp_region_held_drew (S := (fun W => W.cell? ⟨b, off + k * 8 + 1, none⟩ = some (.int .i64 x.k) ∧ W.cell? ⟨b, off + k * 8 + 3, none⟩ = some (.int .i64 x.v.r) ∧ W.cell? ⟨b, off + k * 8 + 4, none⟩ = some (.int .i64 x.v.c) ∧ W.cell? ⟨b, off + k * 8 + 5, none⟩ = some (.int .i64 x.v.h) ∧ W.cell? ⟨b, off + k * 8 + 6, none⟩ = some (.int .i64 x.v.b) ∧ W.cell? ⟨b, off + k * 8 + 7, none⟩ = some (.int .i64 x.v.p))) (by kernel_rfl) (HSS.out _ vv) (fun hHeld => ?_)
            refine wpAnyH_take (i := 0) (oi := { dst := some 70, op := Op.move (Operand.tmp 4), type := 24, pos := "laws.go:580", after := #[], guard := none }) (v := ?_) rfl (by kernel_rfl) (by kernel_rfl) (by kernel_rfl) (fun _ _ _ h => h) (Or.inl ⟨by rfl, ?_⟩) (by assumption) ?_
            rotate_left
            · (intro wY hSw; (try dsimp only at hSw); go_simp; try with_reducible rfl)
            simp only [Act.put, List.setIfInBounds_toArray, List.set_cons_zero, List.set_cons_succ]
            refine wpAnyH_take (i := 1) (oi := { dst := some 71, op := Op.move (Operand.tmp 8), type := 3, pos := "laws.go:580", after := #[], guard := none }) (v := ?_) rfl (by kernel_rfl) (by kernel_rfl) (by kernel_rfl) (fun _ _ _ h => h) (Or.inl ⟨by rfl, ?_⟩) (by assumption) ?_
            rotate_left
            · (intro wY hSw; (try dsimp only at hSw); go_simp; try with_reducible rfl)
            simp only [Act.put, List.setIfInBounds_toArray, List.set_cons_zero, List.set_cons_succ]
            refine wpAnyH_take (i := 2) (oi := { dst := some 72, op := Op.indexAddr 24 (Operand.tmp 70) (Operand.tmp 71), type := 0, pos := "laws.go:580", after := #[{ on := 0, ground := Ground.data }, { on := 1, ground := Ground.data }], guard := none }) (v := ?_) rfl (by kernel_rfl) (by kernel_rfl) (by kernel_rfl) (fun _ _ _ h => h) (Or.inl ⟨by rfl, ?_⟩) (by assumption) ?_
            rotate_left
            · (intro wY hSw; (try dsimp only at hSw); go_simp; try with_reducible rfl)
            simp only [Act.put, List.setIfInBounds_toArray, List.set_cons_zero, List.set_cons_succ]
            refine wpAnyH_take (i := 3) (oi := { dst := some 73, op := Op.fieldAddr 33 (Operand.tmp 72) 3, type := 0, pos := "laws.go:580", after := #[{ on := 2, ground := Ground.data }], guard := none }) (v := ?_) rfl (by kernel_rfl) (by kernel_rfl) (by kernel_rfl) (fun _ _ _ h => h) (Or.inl ⟨by rfl, ?_⟩) (by assumption) ?_
            rotate_left
            · (intro wY hSw; (try dsimp only at hSw); go_simp; try with_reducible rfl)
            simp only [Act.put, List.setIfInBounds_toArray, List.set_cons_zero, List.set_cons_succ]
            refine wpAnyH_take (i := 4) (oi := { dst := some 74, op := Op.load 28 (Operand.tmp 73), type := 28, pos := "laws.go:580", after := #[{ on := 3, ground := Ground.data }], guard := none }) (v := ?_) rfl (by kernel_rfl) (by kernel_rfl) (by kernel_rfl) (fun _ _ _ h => h) (Or.inl ⟨by rfl, ?_⟩) (by assumption) ?_
            rotate_left
            · (intro wY hSw; (try dsimp only at hSw); go_simp; try with_reducible rfl)
            simp only [Act.put, List.setIfInBounds_toArray, List.set_cons_zero, List.set_cons_succ]
            refine wpAnyH_take (i := 5) (oi := { dst := some 75, op := Op.move (Operand.tmp 4), type := 24, pos := "laws.go:580", after := #[], guard := none }) (v := ?_) rfl (by kernel_rfl) (by kernel_rfl) (by kernel_rfl) (fun _ _ _ h => h) (Or.inl ⟨by rfl, ?_⟩) (by assumption) ?_
            rotate_left
            · (intro wY hSw; (try dsimp only at hSw); go_simp; try with_reducible rfl)
            simp only [Act.put, List.setIfInBounds_toArray, List.set_cons_zero, List.set_cons_succ]
            refine wpAnyH_take (i := 6) (oi := { dst := some 76, op := Op.move (Operand.tmp 8), type := 3, pos := "laws.go:580", after := #[], guard := none }) (v := ?_) rfl (by kernel_rfl) (by kernel_rfl) (by kernel_rfl) (fun _ _ _ h => h) (Or.inl ⟨by rfl, ?_⟩) (by assumption) ?_
            rotate_left
            · (intro wY hSw; (try dsimp only at hSw); go_simp; try with_reducible rfl)
            simp only [Act.put, List.setIfInBounds_toArray, List.set_cons_zero, List.set_cons_succ]
            refine wpAnyH_take (i := 7) (oi := { dst := some 77, op := Op.indexAddr 24 (Operand.tmp 75) (Operand.tmp 76), type := 0, pos := "laws.go:580", after := #[{ on := 5, ground := Ground.data }, { on := 6, ground := Ground.data }], guard := none }) (v := ?_) rfl (by kernel_rfl) (by kernel_rfl) (by kernel_rfl) (fun _ _ _ h => h) (Or.inl ⟨by rfl, ?_⟩) (by assumption) ?_
            rotate_left
            · (intro wY hSw; (try dsimp only at hSw); go_simp; try with_reducible rfl)
            simp only [Act.put, List.setIfInBounds_toArray, List.set_cons_zero, List.set_cons_succ]
            refine wpAnyH_take (i := 8) (oi := { dst := some 78, op := Op.fieldAddr 33 (Operand.tmp 77) 1, type := 0, pos := "laws.go:580", after := #[{ on := 7, ground := Ground.data }], guard := none }) (v := ?_) rfl (by kernel_rfl) (by kernel_rfl) (by kernel_rfl) (fun _ _ _ h => h) (Or.inl ⟨by rfl, ?_⟩) (by assumption) ?_
            rotate_left
            · (intro wY hSw; (try dsimp only at hSw); go_simp; try with_reducible rfl)
            simp only [Act.put, List.setIfInBounds_toArray, List.set_cons_zero, List.set_cons_succ]
            refine wpAnyH_take (i := 9) (oi := { dst := some 79, op := Op.load 3 (Operand.tmp 78), type := 3, pos := "laws.go:580", after := #[{ on := 8, ground := Ground.data }], guard := none }) (v := ?_) rfl (by kernel_rfl) (by kernel_rfl) (by kernel_rfl) (fun _ _ _ h => h) (Or.inl ⟨by rfl, ?_⟩) (by assumption) ?_
            rotate_left
            · (intro wY hSw; (try dsimp only at hSw); go_simp; try with_reducible rfl)
            simp only [Act.put, List.setIfInBounds_toArray, List.set_cons_zero, List.set_cons_succ]
            refine wpAnyH_ready (rs := [10, 14]) (by kernel_rfl) (by simp) ?_
            refine AllReadyH.cons (o := { dst := some 80, op := Op.call { callee := Callee.value (Operand.func 16), args := #[Operand.tmp 74, Operand.tmp 79], argTypes := #[28, 3] }, type := 36, pos := "laws.go:580", after := #[{ on := 4, ground := Ground.data }, { on := 9, ground := Ground.data }], guard := none }) rfl (fun K hK => ?_) ?_
            · go_simp
              refine (implStepVec_any x.v.r x.v.c x.v.h x.v.b x.v.p x.k _).mono ?_
              rintro e wx ⟨rfl, hbx⟩
              rw [HST.out, HQ.out]
              try have kB := kept_block kB hbx
              have vv := gr_trans vv hbx
              clear hbx
              go_wp2_with fail
              refine hK.out _ _ (HSS.out _ vv) (fun hHeld => ?_)
              clear hK K
              try simp only [Act.put, List.setIfInBounds_toArray, List.set_cons_zero, List.set_cons_succ]
              refine wpAnyH_take (i := 11) (oi := { dst := some 69, op := Op.move (Operand.tmp 80), type := 36, pos := "laws.go:580", after := #[{ on := 10, ground := Ground.data }], guard := none }) (v := ?_) rfl (by kernel_rfl) (by kernel_rfl) (by kernel_rfl) (fun _ _ _ h => h) (Or.inl ⟨by rfl, ?_⟩) (by assumption) ?_
              rotate_left
              · (intro wY hSw; (try dsimp only at hSw); go_simp; try with_reducible rfl)
              simp only [Act.put, List.setIfInBounds_toArray, List.set_cons_zero, List.set_cons_succ]
              refine wpAnyH_take (i := 12) (oi := { dst := some 81, op := Op.extract (Operand.tmp 69) 0, type := 28, pos := "laws.go:580", after := #[{ on := 11, ground := Ground.data }], guard := none }) (v := ?_) rfl (by kernel_rfl) (by kernel_rfl) (by kernel_rfl) (fun _ _ _ h => h) (Or.inl ⟨by rfl, ?_⟩) (by assumption) ?_
              rotate_left
              · (intro wY hSw; (try dsimp only at hSw); go_simp; try with_reducible rfl)
              simp only [Act.put, List.setIfInBounds_toArray, List.set_cons_zero, List.set_cons_succ]
              refine wpAnyH_take (i := 13) (oi := { dst := some 82, op := Op.extract (Operand.tmp 69) 1, type := 4, pos := "laws.go:580", after := #[{ on := 11, ground := Ground.data }, { on := 15, ground := Ground.gcOnly Departure.lateStores }], guard := none }) (v := ?_) rfl (by kernel_rfl) (by kernel_rfl) (by kernel_rfl) (fun _ _ _ h => h) (Or.inl ⟨by rfl, ?_⟩) (by assumption) ?_
              rotate_left
              · (intro wY hSw; (try dsimp only at hSw); go_simp; try with_reducible rfl)
              simp only [Act.put, List.setIfInBounds_toArray, List.set_cons_zero, List.set_cons_succ]
              refine wpAnyH_ready (rs := [14]) (by kernel_rfl) (by simp) ?_
              refine AllReadyH.cons (o := { dst := some 10, op := Op.alloc 28, type := 0, pos := "laws.go:580", after := #[], guard := none }) rfl (fun K hK => ?_) ?_
              · go_simp
                first
                | refine made_new (K := K _) (fun wx kB hbx => ?_)
                | refine made_drew (K := K _) (fun wx kB hbx => ?_)
                have gB := vv.size
                have vv := gr_trans vv hbx
                clear hbx
                refine hK.out _ _ (HSS.out _ vv) (fun hHeld => ?_)
                clear hK K
                try simp only [Act.put, List.setIfInBounds_toArray, List.set_cons_zero, List.set_cons_succ]
                refine wpAnyH_ready (rs := [15]) (by kernel_rfl) (by simp) ?_
                refine AllReadyH.cons (o := { dst := none, op := Op.store 28 (Operand.tmp 10) (Operand.tmp 81), type := 0, pos := "laws.go:580", after := #[{ on := 14, ground := Ground.data }, { on := 12, ground := Ground.data }, { on := 10, ground := Ground.chain }, { on := 0, ground := Ground.phase }, { on := 1, ground := Ground.phase }, { on := 2, ground := Ground.phase }, { on := 3, ground := Ground.phase }, { on := 4, ground := Ground.phase }, { on := 5, ground := Ground.phase }, { on := 6, ground := Ground.phase }, { on := 7, ground := Ground.phase }, { on := 8, ground := Ground.phase }, { on := 9, ground := Ground.phase }, { on := 10, ground := Ground.phase }, { on := 11, ground := Ground.phase }, { on := 12, ground := Ground.phase }, { on := 13, ground := Ground.textOnly Departure.lateStores }, { on := 14, ground := Ground.phase }], guard := none }) rfl (fun K hK => ?_) ?_
                · obtain ⟨⟨b0, b1, b2, b3, b4⟩, f0, f1, f2, f3, f4⟩ := cells5 kB
                  go_simp
                  have vv := below_set5 vv gB (.int .i64 u.r) (.int .i64 u.c) (.int .i64 u.h) (.int .i64 u.b) (.int .i64 u.p)
                  have kB := box5_set kB (.int .i64 u.r) (.int .i64 u.c) (.int .i64 u.h) (.int .i64 u.b) (.int .i64 u.p)
                  clear b0 b1 b2 b3 b4 f0 f1 f2 f3 f4
                  refine hK.out _ _ (HSS.out _ vv) (fun hHeld => ?_)
                  clear hK K
                  try simp only [Act.put, List.setIfInBounds_toArray, List.set_cons_zero, List.set_cons_succ]
                  refine wpAnyH_take (i := 16) (oi := { dst := some 11, op := Op.assign (Operand.tmp 82), type := 4, pos := "laws.go:580", after := #[{ on := 13, ground := Ground.data }, { on := 15, ground := Ground.chain }, { on := 0, ground := Ground.phase }, { on := 1, ground := Ground.phase }, { on := 2, ground := Ground.phase }, { on := 3, ground := Ground.phase }, { on := 4, ground := Ground.phase }, { on := 5, ground := Ground.phase }, { on := 6, ground := Ground.phase }, { on := 7, ground := Ground.phase }, { on := 8, ground := Ground.phase }, { on := 9, ground := Ground.phase }, { on := 10, ground := Ground.phase }, { on := 11, ground := Ground.phase }, { on := 12, ground := Ground.phase }, { on := 13, ground := Ground.phase }, { on := 14, ground := Ground.phase }, { on := 15, ground := Ground.phase }], guard := none }) (v := ?_) rfl (by kernel_rfl) (by kernel_rfl) (by kernel_rfl) (fun _ _ _ h => h) (Or.inl ⟨by rfl, ?_⟩) (by assumption) ?_
                  rotate_left
                  · (intro wY hSw; (try dsimp only at hSw); go_simp; try with_reducible rfl)
                  simp only [Act.put, List.setIfInBounds_toArray, List.set_cons_zero, List.set_cons_succ]
                  refine wpAnyH_done (by kernel_rfl) ?_ _
                  clear hHeld
                  go_wp2_with fail
                  go_meet
                  exact ⟨_, rfl, rfl, gB, kB, vv⟩
                exact AllReadyH.nil
              exact AllReadyH.nil
            refine AllReadyH.cons (o := { dst := some 10, op := Op.alloc 28, type := 0, pos := "laws.go:580", after := #[], guard := none }) rfl (fun K hK => ?_) ?_
            · go_simp
              first
              | refine made_new (K := K _) (fun wx kB hbx => ?_)
              | refine made_drew (K := K _) (fun wx kB hbx => ?_)
              have gB := vv.size
              have vv := gr_trans vv hbx
              clear hbx
              refine hK.out _ _ (HSS.out _ vv) (fun hHeld => ?_)
              clear hK K
              try simp only [Act.put, List.setIfInBounds_toArray, List.set_cons_zero, List.set_cons_succ]
              refine wpAnyH_ready (rs := [10]) (by kernel_rfl) (by simp) ?_
              refine AllReadyH.cons (o := { dst := some 80, op := Op.call { callee := Callee.value (Operand.func 16), args := #[Operand.tmp 74, Operand.tmp 79], argTypes := #[28, 3] }, type := 36, pos := "laws.go:580", after := #[{ on := 4, ground := Ground.data }, { on := 9, ground := Ground.data }], guard := none }) rfl (fun K hK => ?_) ?_
              · go_simp
                refine (implStepVec_any x.v.r x.v.c x.v.h x.v.b x.v.p x.k _).mono ?_
                rintro e wx ⟨rfl, hbx⟩
                rw [HST.out, HQ.out]
                try have kB := kept_block kB hbx
                have vv := gr_trans vv hbx
                clear hbx
                go_wp2_with fail
                refine hK.out _ _ (HSS.out _ vv) (fun hHeld => ?_)
                clear hK K
                try simp only [Act.put, List.setIfInBounds_toArray, List.set_cons_zero, List.set_cons_succ]
                refine wpAnyH_take (i := 11) (oi := { dst := some 69, op := Op.move (Operand.tmp 80), type := 36, pos := "laws.go:580", after := #[{ on := 10, ground := Ground.data }], guard := none }) (v := ?_) rfl (by kernel_rfl) (by kernel_rfl) (by kernel_rfl) (fun _ _ _ h => h) (Or.inl ⟨by rfl, ?_⟩) (by assumption) ?_
                rotate_left
                · (intro wY hSw; (try dsimp only at hSw); go_simp; try with_reducible rfl)
                simp only [Act.put, List.setIfInBounds_toArray, List.set_cons_zero, List.set_cons_succ]
                refine wpAnyH_take (i := 12) (oi := { dst := some 81, op := Op.extract (Operand.tmp 69) 0, type := 28, pos := "laws.go:580", after := #[{ on := 11, ground := Ground.data }], guard := none }) (v := ?_) rfl (by kernel_rfl) (by kernel_rfl) (by kernel_rfl) (fun _ _ _ h => h) (Or.inl ⟨by rfl, ?_⟩) (by assumption) ?_
                rotate_left
                · (intro wY hSw; (try dsimp only at hSw); go_simp; try with_reducible rfl)
                simp only [Act.put, List.setIfInBounds_toArray, List.set_cons_zero, List.set_cons_succ]
                refine wpAnyH_take (i := 13) (oi := { dst := some 82, op := Op.extract (Operand.tmp 69) 1, type := 4, pos := "laws.go:580", after := #[{ on := 11, ground := Ground.data }, { on := 15, ground := Ground.gcOnly Departure.lateStores }], guard := none }) (v := ?_) rfl (by kernel_rfl) (by kernel_rfl) (by kernel_rfl) (fun _ _ _ h => h) (Or.inl ⟨by rfl, ?_⟩) (by assumption) ?_
                rotate_left
                · (intro wY hSw; (try dsimp only at hSw); go_simp; try with_reducible rfl)
                simp only [Act.put, List.setIfInBounds_toArray, List.set_cons_zero, List.set_cons_succ]
                refine wpAnyH_ready (rs := [15]) (by kernel_rfl) (by simp) ?_
                refine AllReadyH.cons (o := { dst := none, op := Op.store 28 (Operand.tmp 10) (Operand.tmp 81), type := 0, pos := "laws.go:580", after := #[{ on := 14, ground := Ground.data }, { on := 12, ground := Ground.data }, { on := 10, ground := Ground.chain }, { on := 0, ground := Ground.phase }, { on := 1, ground := Ground.phase }, { on := 2, ground := Ground.phase }, { on := 3, ground := Ground.phase }, { on := 4, ground := Ground.phase }, { on := 5, ground := Ground.phase }, { on := 6, ground := Ground.phase }, { on := 7, ground := Ground.phase }, { on := 8, ground := Ground.phase }, { on := 9, ground := Ground.phase }, { on := 10, ground := Ground.phase }, { on := 11, ground := Ground.phase }, { on := 12, ground := Ground.phase }, { on := 13, ground := Ground.textOnly Departure.lateStores }, { on := 14, ground := Ground.phase }], guard := none }) rfl (fun K hK => ?_) ?_
                · obtain ⟨⟨b0, b1, b2, b3, b4⟩, f0, f1, f2, f3, f4⟩ := cells5 kB
                  go_simp
                  have vv := below_set5 vv gB (.int .i64 u.r) (.int .i64 u.c) (.int .i64 u.h) (.int .i64 u.b) (.int .i64 u.p)
                  have kB := box5_set kB (.int .i64 u.r) (.int .i64 u.c) (.int .i64 u.h) (.int .i64 u.b) (.int .i64 u.p)
                  clear b0 b1 b2 b3 b4 f0 f1 f2 f3 f4
                  refine hK.out _ _ (HSS.out _ vv) (fun hHeld => ?_)
                  clear hK K
                  try simp only [Act.put, List.setIfInBounds_toArray, List.set_cons_zero, List.set_cons_succ]
                  refine wpAnyH_take (i := 16) (oi := { dst := some 11, op := Op.assign (Operand.tmp 82), type := 4, pos := "laws.go:580", after := #[{ on := 13, ground := Ground.data }, { on := 15, ground := Ground.chain }, { on := 0, ground := Ground.phase }, { on := 1, ground := Ground.phase }, { on := 2, ground := Ground.phase }, { on := 3, ground := Ground.phase }, { on := 4, ground := Ground.phase }, { on := 5, ground := Ground.phase }, { on := 6, ground := Ground.phase }, { on := 7, ground := Ground.phase }, { on := 8, ground := Ground.phase }, { on := 9, ground := Ground.phase }, { on := 10, ground := Ground.phase }, { on := 11, ground := Ground.phase }, { on := 12, ground := Ground.phase }, { on := 13, ground := Ground.phase }, { on := 14, ground := Ground.phase }, { on := 15, ground := Ground.phase }], guard := none }) (v := ?_) rfl (by kernel_rfl) (by kernel_rfl) (by kernel_rfl) (fun _ _ _ h => h) (Or.inl ⟨by rfl, ?_⟩) (by assumption) ?_
                  rotate_left
                  · (intro wY hSw; (try dsimp only at hSw); go_simp; try with_reducible rfl)
                  simp only [Act.put, List.setIfInBounds_toArray, List.set_cons_zero, List.set_cons_succ]
                  refine wpAnyH_done (by kernel_rfl) ?_ _
                  clear hHeld
                  go_wp2_with fail
                  go_meet
                  exact ⟨_, rfl, rfl, gB, kB, vv⟩
                exact AllReadyH.nil
              exact AllReadyH.nil
            exact AllReadyH.nil
          case rest =>
            obtain ⟨g, rfl, rfl, hg, kX, hbx⟩ := hcut
            obtain ⟨wS, hwS⟩ : ∃ y, y = wc := ⟨_, rfl⟩
            subst hwS
            have HBX := hide hbx
            obtain ⟨c0, c2⟩ := HUH.out _ hbx
            have kY2 := kept_block (kept_block kY (gr_trans HB.out HBQ.out)) hbx
            obtain ⟨⟨x0, x1, x2, x3, x4⟩, -⟩ := cells5 kX
            obtain ⟨⟨y0, y1, y2, y3, y4⟩, -⟩ := cells5 kY2
            clear hbx kX kY2
            cases hup : x.up
            · rw [hup] at c0
              clear x0 x1 x2 x3 x4 y0 y1 y2 y3 y4
              go_wp2
              go_roundw
              case rel => exact ⟨k + 1, by omega, by go_num, by rw [HNN.out], gr_trans HB.out (gr_trans HBQ.out HBX.out)⟩
              case measure => simp [intOf]; omega
            cases hhs : x.has
            · rw [hup] at c0
              rw [hhs] at c2
              clear x0 x1 x2 x3 x4 y0 y1 y2 y3 y4
              go_wp2
              go_roundw
              case rel => exact ⟨k + 1, by omega, by go_num, by rw [HNN.out], gr_trans HB.out (gr_trans HBQ.out HBX.out)⟩
              case measure => simp [intOf]; omega
            rw [hup] at c0
            rw [hhs] at c2
            cases q
            · clear x0 x1 x2 x3 x4 y0 y1 y2 y3 y4
              go_wp2
              go_roundw
              case rel => exact ⟨k + 1, by omega, by go_num, by rw [HNN.out], gr_trans HB.out (gr_trans HBQ.out HBX.out)⟩
              case measure => simp [intOf]; omega
            have hbad := BH.out k x HX.out hup hhs HST.out
            rw [show stepV x.v x.k = u from HU.out.symm] at hbad
            clear hup hhs
            have d1 : ¬ u.r < V.r := fun e => hbad (.inl e)
            have d1b : decide (u.r < V.r) = false := decide_eq_false d1
            by_cases d2 : u.r = V.r
            · have d2b : (u.r == V.r) = true := by simp [d2]
              by_cases d3 : u.c < V.c
              · have d3b : decide (u.c < V.c) = true := decide_eq_true d3
                have d4 : ¬ u.r < id := fun e => hbad (.inr ⟨d2, d3, e⟩)
                have d4b : decide (u.r < id) = false := decide_eq_false d4
                clear hbad d2
                go_wp2
                go_roundw
                case rel => exact ⟨k + 1, by omega, by go_num, by rw [HNN.out], gr_trans HB.out (gr_trans HBQ.out HBX.out)⟩
                case measure => simp [intOf]; omega
              · have d3b : decide (u.c < V.c) = false := decide_eq_false d3
                clear hbad d2
                go_wp2
                go_roundw
                case rel => exact ⟨k + 1, by omega, by go_num, by rw [HNN.out], gr_trans HB.out (gr_trans HBQ.out HBX.out)⟩
                case measure => simp [intOf]; omega
            · have d2b : (u.r == V.r) = false := by simp [d2]
              clear hbad
              go_wp2
              go_roundw
              case rel => exact ⟨k + 1, by omega, by go_num, by rw [HNN.out], gr_trans HB.out (gr_trans HBQ.out HBX.out)⟩
              case measure => simp [intOf]; omega
    · have hkm : k = m := by omega
      subst hkm
      have HBE := hide (gr_trans UU.out hb)
      obtain ⟨⟨y0, y1, y2, y3, y4⟩, -⟩ := cells5 (kept_block kY hb)
      have tb := HTB.out
      have tr := HTR.out
      have ti := HTI.out
      have tbb : (V.b == id) = true := by simp [tb]
      have trb : decide (V.r ≤ id) = true := decide_eq_true tr
      clear hb tb y1 y2 y4
      by_cases hp : P = -1
      · have hr : (V.r == id) = true := by simp; exact ti.2 hp
        have hpb : (P == -1) = true := by simp [hp]
        have hp0 : decide (0 ≤ P) = false := decide_eq_false (by omega)
        have hn : rootsTo P k = 0 := by unfold rootsTo; rw [if_neg (by omega)]
        rw [hn]
        have hp' : ¬ 0 ≤ P := by omega
        clear hp ti tr hn tl
        go_wp2
        go_ret
        exact ⟨rfl, HBE.out⟩
      · have hr : (V.r == id) = false := by simp; exact fun e => hp (ti.1 e)
        have hpb : (P == -1) = false := by simp [hp]
        have hp0 : decide (0 ≤ P) = true := decide_eq_true (by omega)
        have hn : rootsTo P k = 1 := by unfold rootsTo; rw [if_pos (by omega)]
        rw [hn]
        have hp' : 0 ≤ P := by omega
        clear ti tr hn tl
        go_wp2
        go_ret
        exact ⟨rfl, HBE.out⟩

theorem fnRoles_own : ownKnob Try.prog.godebug = none := by kernel_rfl
theorem fnRoles_laid : laidOutB Try.prog = true := by kernel_rfl

open Go.ChangeShapes Go.WideShapes Go.ChangeAt in
open Go.ChangeMaps (open_string shut_string) in
set_option maxRecDepth 100000 in
theorem fnRoles_lifted (os : Os) (started : os.Started) (H : Type) (enc : TypeId × Value → H) :
    ReturnsInHanded {} Try.checked os 3 .any (Rows.fnRolesSpec.pre6 enc Try.prog Try.f3 Rows.fnRolesRow.domain false) (Rows.fnRolesSpec.post enc Try.prog Try.f3 false true false false) := by
  refine returnsInHanded_of_change (C := Try.checked) fnRoles_own started (by kernel_rfl) Try.func3
    (ChangeSpec.witness6 (enc := enc) (C := Try.checked) false ⟨#[], #[.slice none 0 0], []⟩ 8 (by kernel_rfl) (by kernel_rfl) (by kernel_rfl) (by kernel_rfl)) ?_
  intro W base args ds gs before hval0 hW hcnd _
  have hval : ∀ (j : Nat) t v, Try.f3.params[j]? = some t → args[j]? = some v → Value.okWide Try.prog W .any base t v := hval0
  have hW' := hW
  obtain ⟨p, q, hA0, hV, rfl, hfz, hnd⟩ := hW
  have hA : DataW.TrodAll enc Try.prog W 0 (fun _ => true) true Try.f3.params.toList args.toList ds p := hA0
  rw [Try.params3] at hA hval
  obtain ⟨v0, vs0, d0, ds0, p0, q0, hargs, rfl, rfl, h0, r0⟩ := trodAll_cons hA
  obtain ⟨rfl, rfl, rfl⟩ := trodAll_nil r0
  obtain rfl : args = #[v0] := by cases args; simp_all
  obtain ⟨rfl, rfl⟩ := trodVars_none hV
  obtain ⟨a0, len0, cap0, rfl⟩ := okWide_slice Try.underlying22 (hval 0 22 v0 rfl rfl)
  have k0 := h0
  have lt0 : ∀ x ∈ p0, x.block < W.heap.size := by obtain ⟨m, hm⟩ := k0; exact DataW.trod_lt m _ _ _ hm
  obtain ⟨z0, w0⟩ : ∃ zs, Row W a0 len0 cap0 zs := by
    obtain ⟨fuel, hf⟩ := h0
    rcases open_ints Try.underlying22 Try.underlying5 (by kernel_rfl) hf with ⟨hcs, _⟩ | ⟨x, l, c, zs, hcs, _, hl, hm, hz, _, hcell, hwz⟩
    · simp [Value.cells] at hcs
      obtain ⟨rfl, rfl, rfl⟩ := hcs
      exact ⟨[], row_nil W⟩
    · simp [Value.cells] at hcs
      obtain ⟨rfl, rfl, rfl⟩ := hcs
      exact ⟨zs.take len0, row_open hl hm (by simpa using hz) hcell hwz⟩
  clear hA0 hval0
  refine (roles_walk a0 len0 cap0 z0 W w0).mono fun e W' ⟨he, bel⟩ => ?_
  subst he
  exact ⟨_, rfl, _, _, _, [], _, [], hW', trodAll_mk1 (shut_bool Try.underlying4 _), (trodAll_cons_mk (Below.trod fnRoles_laid (by kernel_rfl) (of_decide_eq_true (by kernel_rfl)) k0 bel lt0) trodAll_mk0), rfl, bel.frame _, fun h => by cases h⟩

theorem fnRoles_holds : Rows.FnRolesSaid :=
  OpenClaim.holds_of_wide 3 Try.f3 rfl rfl rfl rfl rfl rfl rfl ⟨rfl, rfl, rfl, rfl, rfl⟩ rfl rfl rfl rfl rfl (by kernel_rfl) Try.func3 (by kernel_rfl)
    (of_decide_eq_true (by kernel_rfl)) (by unfold Func.isWrapper; first | (rw [if_pos (by decide +kernel)]; kernel_rfl) | (rw [if_neg (by decide +kernel)]; exact ⟨rfl, rfl⟩))
    (fun os started H enc _ => fnRoles_lifted os started H enc)

#print axioms fnRoles_holds

end Go.Proofs.Ytmlcjdfnoipihaa
