/-
  Packed: PtBestI PtRoleI PtSendsI VlanRow PtRole PtSends.
-/
import Derived.Test.YtfknffdlmcckkaaGreatPTKW
import Derived.Test.YtfknffdlmcckkaaGreatPTK01
import Derived.Test.YtfknffdlmcckkaaGreatPTK02
import Derived.Test.YtfknffdlmcckkaaGreatPTK03
import Derived.Test.YtfknffdlmcckkaaGreatPTK04
import Derived.Deep.RegionHeld3
namespace Go.Proofs.YtfknffdlmcckkaaGreat
open Go.RowKit

def heldV (id : Int) : Option (VD × Nat) → VD
 | none => ⟨id, 0, 0, 0, 0⟩
 | some (f, _) => f

structure BiSt (w W : World) (v : VD) : Prop where
 res : W.heap[w.heap.size]? = some (.cells #[.int .i64 0, .int .i64 0, .int .i64 0, .int .i64 0, .int .i64 0] 35)
 best : W.heap[w.heap.size + 1]? = some (.cells #[.int .i64 v.r, .int .i64 v.c, .int .i64 v.h, .int .i64 v.b, .int .i64 v.p] 35)
 below : Below w.heap.size w W

theorem BiSt.later {w W W' : World} {v : VD} (h : BiSt w W v) (hb : Below W.heap.size W W') : BiSt w W' v :=
 ⟨kept_block h.res hb, kept_block h.best hb, gr_trans h.below hb⟩

theorem BiSt.set {w W : World} {v : VD} (h : BiSt w W v) (u : VD) : BiSt w (((((W.setCell ⟨w.heap.size + 1, 0, none⟩ (.int .i64 u.r)).setCell ⟨w.heap.size + 1, 1, none⟩ (.int .i64 u.c)).setCell ⟨w.heap.size + 1, 2, none⟩ (.int .i64 u.h)).setCell ⟨w.heap.size + 1, 3, none⟩ (.int .i64 u.b)).setCell ⟨w.heap.size + 1, 4, none⟩ (.int .i64 u.p)) u :=
 ⟨kept_set5 h.res (by omega) _ _ _ _ _, box5_set h.best _ _ _ _ _, below_set5 h.below (by omega) _ _ _ _ _⟩

theorem less_held {id : Int} {u : VD} (h : u.r < id) : lessVc u.r u.c u.b u.p id 0 0 0 = true := by
 unfold lessVc
 have : (u.r != id) = true := by simp; omega
 rw [this]
 simp [h]

theorem best_round {id : Int} {s : Option (VD × Nat)} {i : Nat} {x : PT} (ho : offers id x = true) (hs : ∀ f j, s = some (f, j) → f.r < id) :
  bestStep id s i x = if lessV (overV x) (heldV id s) = true then some (overV x, i) else s := by
 have ho' := ho
 rw [offers_over] at ho'
 simp only [Bool.and_eq_true, decide_eq_true_eq] at ho'
 have e := over_yes ho'.1
 unfold bestStep
 rw [if_pos ho]
 cases s with
 | none =>
  rw [if_pos]
  ·rw [e]
  ·exact less_held ho'.2
 | some y =>
  obtain ⟨f, j⟩ := y
  simp only [heldV]
  rw [e]
  rfl

set_option maxRecDepth 100000 in
set_option maxHeartbeats 4000000 in
theorem implBestVec_any (id : Int) (a : Option Addr) (n c : Nat) (l : List PT) (w : World) (h : GRow ptF w a n c l) :
  Calls Tryz.prog 92 #[.int .i64 id, .slice a n c] w fun e w' => e = .returned (.tuple #[.agg #[.int .i64 (bestV id (bestOf id l)).r, .int .i64 (bestV id (bestOf id l)).c, .int .i64 (bestV id (bestOf id l)).h, .int .i64 (bestV id (bestOf id l)).b, .int .i64 (bestV id (bestOf id l)).p], .int .i64 (bestP (bestOf id l))]) ∧ Below w.heap.size w w' := by
 have hle := h.le
 have htop := h.top
 unfold maxLen at htop
 have hsz := hide h.size
 go_enter Tryz.func92, Tryz.ntmps92
 go_wp2_with fail
 generalize hw3 : (w.alloc (Obj.cells #[.int .i64 0, .int .i64 0, .int .i64 0, .int .i64 0, .int .i64 0] 35)).alloc (Obj.cells #[.int .i64 id, .int .i64 0, .int .i64 0, .int .i64 0, .int .i64 0] 35) = w3
 have st3 : BiSt w w3 (heldV id none) := by
  subst hw3
  obtain ⟨k0, k1⟩ := kept_two (Below.refl _ ((w.alloc (Obj.cells #[.int .i64 0, .int .i64 0, .int .i64 0, .int .i64 0, .int .i64 0] 35)).alloc (Obj.cells #[.int .i64 id, .int .i64 0, .int .i64 0, .int .i64 0, .int .i64 0] 35)))
  exact ⟨k0, k1, below_two _ _ _⟩
 clear hw3
 go_loopw [7, 16] (fun p i wr => ∃ (k : Nat) (s : Option (VD × Nat)), k ≤ n ∧ i = .int .i64 k ∧ p = .int .i64 (bestP s) ∧ (bestTo id l k = s ∧ ∀ f j, s = some (f, j) → f.r < id) ∧ BiSt w wr (heldV id s)) (fun _ i _ => n - (intOf i).toNat)
 case atStart => exact ⟨0, none, Nat.zero_le _, rfl, rfl, ⟨rfl, by intro f j e; cases e⟩, st3⟩
 case round =>
  obtain ⟨k, s, hk, rfl, rfl, ⟨hs, hrt⟩, st⟩ := hrel
  obtain ⟨hv, hhv⟩ : ∃ y, y = heldV id s := ⟨_, rfl⟩
  have BACK : Hid (∀ W, BiSt w W hv → BiSt w W (heldV id s)) := hide (by subst hhv; exact fun W h => h)
  rw [← hhv] at st
  have HHV := hide hhv
  have HRT := hide hrt
  clear hhv hrt
  by_cases hlt : k < n
  ·obtain ⟨x, b, off, hx, rfl, c0, c1, c2, c3, c4, c5, c6, c7⟩ := pt_at (h.below st.below) k hlt
   have hnx := bestTo_next (id := id) hx
   rw [hs] at hnx
   have i1 : (0 : Int) ≤ (k : Int) := by omega
   have i2 : (k : Int) < (n : Int) := by omega
   have NX := hide hnx
   have ST := hide st
   clear hs hnx hx st
   go_wp2_with fail
   refine (overLink_any x _).mono ?_
   rintro e w4 ⟨rfl, hb4⟩
   have st4 := (ST.out.later (below_one _ _)).later hb4
   clear hb4 c0 c1 c2 c3 c4 c5 c6 c7
   generalize hu : overV x = u
   generalize hq : overB x = q
   have HU := hide hu
   have HQ := hide hq
   clear hu hq
   go_upto_region 6 with fail
   generalize hw5 : w4.alloc (Obj.cells #[.int .i64 u.r, .int .i64 u.c, .int .i64 u.h, .int .i64 u.b, .int .i64 u.p] 35) = w5
   have st5 : BiSt w w5 hv := by rw [← hw5]; exact st4.later (below_one _ _)
   have kX : w5.heap[w4.heap.size]? = some (.cells #[.int .i64 u.r, .int .i64 u.c, .int .i64 u.h, .int .i64 u.b, .int .i64 u.p] 35) := by rw [← hw5]; exact block_last _ _
   have hl4 := (Array.getElem?_eq_some_iff.1 st4.best).1
   have ne1 : ¬ w4.heap.size = w.heap.size + 1 := by omega
   have ne2 : ¬ w.heap.size + 1 = w4.heap.size := by omega
   have HL4 := hide hl4
   obtain ⟨⟨x0, x1, x2, x3, x4⟩, -⟩ := cells5 kX
   obtain ⟨⟨z0, z1, z2, z3, z4⟩, v0, v1, v2, v3, v4⟩ := cells5 st5.best
   clear st4 hl4 hw5
   have ST5 := hide st5
   have KX := hide kX
   clear kX st5
   cases q
   ·have HE : Hid (bestTo id l (k + 1) = s) := hide (NX.out.trans (bestStep_no (by rw [offers_over, HQ.out]; rfl)))
    clear v0 v1 v2 v3 v4
    go_wp2
    go_roundw
    case rel => exact ⟨k + 1, s, by omega, by go_num, rfl, ⟨HE.out, HRT.out⟩, BACK.out _ ST5.out⟩
    case measure => simp [intOf]; omega
   cases hlr : decide (u.r < id)
   ·have HE : Hid (bestTo id l (k + 1) = s) := hide (NX.out.trans (bestStep_no (by rw [offers_over, HQ.out, HU.out, hlr]; rfl)))
    have hlr : ¬ u.r < id := by simpa using hlr
    clear v0 v1 v2 v3 v4
    go_wp2
    go_roundw
    case rel => exact ⟨k + 1, s, by omega, by go_num, rfl, ⟨HE.out, HRT.out⟩, BACK.out _ ST5.out⟩
    case measure => simp [intOf]; omega
   have HO : Hid (offers id x = true) := hide (by rw [offers_over, HQ.out, HU.out, hlr]; rfl)
   have hlr : u.r < id := by simpa using hlr
   have HLR := hide hlr
   have HSTEP : Hid (bestTo id l (k + 1) = if lessV u hv = true then some (u, k) else s) := hide (by rw [NX.out, best_round HO.out HRT.out, HU.out, HHV.out])
   cases hl : lessV u hv
   ·have HE : Hid (bestTo id l (k + 1) = s) := hide (by rw [HSTEP.out, hl]; rfl)
    have HL : Hid (lessVc u.r u.c u.b u.p hv.r hv.c hv.b hv.p = false) := hide hl
    clear hl v0 v1 v2 v3 v4
    go_wp2_with fail
    refine (implLessVec_any u.r u.c u.h u.b u.p hv.r hv.c hv.h hv.b hv.p _).mono ?_
    rintro e wl ⟨rfl, hbl⟩
    rw [HL.out]
    have SL := hide (ST5.out.later hbl)
    clear hbl x0 x1 x2 x3 x4 z0 z1 z2 z3 z4
    go_wp2
    go_roundw
    case rel => exact ⟨k + 1, s, by omega, by go_num, rfl, ⟨HE.out, HRT.out⟩, BACK.out _ SL.out⟩
    case measure => simp [intOf]; omega
   ·have HE : Hid (bestTo id l (k + 1) = some (u, k)) := hide (by rw [HSTEP.out, hl]; rfl)
    have HL : Hid (lessVc u.r u.c u.b u.p hv.r hv.c hv.b hv.p = true) := hide hl
    clear hl v0 v1 v2 v3 v4
    go_wp2_with fail
    refine (implLessVec_any u.r u.c u.h u.b u.p hv.r hv.c hv.h hv.b hv.p _).mono ?_
    rintro e wl ⟨rfl, hbl⟩
    rw [HL.out]
    have stl := ST5.out.later hbl
    have kX := kept_block KX.out hbl
    clear hbl x0 x1 x2 x3 x4 z0 z1 z2 z3 z4
    obtain ⟨⟨x0, x1, x2, x3, x4⟩, -⟩ := cells5 kX
    obtain ⟨⟨z0, z1, z2, z3, z4⟩, v0, v1, v2, v3, v4⟩ := cells5 stl.best
    have HSET : Hid (BiSt w _ u) := hide (stl.set u)
    clear stl kX
    go_wp2
    go_roundw
    case rel => exact ⟨k + 1, some (u, k), by omega, by go_num, rfl, ⟨HE.out, fun f j e => by cases e; exact HLR.out⟩, HSET.out⟩
    case measure => simp [intOf]; omega
  ·have hkn : k = n := by omega
   subst hkn
   have HB : Hid (bestOf id l = s) := hide (by unfold bestOf; rw [hsz.out]; exact hs)
   have HBV : Hid (bestV id s = ⟨hv.r, hv.c, hv.h, id, 0⟩) := hide (by rw [HHV.out]; cases s <;> rfl)
   obtain ⟨⟨x0, x1, x2, x3, x4⟩, y0, y1, y2, y3, y4⟩ := cells5 st.best
   obtain ⟨⟨r0, r1, r2, r3, r4⟩, z0, z1, z2, z3, z4⟩ := cells5 st.res
   have ne : ¬ w.heap.size = w.heap.size + 1 := by omega
   have hb := below_set5 (below_set (below_set st.below (g := w.heap.size + 1) (by omega) 3 (.int .i64 id)) (g := w.heap.size + 1) (by omega) 4 (.int .i64 0)) (Nat.le_refl w.heap.size) (.int .i64 hv.r) (.int .i64 hv.c) (.int .i64 hv.h) (.int .i64 id) (.int .i64 0)
   clear hs st
   go_wp2
   exact bodyPost_ret (v := .tuple #[.agg #[.int .i64 hv.r, .int .i64 hv.c, .int .i64 hv.h, .int .i64 id, .int .i64 0], .int .i64 (bestP s)]) (by simp [results, Tryz.results92, go_sem, *]) rfl ⟨(by rw [HB.out, HBV.out]), hb⟩

abbrev q238 : Oper := ⟨some 32, .move (.tmp 1), 24, "l10_role.go:54", #[], none⟩
abbrev q239 : Oper := ⟨some 33, .move (.tmp 2), 3, "l10_role.go:54", #[], none⟩
abbrev q240 : Oper := ⟨some 34, .indexAddr 24 (.tmp 32) (.tmp 33), 0, "l10_role.go:54", #[⟨0, .data⟩, ⟨1, .data⟩], none⟩
abbrev q241 : Oper := ⟨some 35, .fieldAddr 44 (.tmp 34) 2, 0, "l10_role.go:54", #[⟨2, .data⟩], none⟩
abbrev q242 : Oper := ⟨some 36, .load 4 (.tmp 35), 4, "l10_role.go:54", #[⟨3, .data⟩], none⟩
abbrev q243 : Oper := ⟨some 37, .unOp .not 4 (.tmp 36), 4, "l10_role.go:54", #[⟨4, .data⟩], none⟩
abbrev q244 : Oper := ⟨some 38, .move (.tmp 37), 4, "l10_role.go:54", #[⟨5, .data⟩], none⟩
abbrev q245 : Oper := ⟨some 39, .move (.tmp 0), 3, "l10_role.go:54", #[⟨6, .guard⟩], some (6, false)⟩
abbrev q246 : Oper := ⟨some 40, .move (.tmp 1), 24, "l10_role.go:54", #[⟨6, .guard⟩], some (6, false)⟩
abbrev q247 : Oper := ⟨some 41, .move (.tmp 2), 3, "l10_role.go:54", #[⟨6, .guard⟩], some (6, false)⟩
abbrev q248 : Oper := ⟨some 42, .call ⟨.value (.func 94), #[.tmp 39, .tmp 40, .tmp 41], #[3, 24, 3]⟩, 35, "l10_role.go:54", #[⟨7, .data⟩, ⟨8, .data⟩, ⟨9, .data⟩, ⟨6, .chain⟩, ⟨6, .guard⟩], some (6, false)⟩
abbrev q249 : Oper := ⟨some 43, .move (.tmp 1), 24, "l10_role.go:54", #[⟨6, .guard⟩], some (6, false)⟩
abbrev q250 : Oper := ⟨some 44, .move (.tmp 2), 3, "l10_role.go:54", #[⟨6, .guard⟩], some (6, false)⟩
abbrev q251 : Oper := ⟨some 45, .indexAddr 24 (.tmp 43) (.tmp 44), 0, "l10_role.go:54", #[⟨11, .data⟩, ⟨12, .data⟩, ⟨6, .guard⟩], some (6, false)⟩
abbrev q252 : Oper := ⟨some 46, .fieldAddr 44 (.tmp 45) 3, 0, "l10_role.go:54", #[⟨13, .data⟩, ⟨6, .guard⟩], some (6, false)⟩
abbrev q253 : Oper := ⟨some 47, .load 35 (.tmp 46), 35, "l10_role.go:54", #[⟨14, .data⟩, ⟨6, .guard⟩], some (6, false)⟩
abbrev q254 : Oper := ⟨some 48, .call ⟨.value (.func 93), #[.tmp 42, .tmp 47], #[35, 35]⟩, 4, "l10_role.go:54", #[⟨10, .data⟩, ⟨15, .data⟩, ⟨10, .chain⟩, ⟨6, .guard⟩], some (6, false)⟩
abbrev q255 : Oper := ⟨some 49, .pick (.tmp 38) (.const (.bool true)) (.tmp 48), 4, "l10_role.go:54", #[⟨6, .data⟩, ⟨16, .data⟩], none⟩

set_option maxRecDepth 100000 in
set_option maxHeartbeats 2000000 in
theorem implSayVec_any (id : Int) (a : Option Addr) (n c : Nat) (l : List PT) (port : Int) (w : World) (h : GRow ptF w a n c l) :
  Calls Tryz.prog 94 #[.int .i64 id, .slice a n c, .int .i64 port] w fun e w' => e = .returned (.agg #[.int .i64 (sayV id l port).r, .int .i64 (sayV id l port).c, .int .i64 (sayV id l port).h, .int .i64 (sayV id l port).b, .int .i64 (sayV id l port).p]) ∧ Below w.heap.size w w' := by
 generalize hw1 : w.alloc (Obj.cells #[.int .i64 0, .int .i64 0, .int .i64 0, .int .i64 0, .int .i64 0] 35) = w1
 have q1 : Below w.heap.size w w1 := by rw [← hw1]; exact below_one _ _
 have k1 : w1.heap[w.heap.size]? = some (.cells #[.int .i64 0, .int .i64 0, .int .i64 0, .int .i64 0, .int .i64 0] 35) := by rw [← hw1]; exact block_last _ _
 have hsb : (sayV id l port) = ⟨(bestV id (bestOf id l)).r, (bestV id (bestOf id l)).c, (bestV id (bestOf id l)).h, (bestV id (bestOf id l)).b, port⟩ := by
  unfold sayV
  cases bestOf id l <;> rfl
 rw [hsb]
 clear hsb
 go_enter Tryz.func94, Tryz.ntmps94
 go_wp2_with fail
 refine (implBestVec_any id a n c l _ (h.below q1)).mono ?_
 rintro e w2 ⟨rfl, hb2⟩
 generalize hv : bestV id (bestOf id l) = v
 have HV := hide hv
 clear hv
 generalize hw3 : w2.alloc (Obj.cells #[.int .i64 v.r, .int .i64 v.c, .int .i64 v.h, .int .i64 v.b, .int .i64 v.p] 35) = w3
 have hb3 : Below w2.heap.size w2 w3 := by rw [← hw3]; exact below_one _ _
 have k3 : w3.heap[w2.heap.size]? = some (.cells #[.int .i64 v.r, .int .i64 v.c, .int .i64 v.h, .int .i64 v.b, .int .i64 v.p] 35) := by rw [← hw3]; exact block_last _ _
 have k1 := kept_block (kept_block k1 hb2) hb3
 have lt1 := (Array.getElem?_eq_some_iff.1 (kept_block (by rw [← hw1]; exact block_last _ _ : w1.heap[w.heap.size]? = some (.cells #[.int .i64 0, .int .i64 0, .int .i64 0, .int .i64 0, .int .i64 0] 35)) hb2)).1
 have ne1 : ¬ w2.heap.size = w.heap.size := by omega
 have ne2 : ¬ w.heap.size = w2.heap.size := by omega
 have HB := hide (below_set5 (below_set (gr_trans (gr_trans q1 hb2) hb3) (g := w2.heap.size) (by omega) 4 (.int .i64 port)) (Nat.le_refl w.heap.size) (.int .i64 v.r) (.int .i64 v.c) (.int .i64 v.h) (.int .i64 v.b) (.int .i64 port))
 obtain ⟨⟨x0, x1, x2, x3, x4⟩, y0, y1, y2, y3, y4⟩ := cells5 k3
 obtain ⟨⟨r0, r1, r2, r3, r4⟩, z0, z1, z2, z3, z4⟩ := cells5 k1
 clear hb2 hb3 k1 k3 q1 lt1
 go_wp2
 exact bodyPost_ret (v := .agg #[.int .i64 v.r, .int .i64 v.c, .int .i64 v.h, .int .i64 v.b, .int .i64 port]) (by simp [results, Tryz.results94, go_sem, *]) rfl ⟨(by rw [HV.out]), HB.out⟩

set_option maxRecDepth 100000 in
set_option maxHeartbeats 4000000 in
theorem implRole_any (id : Int) (a : Option Addr) (n c : Nat) (l : List PT) (port : Int) (w : World) (h : GRow ptF w a n c l) :
  Calls Tryz.prog 50 #[.int .i64 id, .slice a n c, .int .i64 port] w fun e w' => e = .returned (.int .i64 (roleOf id l port)) ∧ Below w.heap.size w w' := by
 have hle := h.le
 have htop := h.top
 unfold maxLen at htop
 have hsz := hide h.size
 cases hin : (decide (0 ≤ port) && decide (port ≤ (n : Int) - 1))
 ·have HIN := hide hin
  have HR : Hid (roleOf id l port = 4) := hide (by unfold roleOf; rw [hsz.out, hin]; rfl)
  clear hin
  go_enter Tryz.func50, Tryz.ntmps50
  go_wp2_with fail
  refine (implWithin_any port 0 ((n : Int) - 1) _).mono ?_
  rintro e w1 ⟨rfl, ew⟩
  obtain rfl := ew.symm
  rw [HIN.out]
  go_wp2
  go_ret
  exact ⟨(by rw [HR.out]; rfl), Below.refl _ _⟩
 obtain ⟨k, rfl⟩ : ∃ k : Nat, port = (k : Int) := ⟨port.toNat, by simp at hin; omega⟩
 have hlt : k < n := by simp at hin; omega
 have HIN := hide hin
 have i1 : (0 : Int) ≤ (k : Int) := by omega
 have i2 : (k : Int) < (n : Int) := by omega
 obtain ⟨x, b, off, hx, rfl, c0, c1, c2, c3, c4, c5, c6, c7⟩ := pt_at h k hlt
 have hro : roleOf id l (k : Int) = roleAt id l k x := by
  unfold roleOf
  rw [hsz.out, hin]
  simp [hx]
 have HRO := hide hro
 clear hin hro
 cases hu : x.up
 ·rw [hu] at c0
  have HR : Hid (roleOf id l (k : Int) = 4) := hide (by rw [HRO.out]; unfold roleAt; rw [if_pos hu])
  clear hu c1 c2 c3 c4 c5 c6 c7 hx
  go_enter Tryz.func50, Tryz.ntmps50
  go_wp2_with fail
  refine (implWithin_any (k : Int) 0 ((n : Int) - 1) _).mono ?_
  rintro e w1 ⟨rfl, ew⟩
  obtain rfl := ew.symm
  rw [HIN.out]
  go_wp2
  go_ret
  exact ⟨(by rw [HR.out]; rfl), Below.refl _ _⟩
 rw [hu] at c0
 have HU := hide hu
 clear hu
 by_cases hp : bestP (bestOf id l) = (k : Int)
 ·have HR : Hid (roleOf id l (k : Int) = 1) := hide (by rw [HRO.out]; unfold roleAt; rw [if_neg (by rw [HU.out]; decide), if_pos hp])
  have HP := hide hp
  clear c1 c2 c3 c4 c5 c6 c7 hx hp
  go_enter Tryz.func50, Tryz.ntmps50
  go_wp2_with fail
  refine (implWithin_any (k : Int) 0 ((n : Int) - 1) _).mono ?_
  rintro e w1 ⟨rfl, ew⟩
  obtain rfl := ew.symm
  rw [HIN.out]
  go_wp2_with fail
  refine (implBestVec_any id (some ⟨b, off, none⟩) n c l _ h).mono ?_
  rintro e w2 ⟨rfl, hb2⟩
  rw [HP.out]
  have HB := hide (gr_trans hb2 (below_one _ (Obj.cells #[.int .i64 (bestV id (bestOf id l)).r, .int .i64 (bestV id (bestOf id l)).c, .int .i64 (bestV id (bestOf id l)).h, .int .i64 (bestV id (bestOf id l)).b, .int .i64 (bestV id (bestOf id l)).p] 35)))
  clear hb2 c0
  go_wp2
  go_ret
  exact ⟨(by rw [HR.out]; rfl), HB.out⟩
 go_enter Tryz.func50, Tryz.ntmps50
 go_wp2_with fail
 refine (implWithin_any (k : Int) 0 ((n : Int) - 1) _).mono ?_
 rintro e w1 ⟨rfl, ew⟩
 obtain rfl := ew.symm
 rw [HIN.out]
 go_wp2_with fail
 refine (implBestVec_any id (some ⟨b, off, none⟩) n c l _ h).mono ?_
 rintro e w2 ⟨rfl, hb2⟩
 generalize hw3 : w2.alloc (Obj.cells #[.int .i64 (bestV id (bestOf id l)).r, .int .i64 (bestV id (bestOf id l)).c, .int .i64 (bestV id (bestOf id l)).h, .int .i64 (bestV id (bestOf id l)).b, .int .i64 (bestV id (bestOf id l)).p] 35) = w3
 have HB : Hid (Below w.heap.size w w3) := hide (gr_trans hb2 (by rw [← hw3]; exact below_one _ _))
 clear hb2 c0 c1 c2 c3 c4 c5 c6 c7
 obtain ⟨x', b', off', hx', ha', c0, c1, c2, c3, c4, c5, c6, c7⟩ := pt_at (h.below HB.out) k hlt
 rw [hx] at hx'
 cases hx'
 cases ha'
 generalize hP : bestP (bestOf id l) = P at *
 have hPne : ((k : Int) == P) = false := by simp; exact fun e => hp e.symm
 have HX := hide hx
 have vv : Below w3.heap.size w3 w3.drew := gr_drew (Below.refl _ _)
 have HR0 : Hid (roleOf id l (k : Int) = (if (!x.has || lessV (sayV id l (k : Int)) x.v) = true then 2 else 3)) := hide (by rw [HRO.out]; unfold roleAt; rw [if_neg (by rw [HU.out]; decide), hP, if_neg hp])
 clear c0 c1 hx hP
 cases hh : x.has
 ·rw [hh] at c2
  have HR : Hid (roleOf id l (k : Int) = 2) := hide (by rw [HR0.out, hh]; rfl)
  have HSS : Hid (∀ W', Below w3.heap.size w3 W' → W'.cell? ⟨b, off + k * 8 + 2, none⟩ = some (.bool false) ∧ W'.cell? ⟨b, off + k * 8 + 3, none⟩ = some (.int .i64 x.v.r) ∧ W'.cell? ⟨b, off + k * 8 + 4, none⟩ = some (.int .i64 x.v.c) ∧ W'.cell? ⟨b, off + k * 8 + 5, none⟩ = some (.int .i64 x.v.h) ∧ W'.cell? ⟨b, off + k * 8 + 6, none⟩ = some (.int .i64 x.v.b) ∧ W'.cell? ⟨b, off + k * 8 + 7, none⟩ = some (.int .i64 x.v.p)) := hide (fun W' hb => ⟨(hb.cell (block_lt c2)).trans c2, (hb.cell (block_lt c3)).trans c3, (hb.cell (block_lt c4)).trans c4, (hb.cell (block_lt c5)).trans c5, (hb.cell (block_lt c6)).trans c6, (hb.cell (block_lt c7)).trans c7⟩)
  clear c2 c3 c4 c5 c6 c7 hh
  go_wp2_with fail
  refine wp_region_held_drew (S := (fun W => W.cell? ⟨b, off + k * 8 + 2, none⟩ = some (.bool false) ∧ W.cell? ⟨b, off + k * 8 + 3, none⟩ = some (.int .i64 x.v.r) ∧ W.cell? ⟨b, off + k * 8 + 4, none⟩ = some (.int .i64 x.v.c) ∧ W.cell? ⟨b, off + k * 8 + 5, none⟩ = some (.int .i64 x.v.h) ∧ W.cell? ⟨b, off + k * 8 + 6, none⟩ = some (.int .i64 x.v.b) ∧ W.cell? ⟨b, off + k * 8 + 7, none⟩ = some (.int .i64 x.v.p))) (by kernel_rfl) (HSS.out _ vv) (fun hHeld => ?_)
  refine kK 0 q238 ?_
  refine kK 1 q239 ?_
  refine kK 2 q240 ?_
  refine kK 3 q241 ?_
  refine kK 4 q242 ?_
  refine kK 5 q243 ?_
  refine kK 6 q244 ?_
  refine kN 7 q245 ?_
  refine kN 8 q246 ?_
  refine kN 9 q247 ?_
  refine kN 10 q248 ?_
  refine kN 11 q249 ?_
  refine kN 12 q250 ?_
  refine kN 13 q251 ?_
  refine kN 14 q252 ?_
  refine kN 15 q253 ?_
  refine kN 16 q254 ?_
  refine kK 17 q255 ?_
  refine wpAnyH_done (by kernel_rfl) ?_ _
  clear hHeld
  go_wp2
  go_ret
  exact ⟨(by rw [HR.out]; rfl), gr_trans HB.out vv⟩
 ·rw [hh] at c2
  have HSS : Hid (∀ W', Below w3.heap.size w3 W' → W'.cell? ⟨b, off + k * 8 + 2, none⟩ = some (.bool true) ∧ W'.cell? ⟨b, off + k * 8 + 3, none⟩ = some (.int .i64 x.v.r) ∧ W'.cell? ⟨b, off + k * 8 + 4, none⟩ = some (.int .i64 x.v.c) ∧ W'.cell? ⟨b, off + k * 8 + 5, none⟩ = some (.int .i64 x.v.h) ∧ W'.cell? ⟨b, off + k * 8 + 6, none⟩ = some (.int .i64 x.v.b) ∧ W'.cell? ⟨b, off + k * 8 + 7, none⟩ = some (.int .i64 x.v.p)) := hide (fun W' hb => ⟨(hb.cell (block_lt c2)).trans c2, (hb.cell (block_lt c3)).trans c3, (hb.cell (block_lt c4)).trans c4, (hb.cell (block_lt c5)).trans c5, (hb.cell (block_lt c6)).trans c6, (hb.cell (block_lt c7)).trans c7⟩)
  clear c2 c3 c4 c5 c6 c7
  cases hl : lessV (sayV id l (k : Int)) x.v
  ·have HR : Hid (roleOf id l (k : Int) = 3) := hide (by rw [HR0.out, hh, hl]; rfl)
   have HL : Hid (lessVc (sayV id l (k : Int)).r (sayV id l (k : Int)).c (sayV id l (k : Int)).b (sayV id l (k : Int)).p x.v.r x.v.c x.v.b x.v.p = false) := hide hl
   clear hh hl
   go_wp2_with fail
   refine wp_region_held_drew (S := (fun W => W.cell? ⟨b, off + k * 8 + 2, none⟩ = some (.bool true) ∧ W.cell? ⟨b, off + k * 8 + 3, none⟩ = some (.int .i64 x.v.r) ∧ W.cell? ⟨b, off + k * 8 + 4, none⟩ = some (.int .i64 x.v.c) ∧ W.cell? ⟨b, off + k * 8 + 5, none⟩ = some (.int .i64 x.v.h) ∧ W.cell? ⟨b, off + k * 8 + 6, none⟩ = some (.int .i64 x.v.b) ∧ W.cell? ⟨b, off + k * 8 + 7, none⟩ = some (.int .i64 x.v.p))) (by kernel_rfl) (HSS.out _ vv) (fun hHeld => ?_)
   refine kK 0 q238 ?_
   refine kK 1 q239 ?_
   refine kK 2 q240 ?_
   refine kK 3 q241 ?_
   refine kK 4 q242 ?_
   refine kK 5 q243 ?_
   refine kK 6 q244 ?_
   refine kK 7 q245 ?_
   refine kK 8 q246 ?_
   refine kK 9 q247 ?_
   refine kK 11 q249 ?_
   refine kK 12 q250 ?_
   refine kK 13 q251 ?_
   refine kK 14 q252 ?_
   refine kK 15 q253 ?_
   refine tR [10] ?_
   refine AllReadyH.cons (o := q248) rfl (fun K hK => ?_) ?_
   ·go_simp
    refine (implSayVec_any id (some ⟨b, off, none⟩) n c l (k : Int) _ (h.below (gr_trans HB.out vv))).mono ?_
    rintro e wx ⟨rfl, hbx⟩
    have vv := gr_trans vv hbx
    clear hbx
    go_wp2_with fail
    refine hK.out _ _ (HSS.out _ vv) (fun hHeld => ?_)
    clear hK K
    try simp only [Act.put, lA, lB, lC]
    refine tR [16] ?_
    refine AllReadyH.cons (o := q254) rfl (fun K hK => ?_) ?_
    ·go_simp
     refine (implLessVec_any (sayV id l (k : Int)).r (sayV id l (k : Int)).c (sayV id l (k : Int)).h (sayV id l (k : Int)).b (sayV id l (k : Int)).p x.v.r x.v.c x.v.h x.v.b x.v.p _).mono ?_
     rintro e wx ⟨rfl, hbx⟩
     rw [HL.out]
     have vv := gr_trans vv hbx
     clear hbx
     go_wp2_with fail
     refine hK.out _ _ (HSS.out _ vv) (fun hHeld => ?_)
     clear hK K
     try simp only [Act.put, lA, lB, lC]
     refine kK 17 q255 ?_
     refine wpAnyH_done (by kernel_rfl) ?_ _
     clear hHeld
     go_wp2
     go_ret
     exact ⟨(by rw [HR.out]; rfl), gr_trans HB.out vv⟩
    exact AllReadyH.nil
   exact AllReadyH.nil
  ·have HR : Hid (roleOf id l (k : Int) = 2) := hide (by rw [HR0.out, hh, hl]; rfl)
   have HL : Hid (lessVc (sayV id l (k : Int)).r (sayV id l (k : Int)).c (sayV id l (k : Int)).b (sayV id l (k : Int)).p x.v.r x.v.c x.v.b x.v.p = true) := hide hl
   clear hh hl
   go_wp2_with fail
   refine wp_region_held_drew (S := (fun W => W.cell? ⟨b, off + k * 8 + 2, none⟩ = some (.bool true) ∧ W.cell? ⟨b, off + k * 8 + 3, none⟩ = some (.int .i64 x.v.r) ∧ W.cell? ⟨b, off + k * 8 + 4, none⟩ = some (.int .i64 x.v.c) ∧ W.cell? ⟨b, off + k * 8 + 5, none⟩ = some (.int .i64 x.v.h) ∧ W.cell? ⟨b, off + k * 8 + 6, none⟩ = some (.int .i64 x.v.b) ∧ W.cell? ⟨b, off + k * 8 + 7, none⟩ = some (.int .i64 x.v.p))) (by kernel_rfl) (HSS.out _ vv) (fun hHeld => ?_)
   refine kK 0 q238 ?_
   refine kK 1 q239 ?_
   refine kK 2 q240 ?_
   refine kK 3 q241 ?_
   refine kK 4 q242 ?_
   refine kK 5 q243 ?_
   refine kK 6 q244 ?_
   refine kK 7 q245 ?_
   refine kK 8 q246 ?_
   refine kK 9 q247 ?_
   refine kK 11 q249 ?_
   refine kK 12 q250 ?_
   refine kK 13 q251 ?_
   refine kK 14 q252 ?_
   refine kK 15 q253 ?_
   refine tR [10] ?_
   refine AllReadyH.cons (o := q248) rfl (fun K hK => ?_) ?_
   ·go_simp
    refine (implSayVec_any id (some ⟨b, off, none⟩) n c l (k : Int) _ (h.below (gr_trans HB.out vv))).mono ?_
    rintro e wx ⟨rfl, hbx⟩
    have vv := gr_trans vv hbx
    clear hbx
    go_wp2_with fail
    refine hK.out _ _ (HSS.out _ vv) (fun hHeld => ?_)
    clear hK K
    try simp only [Act.put, lA, lB, lC]
    refine tR [16] ?_
    refine AllReadyH.cons (o := q254) rfl (fun K hK => ?_) ?_
    ·go_simp
     refine (implLessVec_any (sayV id l (k : Int)).r (sayV id l (k : Int)).c (sayV id l (k : Int)).h (sayV id l (k : Int)).b (sayV id l (k : Int)).p x.v.r x.v.c x.v.h x.v.b x.v.p _).mono ?_
     rintro e wx ⟨rfl, hbx⟩
     rw [HL.out]
     have vv := gr_trans vv hbx
     clear hbx
     go_wp2_with fail
     refine hK.out _ _ (HSS.out _ vv) (fun hHeld => ?_)
     clear hK K
     try simp only [Act.put, lA, lB, lC]
     refine kK 17 q255 ?_
     refine wpAnyH_done (by kernel_rfl) ?_ _
     clear hHeld
     go_wp2
     go_ret
     exact ⟨(by rw [HR.out]; rfl), gr_trans HB.out vv⟩
    exact AllReadyH.nil
   exact AllReadyH.nil

set_option maxRecDepth 100000 in
set_option maxHeartbeats 2000000 in
theorem implSends_any (id : Int) (a : Option Addr) (n c : Nat) (l : List PT) (w : World) (h : GRow ptF w a n c l) :
  Calls Tryz.prog 14 #[.int .i64 id, .slice a n c] w fun e w' => e = .returned (.int .i64 (sendsOf id l)) ∧ Below w.heap.size w w' := by
 have hle := h.le
 have htop := h.top
 unfold maxLen at htop
 have hsz := hide h.size
 go_enter Tryz.func14, Tryz.ntmps14
 go_wp2_with fail
 go_loopw [5, 10] (fun s i wr => ∃ k : Nat, k ≤ min n 6 ∧ i = .int .i64 k ∧ s = .int .i64 (sendsTo id l k) ∧ Below w.heap.size w wr) (fun _ i _ => 6 - (intOf i).toNat)
 case atStart => exact ⟨0, Nat.zero_le _, rfl, rfl, Below.refl _ _⟩
 case round =>
  obtain ⟨k, hk, rfl, rfl, hb⟩ := hrel
  have hk6 : k ≤ 6 := by omega
  generalize hS : sendsTo id l k = S
  have HS := hide hS
  clear hS
  by_cases hlt : k < min n 6
  ·have hkn : k < n := by omega
   have hk5 : k < 6 := by omega
   have i1 : (0 : Int) ≤ (k : Int) := by omega
   have i2 : (k : Int) < (n : Int) := by omega
   have i3 : (k : Int) < 6 := by omega
   have hmin : (if (n : Int) ≤ 6 then (n : Int) else 6) = ((min n 6 : Nat) : Int) := by split <;> omega
   have i4 : (k : Int) < ((min n 6 : Nat) : Int) := by omega
   have HB := hide hb
   clear hk hb
   go_wp2_with fail
   refine (implRole_any id a n c l (k : Int) _ (h.below HB.out)).mono ?_
   rintro e w2 ⟨rfl, hb2⟩
   have HB2 := hide (gr_trans HB.out hb2)
   have h14 := role_one (id := id) (l := l) (k : Int)
   clear hb2
   generalize hR : roleOf id l (k : Int) = R at *
   have HR := hide hR
   clear hR
   by_cases hr : R ≤ 2
   ·have HN : Hid (sendsTo id l (k + 1) = bits .or .i64 S (2 ^ k)) := hide (by rw [sendsTo, HR.out, if_pos hr, HS.out])
    have hw2 : wrap64 (2 ^ k) = 2 ^ k := by
     rcases (show k = 0 ∨ k = 1 ∨ k = 2 ∨ k = 3 ∨ k = 4 ∨ k = 5 by omega) with rfl | rfl | rfl | rfl | rfl | rfl <;> exact Go.IntWalk.wrap64_in _ (by decide)
    have HW2 := hide hw2
    clear hw2
    obtain rfl | rfl : R = 1 ∨ R = 2 := by omega
    ·go_wp2
     rw [HW2.out]
     go_roundw
     case rel => exact ⟨k + 1, by omega, by go_num, by rw [HN.out], HB2.out⟩
     case measure => simp [intOf]; omega
    ·go_wp2
     rw [HW2.out]
     go_roundw
     case rel => exact ⟨k + 1, by omega, by go_num, by rw [HN.out], HB2.out⟩
     case measure => simp [intOf]; omega
   ·have HN : Hid (sendsTo id l (k + 1) = S) := hide (by rw [sendsTo, HR.out, if_neg hr, HS.out])
    have hne1 : ¬ R = 1 := by omega
    have hne2 : ¬ R = 2 := by omega
    go_wp2
    go_roundw
    case rel => exact ⟨k + 1, by omega, by go_num, by rw [HN.out], HB2.out⟩
    case measure => simp [intOf]; omega
  ·have hkn : k = min n 6 := by omega
   have HK : Hid (sendsOf id l = S) := hide (by unfold sendsOf; rw [hsz.out, ← hkn]; exact HS.out)
   have hend : ¬ ((k : Int) < (n : Int) ∧ (k : Int) < 6) := by omega
   go_wp2
   all_goals go_ret
   all_goals exact ⟨(by rw [HK.out]; rfl), hb⟩

theorem cell1 {w : World} {g : Nat} {T : TypeId} {v : Value} (h : w.heap[g]? = some (.cells #[v] T)) : w.cell? ⟨g, 0, none⟩ = some v := by simp [World.cell?, h]

theorem number_of (v : Value) (w : World) : (method 284 81 v "loop.example/g00326/impl.number").run Tryz.prog w = .ok (159, v) w := by kernel_rfl

set_option maxRecDepth 100000 in
set_option maxHeartbeats 400000 in
theorem implNumber_any (r : VR) (w : World) : Calls Tryz.prog 159 #[.agg #[.int .i64 r.i, .int .i64 r.m, .int .i64 r.b]] w fun e w' => e = .returned (.int .i64 r.i) ∧ Below w.heap.size w w' := by
 go_enter Tryz.func159, Tryz.ntmps159
 go_wp2
 go_ret
 exact ⟨rfl, below_one _ _⟩

set_option maxRecDepth 100000 in
set_option maxHeartbeats 400000 in
theorem implRowsOf_any (a : Option Addr) (n c : Nat) (o : Option Addr) (p q : Nat) (w : World) : Calls Tryz.prog 99 #[.agg #[.slice a n c, .slice o p q]] w fun e w' => e = .returned (.slice a n c) ∧ Below w.heap.size w w' := by
 go_enter Tryz.func99, Tryz.ntmps99
 go_wp2
 go_ret
 exact ⟨rfl, below_one _ _⟩

set_option maxRecDepth 100000 in
set_option maxHeartbeats 2000000 in
theorem implPlace1_any (r : VR) (id : Int) (g : Nat) (w : World) (c : w.heap[g]? = some (.cells #[.int .i64 id] 3)) :
  Calls Tryz.prog 139 #[.agg #[.int .i64 r.i, .int .i64 r.m, .int .i64 r.b], .pointer (some ⟨g, 0, none⟩)] w fun e w' => e = .returned (.bool (r.i == id)) ∧ Below w.heap.size w w' := by
 have hm := number_of
 generalize hw1 : w.alloc (Obj.cells #[.int .i64 r.i, .int .i64 r.m, .int .i64 r.b] 81) = w1
 have q : Below w.heap.size w w1 := by subst hw1; exact below_one _ _
 have k0 : w1.heap[w.heap.size]? = some (.cells #[.int .i64 r.i, .int .i64 r.m, .int .i64 r.b] 81) := by rw [← hw1]; exact block_last _ _
 have HS : Hid (∀ W, Below w1.heap.size w1 W → (W.cell? ⟨w.heap.size, 0, none⟩ = some (.int .i64 r.i) ∧ W.cell? ⟨w.heap.size, 1, none⟩ = some (.int .i64 r.m) ∧ W.cell? ⟨w.heap.size, 2, none⟩ = some (.int .i64 r.b)) ∧ W.cell? ⟨g, 0, none⟩ = some (.int .i64 id)) := hide (fun W hW => ⟨(cells3 (kept_block k0 hW)).1, cell1 (kept_block (kept_block c q) hW)⟩)
 clear k0
 have vv : Below w1.heap.size w1 w1.drew := gr_drew (Below.refl _ _)
 go_enter Tryz.func139, Tryz.ntmps139
 go_wp2_with fail
 refine wp_region_held_drew (S := (fun W => (W.cell? ⟨w.heap.size, 0, none⟩ = some (.int .i64 r.i) ∧ W.cell? ⟨w.heap.size, 1, none⟩ = some (.int .i64 r.m) ∧ W.cell? ⟨w.heap.size, 2, none⟩ = some (.int .i64 r.b)) ∧ W.cell? ⟨g, 0, none⟩ = some (.int .i64 id))) (by kernel_rfl) (HS.out _ vv) (fun hHeld => ?_)
 refine kK 0 ⟨some 4, .load 81 (.tmp 2), 81, "l09_vlan.go:152", #[], none⟩ ?_
 refine kK 1 ⟨some 5, .makeInterface 81 (.tmp 4), 20, "l09_vlan.go:152", #[⟨0, .data⟩], none⟩ ?_
 refine kK 3 ⟨some 7, .load 3 (.tmp 1), 3, "l09_vlan.go:152", #[], none⟩ ?_
 refine tR [2] ?_
 refine AllReadyH.cons (o := ⟨some 6, .call ⟨.invoke (.tmp 5) "loop.example/g00326/impl.number", #[], #[]⟩, 3, "l09_vlan.go:152", #[⟨1, .data⟩], none⟩) rfl (fun K hK => ?_) ?_
 ·go_simp
  refine (implNumber_any r _).mono ?_
  rintro e wz ⟨rfl, hbz⟩
  have vv := gr_trans vv hbz
  go_wp2_with fail
  refine hK.out _ _ (HS.out _ vv) (fun hHeld => ?_)
  clear hK K
  try simp only [Act.put, lA, lB, lC]
  refine kK 4 ⟨some 8, .binOp .eql 3 (.tmp 6) (.tmp 7) 3, 4, "l09_vlan.go:152", #[⟨2, .data⟩, ⟨3, .data⟩], none⟩ ?_
  refine kK 5 ⟨some 3, .assign (.tmp 8), 4, "l09_vlan.go:152", #[⟨4, .data⟩, ⟨2, .chain⟩, ⟨0, .phase⟩, ⟨1, .phase⟩, ⟨2, .phase⟩, ⟨3, .phase⟩, ⟨4, .phase⟩], none⟩ ?_
  refine wpAnyH_done (by kernel_rfl) ?_ _
  have HB := hide (gr_trans q vv)
  clear HS vv q
  go_wp2
  go_ret
  exact ⟨rfl, HB.out⟩
 exact AllReadyH.nil

set_option maxRecDepth 100000 in
set_option maxHeartbeats 2000000 in
theorem rowIndex_any (a : Option Addr) (n c : Nat) (l : List VR) (id : Int) (g : Nat) (w : World) (h : GRow vrowF w a n c l) (cg : w.heap[g]? = some (.cells #[.int .i64 id] 3)) :
  Calls Tryz.prog 138 #[.slice a n c, .func (.func 139) #[] #[.pointer (some ⟨g, 0, none⟩)]] w fun r w' => r = .returned (.int .i64 (rowAt l id)) ∧ Below w.heap.size w w' := by
 have hle := h.le
 have htop := h.top
 unfold maxLen at htop
 have hsz := h.size
 go_enter Tryz.func138, Tryz.ntmps138
 go_wp2
 go_loopw [8] (fun i wr => ∃ k : Nat, k ≤ n ∧ i = .int .i64 k ∧ (∀ (j : Nat) (y : VR), j < k → l[j]? = some y → (y.i == id) = false) ∧ Below w.heap.size w wr) (fun i _ => n - (intOf i).toNat)
 case atStart => exact ⟨0, Nat.zero_le _, rfl, fun j y hj => by omega, Below.refl _ _⟩
 case round =>
  obtain ⟨k, hk, rfl, hno, hb⟩ := hrel
  by_cases hlt : k < n
  ·obtain ⟨x, b, off, hx, rfl, c0, c1, c2⟩ := vrow_at (h.below hb) k hlt
   cases t1 : (x.i == id)
   ·have HO := hide (vno_next hno hx t1)
    have HA := hide t1
    have HB := hide hb
    clear t1 hno hb hx
    go_wp2_with fail
    refine (implPlace1_any x id g _ (kept_block cg HB.out)).mono ?_
    rintro r w1 ⟨rfl, hb1⟩
    rw [HA.out]
    have HB1 := hide (gr_trans HB.out hb1)
    clear hb1 c0 c1 c2
    go_wp2
    go_roundw
    case rel => exact ⟨k + 1, by omega, by go_num, HO.out, HB1.out⟩
    case measure => simp [intOf]; omega
   ·have HF := hide (rowAt_found hno hx t1)
    have HA := hide t1
    have HB := hide hb
    clear t1 hno hb hx
    go_wp2_with fail
    refine (implPlace1_any x id g _ (kept_block cg HB.out)).mono ?_
    rintro r w1 ⟨rfl, hb1⟩
    rw [HA.out]
    have HB1 := hide (gr_trans HB.out hb1)
    clear hb1 c0 c1 c2
    go_wp2
    go_ret
    exact ⟨(by rw [HF.out]; rfl), HB1.out⟩
  ·have hkn : k = n := by omega
   have HF := hide (rowAt_none (l := l) (id := id) (fun i y hy => hno i y (by have := (List.getElem?_eq_some_iff.1 hy).1; omega) hy))
   have HB := hide hb
   clear hno hb
   subst hkn
   go_wp2
   go_ret
   exact ⟨(by rw [HF.out]; rfl), HB.out⟩

set_option maxRecDepth 100000 in
set_option maxHeartbeats 1000000 in
theorem implPlace_any (a : Option Addr) (n c : Nat) (l : List VR) (id : Int) (w : World) (h : GRow vrowF w a n c l) :
  Calls Tryz.prog 131 #[.slice a n c, .int .i64 id] w fun r w' => r = .returned (.int .i64 (rowAt l id)) ∧ Below w.heap.size w w' := by
 have hmf : ∀ (fn : Fn) (first cap : Array Value) (w : World), (Instr.makeFunc fn first cap).run Tryz.prog w = .ok (.func fn first cap) w := fun _ _ _ _ => rfl
 have q := below_one w (.cells #[.int .i64 id] 3)
 go_enter Tryz.func131, Tryz.ntmps131
 go_wp2_with fail
 refine (rowIndex_any a n c l id _ _ (h.below q) (block_last w _)).mono ?_
 rintro r w1 ⟨rfl, hb1⟩
 have HB := hide (gr_trans q hb1)
 clear hb1 q
 go_wp2
 go_ret
 exact ⟨rfl, HB.out⟩

set_option maxRecDepth 100000 in
set_option maxHeartbeats 1000000 in
theorem implRowAt_any (a : Option Addr) (n c : Nat) (l : List VR) (o : Option Addr) (p q : Nat) (id : Int) (w : World) (h : GRow vrowF w a n c l) :
  Calls Tryz.prog 102 #[.agg #[.slice a n c, .slice o p q], .int .i64 id] w fun r w' => r = .returned (.int .i64 (rowAt l id)) ∧ Below w.heap.size w w' := by
 have q0 := below_one w (.cells #[.slice a n c, .slice o p q] 29)
 go_enter Tryz.func102, Tryz.ntmps102
 go_wp2_with fail
 refine (implRowsOf_any a n c o p q _).mono ?_
 rintro r w1 ⟨rfl, hb1⟩
 have q1 := gr_trans q0 hb1
 clear hb1
 go_wp2_with fail
 refine (implPlace_any a n c l id _ (h.below q1)).mono ?_
 rintro r w2 ⟨rfl, hb2⟩
 have HB := hide (gr_trans q1 hb2)
 clear hb2 q1 q0
 go_wp2
 go_ret
 exact ⟨rfl, HB.out⟩

abbrev q290 : Oper := ⟨some 34, .move (.tmp 1), 24, "l10_role.go:47", #[], none⟩
abbrev q291 : Oper := ⟨some 35, .move (.tmp 2), 3, "l10_role.go:47", #[], none⟩
abbrev q292 : Oper := ⟨some 36, .indexAddr 24 (.tmp 34) (.tmp 35), 0, "l10_role.go:47", #[⟨0, .data⟩, ⟨1, .data⟩], none⟩
abbrev q293 : Oper := ⟨some 37, .fieldAddr 44 (.tmp 36) 2, 0, "l10_role.go:47", #[⟨2, .data⟩], none⟩
abbrev q294 : Oper := ⟨some 38, .load 4 (.tmp 37), 4, "l10_role.go:47", #[⟨3, .data⟩], none⟩
abbrev q295 : Oper := ⟨some 39, .unOp .not 4 (.tmp 38), 4, "l10_role.go:47", #[⟨4, .data⟩], none⟩
abbrev q296 : Oper := ⟨some 40, .move (.tmp 39), 4, "l10_role.go:47", #[⟨5, .data⟩], none⟩
abbrev q297 : Oper := ⟨some 41, .move (.tmp 0), 3, "l10_role.go:47", #[⟨6, .guard⟩], some (6, false)⟩
abbrev q298 : Oper := ⟨some 42, .move (.tmp 1), 24, "l10_role.go:47", #[⟨6, .guard⟩], some (6, false)⟩
abbrev q299 : Oper := ⟨some 43, .move (.tmp 2), 3, "l10_role.go:47", #[⟨6, .guard⟩], some (6, false)⟩
abbrev q300 : Oper := ⟨some 44, .call ⟨.value (.func 142), #[.tmp 41, .tmp 42, .tmp 43], #[3, 24, 3]⟩, 35, "l10_role.go:47", #[⟨7, .data⟩, ⟨8, .data⟩, ⟨9, .data⟩, ⟨6, .chain⟩, ⟨6, .guard⟩], some (6, false)⟩
abbrev q301 : Oper := ⟨some 45, .move (.tmp 1), 24, "l10_role.go:47", #[⟨6, .guard⟩], some (6, false)⟩
abbrev q302 : Oper := ⟨some 46, .move (.tmp 2), 3, "l10_role.go:47", #[⟨6, .guard⟩], some (6, false)⟩
abbrev q303 : Oper := ⟨some 47, .indexAddr 24 (.tmp 45) (.tmp 46), 0, "l10_role.go:47", #[⟨11, .data⟩, ⟨12, .data⟩, ⟨6, .guard⟩], some (6, false)⟩
abbrev q304 : Oper := ⟨some 48, .fieldAddr 44 (.tmp 47) 3, 0, "l10_role.go:47", #[⟨13, .data⟩, ⟨6, .guard⟩], some (6, false)⟩
abbrev q305 : Oper := ⟨some 49, .load 35 (.tmp 48), 35, "l10_role.go:47", #[⟨14, .data⟩, ⟨6, .guard⟩], some (6, false)⟩
abbrev q306 : Oper := ⟨some 50, .call ⟨.value (.func 141), #[.tmp 44, .tmp 49], #[35, 35]⟩, 4, "l10_role.go:47", #[⟨10, .data⟩, ⟨15, .data⟩, ⟨10, .chain⟩, ⟨6, .guard⟩], some (6, false)⟩
abbrev q307 : Oper := ⟨some 51, .pick (.tmp 40) (.const (.bool true)) (.tmp 50), 4, "l10_role.go:47", #[⟨6, .data⟩, ⟨16, .data⟩], none⟩
abbrev q308 : Oper := ⟨some 33, .assign (.tmp 51), 4, "l10_role.go:47", #[⟨17, .data⟩, ⟨16, .chain⟩], none⟩

set_option maxRecDepth 100000 in
set_option maxHeartbeats 2000000 in
theorem specSayVec_any (id : Int) (a : Option Addr) (n c : Nat) (l : List PT) (port : Int) (w : World) (h : GRow ptF w a n c l) :
  Calls Tryz.prog 142 #[.int .i64 id, .slice a n c, .int .i64 port] w fun e w' => e = .returned (.agg #[.int .i64 (sayV id l port).r, .int .i64 (sayV id l port).c, .int .i64 (sayV id l port).h, .int .i64 (sayV id l port).b, .int .i64 (sayV id l port).p]) ∧ Below w.heap.size w w' := by
 generalize hw1 : w.alloc (Obj.cells #[.int .i64 0, .int .i64 0, .int .i64 0, .int .i64 0, .int .i64 0] 35) = w1
 have q1 : Below w.heap.size w w1 := by rw [← hw1]; exact below_one _ _
 have k1 : w1.heap[w.heap.size]? = some (.cells #[.int .i64 0, .int .i64 0, .int .i64 0, .int .i64 0, .int .i64 0] 35) := by rw [← hw1]; exact block_last _ _
 have hsb : (sayV id l port) = ⟨(bestV id (bestOf id l)).r, (bestV id (bestOf id l)).c, (bestV id (bestOf id l)).h, (bestV id (bestOf id l)).b, port⟩ := by
  unfold sayV
  cases bestOf id l <;> rfl
 rw [hsb]
 clear hsb
 go_enter Tryz.func142, Tryz.ntmps142
 go_wp2_with fail
 refine (specBestVec_any id a n c l _ (h.below q1)).mono ?_
 rintro e w2 ⟨rfl, hb2⟩
 generalize hv : bestV id (bestOf id l) = v
 have HV := hide hv
 clear hv
 generalize hw3 : w2.alloc (Obj.cells #[.int .i64 v.r, .int .i64 v.c, .int .i64 v.h, .int .i64 v.b, .int .i64 v.p] 35) = w3
 have hb3 : Below w2.heap.size w2 w3 := by rw [← hw3]; exact below_one _ _
 have k3 : w3.heap[w2.heap.size]? = some (.cells #[.int .i64 v.r, .int .i64 v.c, .int .i64 v.h, .int .i64 v.b, .int .i64 v.p] 35) := by rw [← hw3]; exact block_last _ _
 have k1 := kept_block (kept_block k1 hb2) hb3
 have lt1 := (Array.getElem?_eq_some_iff.1 (kept_block (by rw [← hw1]; exact block_last _ _ : w1.heap[w.heap.size]? = some (.cells #[.int .i64 0, .int .i64 0, .int .i64 0, .int .i64 0, .int .i64 0] 35)) hb2)).1
 have ne1 : ¬ w2.heap.size = w.heap.size := by omega
 have ne2 : ¬ w.heap.size = w2.heap.size := by omega
 have HB := hide (below_set5 (below_set (gr_trans (gr_trans q1 hb2) hb3) (g := w2.heap.size) (by omega) 4 (.int .i64 port)) (Nat.le_refl w.heap.size) (.int .i64 v.r) (.int .i64 v.c) (.int .i64 v.h) (.int .i64 v.b) (.int .i64 port))
 obtain ⟨⟨x0, x1, x2, x3, x4⟩, y0, y1, y2, y3, y4⟩ := cells5 k3
 obtain ⟨⟨r0, r1, r2, r3, r4⟩, z0, z1, z2, z3, z4⟩ := cells5 k1
 clear hb2 hb3 k1 k3 q1 lt1
 go_wp2
 exact bodyPost_ret (v := .agg #[.int .i64 v.r, .int .i64 v.c, .int .i64 v.h, .int .i64 v.b, .int .i64 port]) (by simp [results, Tryz.results142, go_sem, *]) rfl ⟨(by rw [HV.out]), HB.out⟩

set_option maxRecDepth 100000 in
set_option maxHeartbeats 4000000 in
theorem specRole_any (id : Int) (a : Option Addr) (n c : Nat) (l : List PT) (port : Int) (w : World) (h : GRow ptF w a n c l) :
  Calls Tryz.prog 134 #[.int .i64 id, .slice a n c, .int .i64 port] w fun e w' => e = .returned (.int .i64 (roleOf id l port)) ∧ Below w.heap.size w w' := by
 have hle := h.le
 have htop := h.top
 unfold maxLen at htop
 have hsz := hide h.size
 cases hin : (decide (0 ≤ port) && decide (port ≤ (n : Int) - 1))
 ·have HIN := hide hin
  have HR : Hid (roleOf id l port = 4) := hide (by unfold roleOf; rw [hsz.out, hin]; rfl)
  clear hin
  go_enter Tryz.func134, Tryz.ntmps134
  go_wp2_with fail
  refine (within_any port 0 ((n : Int) - 1) _).mono ?_
  rintro e w1 ⟨rfl, ew⟩
  obtain rfl := ew.symm
  rw [HIN.out]
  go_wp2
  go_ret
  exact ⟨(by rw [HR.out]; rfl), Below.refl _ _⟩
 obtain ⟨k, rfl⟩ : ∃ k : Nat, port = (k : Int) := ⟨port.toNat, by simp at hin; omega⟩
 have hlt : k < n := by simp at hin; omega
 have HIN := hide hin
 have i1 : (0 : Int) ≤ (k : Int) := by omega
 have i2 : (k : Int) < (n : Int) := by omega
 obtain ⟨x, b, off, hx, rfl, c0, c1, c2, c3, c4, c5, c6, c7⟩ := pt_at h k hlt
 have hro : roleOf id l (k : Int) = roleAt id l k x := by
  unfold roleOf
  rw [hsz.out, hin]
  simp [hx]
 have HRO := hide hro
 clear hin hro
 cases hu : x.up
 ·rw [hu] at c0
  have HR : Hid (roleOf id l (k : Int) = 4) := hide (by rw [HRO.out]; unfold roleAt; rw [if_pos hu])
  clear hu c1 c2 c3 c4 c5 c6 c7 hx
  go_enter Tryz.func134, Tryz.ntmps134
  go_wp2_with fail
  refine (within_any (k : Int) 0 ((n : Int) - 1) _).mono ?_
  rintro e w1 ⟨rfl, ew⟩
  obtain rfl := ew.symm
  rw [HIN.out]
  go_wp2
  go_ret
  exact ⟨(by rw [HR.out]; rfl), Below.refl _ _⟩
 rw [hu] at c0
 have HU := hide hu
 clear hu
 by_cases hp : bestP (bestOf id l) = (k : Int)
 ·have HR : Hid (roleOf id l (k : Int) = 1) := hide (by rw [HRO.out]; unfold roleAt; rw [if_neg (by rw [HU.out]; decide), if_pos hp])
  have HP := hide hp
  clear c1 c2 c3 c4 c5 c6 c7 hx hp
  go_enter Tryz.func134, Tryz.ntmps134
  go_wp2_with fail
  refine (within_any (k : Int) 0 ((n : Int) - 1) _).mono ?_
  rintro e w1 ⟨rfl, ew⟩
  obtain rfl := ew.symm
  rw [HIN.out]
  go_wp2_with fail
  refine (specBestVec_any id (some ⟨b, off, none⟩) n c l _ h).mono ?_
  rintro e w2 ⟨rfl, hb2⟩
  rw [HP.out]
  have HB := hide (gr_trans hb2 (below_one _ (Obj.cells #[.int .i64 (bestV id (bestOf id l)).r, .int .i64 (bestV id (bestOf id l)).c, .int .i64 (bestV id (bestOf id l)).h, .int .i64 (bestV id (bestOf id l)).b, .int .i64 (bestV id (bestOf id l)).p] 35)))
  clear hb2 c0
  go_wp2
  go_ret
  exact ⟨(by rw [HR.out]; rfl), HB.out⟩
 go_enter Tryz.func134, Tryz.ntmps134
 go_wp2_with fail
 refine (within_any (k : Int) 0 ((n : Int) - 1) _).mono ?_
 rintro e w1 ⟨rfl, ew⟩
 obtain rfl := ew.symm
 rw [HIN.out]
 go_wp2_with fail
 refine (specBestVec_any id (some ⟨b, off, none⟩) n c l _ h).mono ?_
 rintro e w2 ⟨rfl, hb2⟩
 generalize hw3 : w2.alloc (Obj.cells #[.int .i64 (bestV id (bestOf id l)).r, .int .i64 (bestV id (bestOf id l)).c, .int .i64 (bestV id (bestOf id l)).h, .int .i64 (bestV id (bestOf id l)).b, .int .i64 (bestV id (bestOf id l)).p] 35) = w3
 have HB : Hid (Below w.heap.size w w3) := hide (gr_trans hb2 (by rw [← hw3]; exact below_one _ _))
 clear hb2 c0 c1 c2 c3 c4 c5 c6 c7
 obtain ⟨x', b', off', hx', ha', c0, c1, c2, c3, c4, c5, c6, c7⟩ := pt_at (h.below HB.out) k hlt
 rw [hx] at hx'
 cases hx'
 cases ha'
 generalize hP : bestP (bestOf id l) = P at *
 have hPne : (P == (k : Int)) = false := by simp [hp]
 have HX := hide hx
 have vv : Below w3.heap.size w3 w3.drew := gr_drew (Below.refl _ _)
 have HR0 : Hid (roleOf id l (k : Int) = (if (!x.has || lessV (sayV id l (k : Int)) x.v) = true then 2 else 3)) := hide (by rw [HRO.out]; unfold roleAt; rw [if_neg (by rw [HU.out]; decide), hP, if_neg hp])
 clear c0 c1 hx hP
 cases hh : x.has
 ·rw [hh] at c2
  have HR : Hid (roleOf id l (k : Int) = 2) := hide (by rw [HR0.out, hh]; rfl)
  have HSS : Hid (∀ W', Below w3.heap.size w3 W' → W'.cell? ⟨b, off + k * 8 + 2, none⟩ = some (.bool false) ∧ W'.cell? ⟨b, off + k * 8 + 3, none⟩ = some (.int .i64 x.v.r) ∧ W'.cell? ⟨b, off + k * 8 + 4, none⟩ = some (.int .i64 x.v.c) ∧ W'.cell? ⟨b, off + k * 8 + 5, none⟩ = some (.int .i64 x.v.h) ∧ W'.cell? ⟨b, off + k * 8 + 6, none⟩ = some (.int .i64 x.v.b) ∧ W'.cell? ⟨b, off + k * 8 + 7, none⟩ = some (.int .i64 x.v.p)) := hide (fun W' hb => ⟨(hb.cell (block_lt c2)).trans c2, (hb.cell (block_lt c3)).trans c3, (hb.cell (block_lt c4)).trans c4, (hb.cell (block_lt c5)).trans c5, (hb.cell (block_lt c6)).trans c6, (hb.cell (block_lt c7)).trans c7⟩)
  clear c2 c3 c4 c5 c6 c7 hh
  go_wp2_with fail
  refine wp_region_held_drew (S := (fun W => W.cell? ⟨b, off + k * 8 + 2, none⟩ = some (.bool false) ∧ W.cell? ⟨b, off + k * 8 + 3, none⟩ = some (.int .i64 x.v.r) ∧ W.cell? ⟨b, off + k * 8 + 4, none⟩ = some (.int .i64 x.v.c) ∧ W.cell? ⟨b, off + k * 8 + 5, none⟩ = some (.int .i64 x.v.h) ∧ W.cell? ⟨b, off + k * 8 + 6, none⟩ = some (.int .i64 x.v.b) ∧ W.cell? ⟨b, off + k * 8 + 7, none⟩ = some (.int .i64 x.v.p))) (by kernel_rfl) (HSS.out _ vv) (fun hHeld => ?_)
  refine kK 0 q290 ?_
  refine kK 1 q291 ?_
  refine kK 2 q292 ?_
  refine kK 3 q293 ?_
  refine kK 4 q294 ?_
  refine kK 5 q295 ?_
  refine kK 6 q296 ?_
  refine kN 7 q297 ?_
  refine kN 8 q298 ?_
  refine kN 9 q299 ?_
  refine kN 10 q300 ?_
  refine kN 11 q301 ?_
  refine kN 12 q302 ?_
  refine kN 13 q303 ?_
  refine kN 14 q304 ?_
  refine kN 15 q305 ?_
  refine kN 16 q306 ?_
  refine kK 17 q307 ?_
  refine kK 18 q308 ?_
  refine wpAnyH_done (by kernel_rfl) ?_ _
  clear hHeld
  go_wp2
  go_ret
  exact ⟨(by rw [HR.out]; rfl), gr_trans HB.out vv⟩
 ·rw [hh] at c2
  have HSS : Hid (∀ W', Below w3.heap.size w3 W' → W'.cell? ⟨b, off + k * 8 + 2, none⟩ = some (.bool true) ∧ W'.cell? ⟨b, off + k * 8 + 3, none⟩ = some (.int .i64 x.v.r) ∧ W'.cell? ⟨b, off + k * 8 + 4, none⟩ = some (.int .i64 x.v.c) ∧ W'.cell? ⟨b, off + k * 8 + 5, none⟩ = some (.int .i64 x.v.h) ∧ W'.cell? ⟨b, off + k * 8 + 6, none⟩ = some (.int .i64 x.v.b) ∧ W'.cell? ⟨b, off + k * 8 + 7, none⟩ = some (.int .i64 x.v.p)) := hide (fun W' hb => ⟨(hb.cell (block_lt c2)).trans c2, (hb.cell (block_lt c3)).trans c3, (hb.cell (block_lt c4)).trans c4, (hb.cell (block_lt c5)).trans c5, (hb.cell (block_lt c6)).trans c6, (hb.cell (block_lt c7)).trans c7⟩)
  clear c2 c3 c4 c5 c6 c7
  cases hl : lessV (sayV id l (k : Int)) x.v
  ·have HR : Hid (roleOf id l (k : Int) = 3) := hide (by rw [HR0.out, hh, hl]; rfl)
   have HL : Hid (lessVc (sayV id l (k : Int)).r (sayV id l (k : Int)).c (sayV id l (k : Int)).b (sayV id l (k : Int)).p x.v.r x.v.c x.v.b x.v.p = false) := hide hl
   clear hh hl
   go_wp2_with fail
   refine wp_region_held_drew (S := (fun W => W.cell? ⟨b, off + k * 8 + 2, none⟩ = some (.bool true) ∧ W.cell? ⟨b, off + k * 8 + 3, none⟩ = some (.int .i64 x.v.r) ∧ W.cell? ⟨b, off + k * 8 + 4, none⟩ = some (.int .i64 x.v.c) ∧ W.cell? ⟨b, off + k * 8 + 5, none⟩ = some (.int .i64 x.v.h) ∧ W.cell? ⟨b, off + k * 8 + 6, none⟩ = some (.int .i64 x.v.b) ∧ W.cell? ⟨b, off + k * 8 + 7, none⟩ = some (.int .i64 x.v.p))) (by kernel_rfl) (HSS.out _ vv) (fun hHeld => ?_)
   refine kK 0 q290 ?_
   refine kK 1 q291 ?_
   refine kK 2 q292 ?_
   refine kK 3 q293 ?_
   refine kK 4 q294 ?_
   refine kK 5 q295 ?_
   refine kK 6 q296 ?_
   refine kK 7 q297 ?_
   refine kK 8 q298 ?_
   refine kK 9 q299 ?_
   refine kK 11 q301 ?_
   refine kK 12 q302 ?_
   refine kK 13 q303 ?_
   refine kK 14 q304 ?_
   refine kK 15 q305 ?_
   refine tR [10] ?_
   refine AllReadyH.cons (o := q300) rfl (fun K hK => ?_) ?_
   ·go_simp
    refine (specSayVec_any id (some ⟨b, off, none⟩) n c l (k : Int) _ (h.below (gr_trans HB.out vv))).mono ?_
    rintro e wx ⟨rfl, hbx⟩
    have vv := gr_trans vv hbx
    clear hbx
    go_wp2_with fail
    refine hK.out _ _ (HSS.out _ vv) (fun hHeld => ?_)
    clear hK K
    try simp only [Act.put, lA, lB, lC]
    refine tR [16] ?_
    refine AllReadyH.cons (o := q306) rfl (fun K hK => ?_) ?_
    ·go_simp
     refine (specLessVec_any (sayV id l (k : Int)).r (sayV id l (k : Int)).c (sayV id l (k : Int)).h (sayV id l (k : Int)).b (sayV id l (k : Int)).p x.v.r x.v.c x.v.h x.v.b x.v.p _).mono ?_
     rintro e wx ⟨rfl, hbx⟩
     rw [HL.out]
     have vv := gr_trans vv hbx
     clear hbx
     go_wp2_with fail
     refine hK.out _ _ (HSS.out _ vv) (fun hHeld => ?_)
     clear hK K
     try simp only [Act.put, lA, lB, lC]
     refine kK 17 q307 ?_
     refine kK 18 q308 ?_
     refine wpAnyH_done (by kernel_rfl) ?_ _
     clear hHeld
     go_wp2
     go_ret
     exact ⟨(by rw [HR.out]; rfl), gr_trans HB.out vv⟩
    exact AllReadyH.nil
   exact AllReadyH.nil
  ·have HR : Hid (roleOf id l (k : Int) = 2) := hide (by rw [HR0.out, hh, hl]; rfl)
   have HL : Hid (lessVc (sayV id l (k : Int)).r (sayV id l (k : Int)).c (sayV id l (k : Int)).b (sayV id l (k : Int)).p x.v.r x.v.c x.v.b x.v.p = true) := hide hl
   clear hh hl
   go_wp2_with fail
   refine wp_region_held_drew (S := (fun W => W.cell? ⟨b, off + k * 8 + 2, none⟩ = some (.bool true) ∧ W.cell? ⟨b, off + k * 8 + 3, none⟩ = some (.int .i64 x.v.r) ∧ W.cell? ⟨b, off + k * 8 + 4, none⟩ = some (.int .i64 x.v.c) ∧ W.cell? ⟨b, off + k * 8 + 5, none⟩ = some (.int .i64 x.v.h) ∧ W.cell? ⟨b, off + k * 8 + 6, none⟩ = some (.int .i64 x.v.b) ∧ W.cell? ⟨b, off + k * 8 + 7, none⟩ = some (.int .i64 x.v.p))) (by kernel_rfl) (HSS.out _ vv) (fun hHeld => ?_)
   refine kK 0 q290 ?_
   refine kK 1 q291 ?_
   refine kK 2 q292 ?_
   refine kK 3 q293 ?_
   refine kK 4 q294 ?_
   refine kK 5 q295 ?_
   refine kK 6 q296 ?_
   refine kK 7 q297 ?_
   refine kK 8 q298 ?_
   refine kK 9 q299 ?_
   refine kK 11 q301 ?_
   refine kK 12 q302 ?_
   refine kK 13 q303 ?_
   refine kK 14 q304 ?_
   refine kK 15 q305 ?_
   refine tR [10] ?_
   refine AllReadyH.cons (o := q300) rfl (fun K hK => ?_) ?_
   ·go_simp
    refine (specSayVec_any id (some ⟨b, off, none⟩) n c l (k : Int) _ (h.below (gr_trans HB.out vv))).mono ?_
    rintro e wx ⟨rfl, hbx⟩
    have vv := gr_trans vv hbx
    clear hbx
    go_wp2_with fail
    refine hK.out _ _ (HSS.out _ vv) (fun hHeld => ?_)
    clear hK K
    try simp only [Act.put, lA, lB, lC]
    refine tR [16] ?_
    refine AllReadyH.cons (o := q306) rfl (fun K hK => ?_) ?_
    ·go_simp
     refine (specLessVec_any (sayV id l (k : Int)).r (sayV id l (k : Int)).c (sayV id l (k : Int)).h (sayV id l (k : Int)).b (sayV id l (k : Int)).p x.v.r x.v.c x.v.h x.v.b x.v.p _).mono ?_
     rintro e wx ⟨rfl, hbx⟩
     rw [HL.out]
     have vv := gr_trans vv hbx
     clear hbx
     go_wp2_with fail
     refine hK.out _ _ (HSS.out _ vv) (fun hHeld => ?_)
     clear hK K
     try simp only [Act.put, lA, lB, lC]
     refine kK 17 q307 ?_
     refine kK 18 q308 ?_
     refine wpAnyH_done (by kernel_rfl) ?_ _
     clear hHeld
     go_wp2
     go_ret
     exact ⟨(by rw [HR.out]; rfl), gr_trans HB.out vv⟩
    exact AllReadyH.nil
   exact AllReadyH.nil

set_option maxRecDepth 100000 in
set_option maxHeartbeats 2000000 in
theorem specSends_any (id : Int) (a : Option Addr) (n c : Nat) (l : List PT) (w : World) (h : GRow ptF w a n c l) :
  Calls Tryz.prog 108 #[.int .i64 id, .slice a n c] w fun e w' => e = .returned (.int .i64 (sendsOf id l)) ∧ Below w.heap.size w w' := by
 have hle := h.le
 have htop := h.top
 unfold maxLen at htop
 have hsz := hide h.size
 go_enter Tryz.func108, Tryz.ntmps108
 go_wp2_with fail
 go_loopw [5, 6] (fun s i wr => ∃ k : Nat, k ≤ min n 6 ∧ i = .int .i64 k ∧ s = .int .i64 (sendsTo id l k) ∧ Below w.heap.size w wr) (fun _ i _ => 6 - (intOf i).toNat)
 case atStart => exact ⟨0, Nat.zero_le _, rfl, rfl, Below.refl _ _⟩
 case round =>
  obtain ⟨k, hk, rfl, rfl, hb⟩ := hrel
  have hk6 : k ≤ 6 := by omega
  generalize hS : sendsTo id l k = S
  have HS := hide hS
  clear hS
  by_cases hlt : k < min n 6
  ·have hkn : k < n := by omega
   have hk5 : k < 6 := by omega
   have i1 : (0 : Int) ≤ (k : Int) := by omega
   have i2 : (k : Int) < (n : Int) := by omega
   have i3 : (k : Int) < 6 := by omega
   have hmin : (if (n : Int) ≤ 6 then (n : Int) else 6) = ((min n 6 : Nat) : Int) := by split <;> omega
   have i4 : (k : Int) < ((min n 6 : Nat) : Int) := by omega
   have HB := hide hb
   clear hk hb
   go_wp2_with fail
   refine (specRole_any id a n c l (k : Int) _ (h.below HB.out)).mono ?_
   rintro e w2 ⟨rfl, hb2⟩
   have HB2 := hide (gr_trans HB.out hb2)
   have h14 := role_one (id := id) (l := l) (k : Int)
   clear hb2
   generalize hR : roleOf id l (k : Int) = R at *
   have HR := hide hR
   clear hR
   by_cases hr : R ≤ 2
   ·have HN : Hid (sendsTo id l (k + 1) = bits .or .i64 S (2 ^ k)) := hide (by rw [sendsTo, HR.out, if_pos hr, HS.out])
    have hw2 : wrap64 (2 ^ k) = 2 ^ k := by
     rcases (show k = 0 ∨ k = 1 ∨ k = 2 ∨ k = 3 ∨ k = 4 ∨ k = 5 by omega) with rfl | rfl | rfl | rfl | rfl | rfl <;> exact Go.IntWalk.wrap64_in _ (by decide)
    have HW2 := hide hw2
    clear hw2
    go_wp2
    rw [HW2.out]
    go_roundw
    case rel => exact ⟨k + 1, by omega, by go_num, by rw [HN.out], HB2.out⟩
    case measure => simp [intOf]; omega
   ·have HN : Hid (sendsTo id l (k + 1) = S) := hide (by rw [sendsTo, HR.out, if_neg hr, HS.out])
    go_wp2
    go_roundw
    case rel => exact ⟨k + 1, by omega, by go_num, by rw [HN.out], HB2.out⟩
    case measure => simp [intOf]; omega
  ·have hkn : k = min n 6 := by omega
   have HK : Hid (sendsOf id l = S) := hide (by unfold sendsOf; rw [hsz.out, ← hkn]; exact HS.out)
   have hend : ¬ ((k : Int) < (n : Int) ∧ (k : Int) < 6) := by omega
   go_wp2
   all_goals go_ret
   all_goals exact ⟨(by rw [HK.out]; rfl), hb⟩

end Go.Proofs.YtfknffdlmcckkaaGreat
