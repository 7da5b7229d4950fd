/-
  Packed: FrameSpecTag BrList0 PtBest PtRole PtSends TextRow FrameSpec FrameTag VecNums.
-/
import Derived.Test.YtddalpglihhipaaGreatPSKW
import Derived.Test.YtddalpglihhipaaGreatPSK01
import Derived.Test.YtddalpglihhipaaGreatPSK02
import Derived.Test.YtddalpglihhipaaGreatPSK03
import Derived.Deep.CutRange
import Derived.Laws.IdiomStrings
import Derived.Deep.RegionHeld3
namespace Go.Proofs.YtddalpglihhipaaGreat
open Go.RowKit

set_option maxRecDepth 100000 in
set_option maxHeartbeats 1000000 in
theorem specCopy_made (K N S : Int) (a1 : Option Addr) (l1 c1 : Nat) (z1 : List Int) (w : World) (h1 : Row w a1 l1 c1 z1) (hs : l1 ≤ 16000000) :
  Calls Tryz.prog 171 #[.agg #[.int .i64 K, .int .i64 N, .int .i64 S, .slice a1 l1 c1]] w fun e w' => ∃ ao cap, e = .returned (.agg #[.int .i64 K, .int .i64 N, .int .i64 S, .slice ao l1 cap]) ∧
   w'.ownsRow w.heap.size 5 1 (.slice ao l1 cap) l1 (cB z1) ∧ Row w' ao l1 cap z1 ∧ Below w.heap.size w w' := by
 have hn : (((w.alloc (.cells #[.int .i64 K, .int .i64 N, .int .i64 S, .slice a1 l1 c1] 33)).alloc (.cells #[.int .i64 0, .int .i64 0, .int .i64 0, .slice none 0 0] 33)).alloc (.cells #[.int .i64 K, .int .i64 N, .int .i64 S, .slice a1 l1 c1] 33)).heap.size = w.heap.size + 1 + 1 + 1 := by simp
 have lit := World.ownsRow_lit (base := w.heap.size + 1 + 1 + 1) (e := 5) (size := 1) (((w.alloc (.cells #[.int .i64 K, .int .i64 N, .int .i64 S, .slice a1 l1 c1] 33)).alloc (.cells #[.int .i64 0, .int .i64 0, .int .i64 0, .slice none 0 0] 33)).alloc (.cells #[.int .i64 K, .int .i64 N, .int .i64 S, .slice a1 l1 c1] 33)) #[] 0 (by rw [hn]; exact Nat.le_refl _) (Nat.zero_le _) rfl
 rw [hn] at lit
 have LIT := hide lit
 clear lit hn
 go_enter Tryz.func171, Tryz.ntmps171
 go_wp2_with (at_builtin; refine wpList_append_row _ rfl _ _ 22 rfl (w.heap.size + 1 + 1 + 1) Tryz.underlying22 Tryz.infoU8 _ 0 [] rfl LIT.out (by intro z hz; cases hz) a1 l1 c1 z1 rfl (h1.below (gr_alloc (below_three _ _ _ _) _)) (by omega) (by simp) ?_)
 intro ao1 cp1 w1 how1 row1 hb1
 have how1 : w1.ownsRow (w.heap.size + 1 + 1 + 1) 5 1 (.slice ao1 l1 cp1) l1 (cB z1) := by simpa using how1
 have hb : Below (((w.alloc (.cells #[.int .i64 K, .int .i64 N, .int .i64 S, .slice a1 l1 c1] 33)).alloc (.cells #[.int .i64 0, .int .i64 0, .int .i64 0, .slice none 0 0] 33)).alloc (.cells #[.int .i64 K, .int .i64 N, .int .i64 S, .slice a1 l1 c1] 33)).heap.size (((w.alloc (.cells #[.int .i64 K, .int .i64 N, .int .i64 S, .slice a1 l1 c1] 33)).alloc (.cells #[.int .i64 0, .int .i64 0, .int .i64 0, .slice none 0 0] 33)).alloc (.cells #[.int .i64 K, .int .i64 N, .int .i64 S, .slice a1 l1 c1] 33)) w1 := (below_one _ _).trans (hb1.mono (by simp))
 obtain ⟨k0, k1, k2⟩ := kept_three hb
 obtain ⟨⟨p0, p1, p2, p3⟩, f0, f1, f2, f3⟩ := cells4 k1
 obtain ⟨⟨q0, q1, q2, q3⟩, g0, g1, g2, g3⟩ := cells4 k2
 have b1 : Below w.heap.size w w1 := (below_three w _ _ _).trans (hb.mono (below_three w _ _ _).size)
 have hby := h1.byte
 have HB := hide b1
 have HO := hide how1
 clear k0 k1 k2 hb hb1 how1 b1 row1 h1 LIT
 go_wp2
 have o5 := own_set (own_set (own_set (own_set (own_set HO.out (g := w.heap.size + 1 + 1) (j := 3) (u := .slice ao1 l1 cp1) (by omega)) (g := w.heap.size + 1) (j := 0) (u := .int .i64 K) (by omega)) (g := w.heap.size + 1) (j := 1) (u := .int .i64 N) (by omega)) (g := w.heap.size + 1) (j := 2) (u := .int .i64 S) (by omega)) (g := w.heap.size + 1) (j := 3) (u := .slice ao1 l1 cp1) (by omega)
 refine bodyPost_ret (v := .agg #[.int .i64 K, .int .i64 N, .int .i64 S, .slice ao1 l1 cp1]) (by simp [results, Tryz.results171, go_sem, *]) rfl ⟨_, _, rfl, own_lt o5 (by omega), row_own o5 hby, ?_⟩
 exact below_set (below_set (below_set (below_set (below_set HB.out (by omega) _ _) (by omega) _ _) (by omega) _ _) (by omega) _ _) (by omega) _ _

set_option maxRecDepth 100000 in
set_option maxHeartbeats 1000000 in
theorem specTagged_made (K N S : Int) (a1 : Option Addr) (l1 c1 : Nat) (z1 : List Int) (g : Int) (w : World) (h1 : Row w a1 l1 c1 z1) (hs : l1 ≤ 16000000) :
  Calls Tryz.prog 124 #[.agg #[.int .i64 K, .int .i64 N, .int .i64 S, .slice a1 l1 c1], .int .i64 g] w fun e w' => ∃ ao cap, e = .returned (.agg #[.int .i64 K, .int .i64 N, .int .i64 g, .slice ao l1 cap]) ∧
   w'.ownsRow w.heap.size 5 1 (.slice ao l1 cap) l1 (cB z1) ∧ Row w' ao l1 cap z1 ∧ Below w.heap.size w w' := by
 go_enter Tryz.func124, Tryz.ntmps124
 go_wp2_with fail
 refine (specCopy_made K N S a1 l1 c1 z1 _ (h1.below (below_two _ _ _)) hs).mono ?_
 rintro e w1 ⟨ao1, cp1, rfl, ho, r1, hb⟩
 obtain ⟨k0, k1⟩ := kept_two hb
 obtain ⟨⟨q0, q1, q2, q3⟩, g0, g1, g2, g3⟩ := cells4 (kept_block k1 (below_one w1 (.cells #[.int .i64 K, .int .i64 N, .int .i64 g, .slice ao1 l1 cp1] 33)))
 have b1 : Below w.heap.size w w1 := (below_two w _ _).trans (hb.mono (below_two w _ _).size)
 have ho' := own_lt ho (base' := w.heap.size + 1 + 1) (by simp)
 have hby := h1.byte
 have HB := hide (b1.trans ((below_one w1 (.cells #[.int .i64 K, .int .i64 N, .int .i64 g, .slice ao1 l1 cp1] 33)).mono b1.size))
 have HO := hide (own_below ho' (below_one w1 (.cells #[.int .i64 K, .int .i64 N, .int .i64 g, .slice ao1 l1 cp1] 33)))
 clear k0 k1 hb ho ho' b1 h1
 go_wp2
 have o5 := own_set4 HO.out (g := w.heap.size + 1) (by omega) (.int .i64 K) (.int .i64 N) (.int .i64 g) (.slice ao1 l1 cp1)
 refine bodyPost_ret (v := .agg #[.int .i64 K, .int .i64 N, .int .i64 g, .slice ao1 l1 cp1]) (by simp [results, Tryz.results124, go_sem, *]) rfl ⟨_, _, rfl, own_lt o5 (by omega), row_own o5 hby, ?_⟩
 exact below_set4 HB.out (by omega) _ _ _ _

theorem own_lit {α : Type} (F : Flat α) {w : World} {g base : Nat} {l : List α} {cs : Array Value} {T : TypeId} (h : w.heap[g]? = some (.cells cs T)) (hc : cs.toList = F.all l) (hb : base ≤ g) (hm : l.length ≤ 1000) : w.ownsRow base T F.k (.slice (some ⟨g, 0, none⟩) l.length l.length) l.length (F.all l) := by
 have hl : cs.toList.length = l.length * F.k := by rw [hc, F.all_length]
 refine ⟨by rw [F.all_length], .inr ⟨g, l.length, cs, rfl, hb, h, Nat.le_refl _, by unfold maxLen; omega, ?_, ?_⟩⟩
 ·simpa using hl
 ·rw [← hc, ← hl, List.take_length]

abbrev q230 : Oper := ⟨some 47, .call ⟨.value (.func 189), #[.tmp 41, .tmp 46], #[93, 3]⟩, 193, "l10_role.go:23", #[⟨4, .data⟩, ⟨9, .data⟩], none⟩
abbrev q231 : Oper := ⟨some 36, .move (.tmp 47), 193, "l10_role.go:23", #[⟨10, .data⟩], none⟩
abbrev q232 : Oper := ⟨some 48, .extract (.tmp 36) 0, 93, "l10_role.go:23", #[⟨11, .data⟩], none⟩
abbrev q233 : Oper := ⟨some 49, .extract (.tmp 36) 1, 4, "l10_role.go:23", #[⟨11, .data⟩, { on := 15, ground := Ground.gcOnly Departure.lateStores }], none⟩
abbrev q234 : Oper := ⟨some 10, .alloc 93, 0, "l10_role.go:23", #[], none⟩
abbrev q235 : Oper := ⟨none, .store 93 (.tmp 10) (.tmp 48), 0, "l10_role.go:23", #[⟨14, .data⟩, ⟨12, .data⟩, ⟨10, .chain⟩, ⟨0, .phase⟩, ⟨1, .phase⟩, ⟨2, .phase⟩, ⟨3, .phase⟩, ⟨4, .phase⟩, ⟨5, .phase⟩, ⟨6, .phase⟩, ⟨7, .phase⟩, ⟨8, .phase⟩, ⟨9, .phase⟩, ⟨10, .phase⟩, ⟨11, .phase⟩, ⟨12, .phase⟩, { on := 13, ground := Ground.textOnly Departure.lateStores }, ⟨14, .phase⟩], none⟩
abbrev q236 : Oper := ⟨some 11, .assign (.tmp 49), 4, "l10_role.go:23", #[⟨13, .data⟩, ⟨15, .chain⟩, ⟨0, .phase⟩, ⟨1, .phase⟩, ⟨2, .phase⟩, ⟨3, .phase⟩, ⟨4, .phase⟩, ⟨5, .phase⟩, ⟨6, .phase⟩, ⟨7, .phase⟩, ⟨8, .phase⟩, ⟨9, .phase⟩, ⟨10, .phase⟩, ⟨11, .phase⟩, ⟨12, .phase⟩, ⟨13, .phase⟩, ⟨14, .phase⟩, ⟨15, .phase⟩], none⟩

theorem box5_set {w : World} {g : Nat} {c0 c1 c2 c3 c4 : Value} {T : TypeId} (h : w.heap[g]? = some (.cells #[c0, c1, c2, c3, c4] T)) (u0 u1 u2 u3 u4 : Value) : (((((w.setCell ⟨g, 0, none⟩ u0).setCell ⟨g, 1, none⟩ u1).setCell ⟨g, 2, none⟩ u2).setCell ⟨g, 3, none⟩ u3).setCell ⟨g, 4, none⟩ u4).heap[g]? = some (.cells #[u0, u1, u2, u3, u4] T) :=
 set_block5 (j := 4) (set_block5 (j := 3) (set_block5 (j := 2) (set_block5 (j := 1) (set_block5 (j := 0) h u0) u1) u2) u3) u4

theorem kept_set5 {w : World} {i g : Nat} {o : Obj} (h : w.heap[i]? = some o) (hne : i ≠ g) (u0 u1 u2 u3 u4 : Value) : (((((w.setCell ⟨g, 0, none⟩ u0).setCell ⟨g, 1, none⟩ u1).setCell ⟨g, 2, none⟩ u2).setCell ⟨g, 3, none⟩ u3).setCell ⟨g, 4, none⟩ u4).heap[i]? = some o :=
 kept_set (kept_set (kept_set (kept_set (kept_set h hne) hne) hne) hne) hne

structure BvSt (w W : World) (v f : VD) : Prop where
 res : W.heap[w.heap.size]? = some (.cells #[.int .i64 0, .int .i64 0, .int .i64 0, .int .i64 0, .int .i64 0] 93)
 best : W.heap[w.heap.size + 1]? = some (.cells #[.int .i64 v.r, .int .i64 v.c, .int .i64 v.h, .int .i64 v.b, .int .i64 v.p] 93)
 frm : W.heap[w.heap.size + 1 + 1]? = some (.cells #[.int .i64 f.r, .int .i64 f.c, .int .i64 f.h, .int .i64 f.b, .int .i64 f.p] 93)
 below : Below w.heap.size w W

theorem BvSt.later {w W W' : World} {v f : VD} (h : BvSt w W v f) (hb : Below W.heap.size W W') : BvSt w W' v f :=
 ⟨kept_block h.res hb, kept_block h.best hb, kept_block h.frm hb, gr_trans h.below hb⟩

theorem BvSt.setBest {w W : World} {v f : VD} (h : BvSt w W v f) (u : VD) : BvSt w (((((W.setCell ⟨w.heap.size + 1, 0, none⟩ (.int .i64 u.r)).setCell ⟨w.heap.size + 1, 1, none⟩ (.int .i64 u.c)).setCell ⟨w.heap.size + 1, 2, none⟩ (.int .i64 u.h)).setCell ⟨w.heap.size + 1, 3, none⟩ (.int .i64 u.b)).setCell ⟨w.heap.size + 1, 4, none⟩ (.int .i64 u.p)) u f :=
 ⟨kept_set5 h.res (by omega) _ _ _ _ _, box5_set h.best _ _ _ _ _, kept_set5 h.frm (by omega) _ _ _ _ _, below_set5 h.below (by omega) _ _ _ _ _⟩

theorem BvSt.setFrom {w W : World} {v f : VD} (h : BvSt w W v f) (u : VD) : BvSt w (((((W.setCell ⟨w.heap.size + 1 + 1, 0, none⟩ (.int .i64 u.r)).setCell ⟨w.heap.size + 1 + 1, 1, none⟩ (.int .i64 u.c)).setCell ⟨w.heap.size + 1 + 1, 2, none⟩ (.int .i64 u.h)).setCell ⟨w.heap.size + 1 + 1, 3, none⟩ (.int .i64 u.b)).setCell ⟨w.heap.size + 1 + 1, 4, none⟩ (.int .i64 u.p)) v u :=
 ⟨kept_set5 h.res (by omega) _ _ _ _ _, kept_set5 h.best (by omega) _ _ _ _ _, box5_set h.frm _ _ _ _ _, below_set5 h.below (by omega) _ _ _ _ _⟩

set_option maxRecDepth 100000 in
set_option maxHeartbeats 4000000 in
theorem specBestVec_any (id : Int) (a : Option Addr) (n c : Nat) (l : List PT) (w : World) (h : GRow ptF w a n c l) :
  Calls Tryz.prog 167 #[.int .i64 id, .slice a n c] w fun e w' => e = .returned (.tuple #[.agg #[.int .i64 (bestV id (bestOf id l)).r, .int .i64 (bestV id (bestOf id l)).c, .int .i64 (bestV id (bestOf id l)).h, .int .i64 (bestV id (bestOf id l)).b, .int .i64 (bestV id (bestOf id l)).p], .int .i64 (bestP (bestOf id l))]) ∧ Below w.heap.size w w' := by
 have hle := h.le
 have htop := h.top
 unfold maxLen at htop
 have hsz := hide h.size
 go_enter Tryz.func167, Tryz.ntmps167
 go_wp2_with fail
 generalize hw3 : ((w.alloc (Obj.cells #[.int .i64 0, .int .i64 0, .int .i64 0, .int .i64 0, .int .i64 0] 93)).alloc (Obj.cells #[.int .i64 id, .int .i64 0, .int .i64 0, .int .i64 id, .int .i64 0] 93)).alloc (Obj.cells #[.int .i64 0, .int .i64 0, .int .i64 0, .int .i64 0, .int .i64 0] 93) = w3
 have st3 : BvSt w w3 (bestV id none) (fromV none) := by
  subst hw3
  obtain ⟨k0, k1, k2⟩ := kept_three (Below.refl _ (((w.alloc (Obj.cells #[.int .i64 0, .int .i64 0, .int .i64 0, .int .i64 0, .int .i64 0] 93)).alloc (Obj.cells #[.int .i64 id, .int .i64 0, .int .i64 0, .int .i64 id, .int .i64 0] 93)).alloc (Obj.cells #[.int .i64 0, .int .i64 0, .int .i64 0, .int .i64 0, .int .i64 0] 93)))
  exact ⟨k0, k1, k2, below_three _ _ _ _⟩
 clear hw3
 go_loopw [8, 9] (fun p i wr => ∃ (k : Nat) (s : Option (VD × Nat)), k ≤ n ∧ i = .int .i64 k ∧ p = .int .i64 (bestP s) ∧ bestTo id l k = s ∧ BvSt w wr (bestV id s) (fromV s)) (fun _ i _ => n - (intOf i).toNat)
 case atStart => exact ⟨0, none, Nat.zero_le _, rfl, rfl, rfl, st3⟩
 case round =>
  obtain ⟨k, s, hk, rfl, rfl, hs, st⟩ := hrel
  obtain ⟨bv, hbv⟩ : ∃ y, y = bestV id s := ⟨_, rfl⟩
  obtain ⟨fv, hfv⟩ : ∃ y, y = fromV s := ⟨_, rfl⟩
  have BACK : Hid (∀ W, BvSt w W bv fv → BvSt w W (bestV id s) (fromV s)) := hide (by subst hbv hfv; exact fun W h => h)
  rw [← hbv, ← hfv] at st
  have HBV := hide hbv
  have HFV := hide hfv
  clear hbv hfv
  by_cases hlt : k < n
  ·obtain ⟨x, b, off, hx, rfl, c0, c1, c2, c3, c4, c5, c6, c7⟩ := pt_at (h.below st.below) k hlt
   have hnx := bestTo_next (id := id) hx
   rw [hs] at hnx
   have i1 : (0 : Int) ≤ (k : Int) := by omega
   have i2 : (k : Int) < (n : Int) := by omega
   have NX := hide hnx
   clear hs hnx hx
   cases hu : x.up
   ·rw [hu] at c0
    have HE := hide (NX.out.trans (bestStep_no (by unfold offers; rw [hu]; rfl)))
    clear hu c1 c2 c3 c4 c5 c6 c7
    go_wp2
    go_roundw
    case rel => exact ⟨k + 1, s, by omega, by go_num, rfl, HE.out, BACK.out _ st⟩
    case measure => simp [intOf]; omega
   cases hh : x.has
   ·rw [hu] at c0
    rw [hh] at c2
    have HE := hide (NX.out.trans (bestStep_no (by unfold offers; rw [hu, hh]; rfl)))
    clear hu hh c1 c3 c4 c5 c6 c7
    go_wp2
    go_roundw
    case rel => exact ⟨k + 1, s, by omega, by go_num, rfl, HE.out, BACK.out _ st⟩
    case measure => simp [intOf]; omega
   rw [hu] at c0
   rw [hh] at c2
   have HUH : Hid (x.up = true ∧ x.has = true) := hide ⟨hu, hh⟩
   have HSS : Hid (∀ W', Below wr.heap.size wr W' → W'.cell? ⟨b, off + k * 8 + 1, none⟩ = some (.int .i64 x.k) ∧ W'.cell? ⟨b, off + k * 8 + 3, none⟩ = some (.int .i64 x.v.r) ∧ W'.cell? ⟨b, off + k * 8 + 4, none⟩ = some (.int .i64 x.v.c) ∧ W'.cell? ⟨b, off + k * 8 + 5, none⟩ = some (.int .i64 x.v.h) ∧ W'.cell? ⟨b, off + k * 8 + 6, none⟩ = some (.int .i64 x.v.b) ∧ W'.cell? ⟨b, off + k * 8 + 7, none⟩ = some (.int .i64 x.v.p)) := hide (fun W' hb => ⟨(hb.cell (block_lt c1)).trans c1, (hb.cell (block_lt c3)).trans c3, (hb.cell (block_lt c4)).trans c4, (hb.cell (block_lt c5)).trans c5, (hb.cell (block_lt c6)).trans c6, (hb.cell (block_lt c7)).trans c7⟩)
   obtain ⟨q, hq⟩ : ∃ q, stepOk x.v.r x.v.c x.v.h x.v.b x.v.p x.k = q := ⟨_, rfl⟩
   obtain ⟨u, hu'⟩ : ∃ u, u = (if q = true then stepV x.v x.k else x.v) := ⟨_, rfl⟩
   have HST := hide hq
   have HQ : Hid ((if q = true then Value.agg #[.int .i64 x.v.r, .int .i64 (x.v.c + x.k), .int .i64 (x.v.h + 1), .int .i64 x.v.b, .int .i64 x.v.p] else Value.agg #[.int .i64 x.v.r, .int .i64 x.v.c, .int .i64 x.v.h, .int .i64 x.v.b, .int .i64 x.v.p]) = .agg #[.int .i64 u.r, .int .i64 u.c, .int .i64 u.h, .int .i64 u.b, .int .i64 u.p]) := hide (by subst hu'; cases q <;> rfl)
   have HU := hide hu'
   have ST := hide st
   clear hq hu' hu hh c1 c3 c4 c5 c6 c7
   go_upto_region 8 with fail
   clear c0 c2
   go_cut [10, 11] from 16 to 75 (fun s10 s11 wx => ∃ g : Nat, s10 = .pointer (some ⟨g, 0, none⟩) ∧ s11 = .bool q ∧ wr.heap.size ≤ g ∧ wx.heap[g]? = some (.cells #[.int .i64 u.r, .int .i64 u.c, .int .i64 u.h, .int .i64 u.b, .int .i64 u.p] 93) ∧ Below wr.heap.size wr wx)
   case first =>
    have vv : Below wr.heap.size wr wr.drew := gr_drew (Below.refl _ _)
    go_wp2_with fail
    refine wp_region_held_drew (S := (fun W => W.cell? ⟨b, off + k * 8 + 1, none⟩ = some (.int .i64 x.k) ∧ W.cell? ⟨b, off + k * 8 + 3, none⟩ = some (.int .i64 x.v.r) ∧ W.cell? ⟨b, off + k * 8 + 4, none⟩ = some (.int .i64 x.v.c) ∧ W.cell? ⟨b, off + k * 8 + 5, none⟩ = some (.int .i64 x.v.h) ∧ W.cell? ⟨b, off + k * 8 + 6, none⟩ = some (.int .i64 x.v.b) ∧ W.cell? ⟨b, off + k * 8 + 7, none⟩ = some (.int .i64 x.v.p))) (by kernel_rfl) (HSS.out _ vv) (fun hHeld => ?_)
    refine kK 0 ⟨some 37, .move (.tmp 1), 24, "l10_role.go:23", #[], none⟩ ?_
    refine kK 1 ⟨some 38, .move (.tmp 9), 3, "l10_role.go:23", #[], none⟩ ?_
    refine kK 2 ⟨some 39, .indexAddr 24 (.tmp 37) (.tmp 38), 0, "l10_role.go:23", #[⟨0, .data⟩, ⟨1, .data⟩], none⟩ ?_
    refine kK 3 ⟨some 40, .fieldAddr 95 (.tmp 39) 3, 0, "l10_role.go:23", #[⟨2, .data⟩], none⟩ ?_
    refine kK 4 ⟨some 41, .load 93 (.tmp 40), 93, "l10_role.go:23", #[⟨3, .data⟩], none⟩ ?_
    refine kK 5 ⟨some 42, .move (.tmp 1), 24, "l10_role.go:23", #[], none⟩ ?_
    refine kK 6 ⟨some 43, .move (.tmp 9), 3, "l10_role.go:23", #[], none⟩ ?_
    refine kK 7 ⟨some 44, .indexAddr 24 (.tmp 42) (.tmp 43), 0, "l10_role.go:23", #[⟨5, .data⟩, ⟨6, .data⟩], none⟩ ?_
    refine kK 8 ⟨some 45, .fieldAddr 95 (.tmp 44) 1, 0, "l10_role.go:23", #[⟨7, .data⟩], none⟩ ?_
    refine kK 9 ⟨some 46, .load 3 (.tmp 45), 3, "l10_role.go:23", #[⟨8, .data⟩], none⟩ ?_
    refine tR [10, 14] ?_
    refine AllReadyH.cons (o := q230) rfl (fun K hK => ?_) ?_
    ·go_simp
     refine (specStepVec_any x.v.r x.v.c x.v.h x.v.b x.v.p x.k _).mono ?_
     rintro e wx ⟨rfl, hbx⟩
     rw [HST.out, HQ.out]
     try have kB := kept_block kB hbx
     have vv := gr_trans vv hbx
     clear hbx
     go_wp2_with fail
     refine hK.out _ _ (HSS.out _ vv) (fun hHeld => ?_)
     clear hK K
     try simp only [Act.put, lA, lB, lC]
     refine kK 11 q231 ?_
     refine kK 12 q232 ?_
     refine kK 13 q233 ?_
     refine tR [14] ?_
     refine AllReadyH.cons (o := q234) rfl (fun K hK => ?_) ?_
     ·go_simp
      first
      | refine made_new (K := K _) (fun wx kB hbx => ?_)
      | refine made_drew (K := K _) (fun wx kB hbx => ?_)
      have gB := vv.size
      have vv := gr_trans vv hbx
      clear hbx
      refine hK.out _ _ (HSS.out _ vv) (fun hHeld => ?_)
      clear hK K
      try simp only [Act.put, lA, lB, lC]
      refine tR [15] ?_
      refine AllReadyH.cons (o := q235) rfl (fun K hK => ?_) ?_
      ·obtain ⟨⟨b0, b1, b2, b3, b4⟩, f0, f1, f2, f3, f4⟩ := cells5 kB
       go_simp
       have vv := below_set5 vv gB (.int .i64 u.r) (.int .i64 u.c) (.int .i64 u.h) (.int .i64 u.b) (.int .i64 u.p)
       have kB := box5_set kB (.int .i64 u.r) (.int .i64 u.c) (.int .i64 u.h) (.int .i64 u.b) (.int .i64 u.p)
       clear b0 b1 b2 b3 b4 f0 f1 f2 f3 f4
       refine hK.out _ _ (HSS.out _ vv) (fun hHeld => ?_)
       clear hK K
       try simp only [Act.put, lA, lB, lC]
       refine kK 16 q236 ?_
       refine wpAnyH_done (by kernel_rfl) ?_ _
       clear hHeld
       go_wp2_with fail
       go_meet
       exact ⟨_, rfl, rfl, gB, kB, vv⟩
      exact AllReadyH.nil
     exact AllReadyH.nil
    refine AllReadyH.cons (o := q234) rfl (fun K hK => ?_) ?_
    ·go_simp
     first
     | refine made_new (K := K _) (fun wx kB hbx => ?_)
     | refine made_drew (K := K _) (fun wx kB hbx => ?_)
     have gB := vv.size
     have vv := gr_trans vv hbx
     clear hbx
     refine hK.out _ _ (HSS.out _ vv) (fun hHeld => ?_)
     clear hK K
     try simp only [Act.put, lA, lB, lC]
     refine tR [10] ?_
     refine AllReadyH.cons (o := q230) rfl (fun K hK => ?_) ?_
     ·go_simp
      refine (specStepVec_any x.v.r x.v.c x.v.h x.v.b x.v.p x.k _).mono ?_
      rintro e wx ⟨rfl, hbx⟩
      rw [HST.out, HQ.out]
      try have kB := kept_block kB hbx
      have vv := gr_trans vv hbx
      clear hbx
      go_wp2_with fail
      refine hK.out _ _ (HSS.out _ vv) (fun hHeld => ?_)
      clear hK K
      try simp only [Act.put, lA, lB, lC]
      refine kK 11 q231 ?_
      refine kK 12 q232 ?_
      refine kK 13 q233 ?_
      refine tR [15] ?_
      refine AllReadyH.cons (o := q235) rfl (fun K hK => ?_) ?_
      ·obtain ⟨⟨b0, b1, b2, b3, b4⟩, f0, f1, f2, f3, f4⟩ := cells5 kB
       go_simp
       have vv := below_set5 vv gB (.int .i64 u.r) (.int .i64 u.c) (.int .i64 u.h) (.int .i64 u.b) (.int .i64 u.p)
       have kB := box5_set kB (.int .i64 u.r) (.int .i64 u.c) (.int .i64 u.h) (.int .i64 u.b) (.int .i64 u.p)
       clear b0 b1 b2 b3 b4 f0 f1 f2 f3 f4
       refine hK.out _ _ (HSS.out _ vv) (fun hHeld => ?_)
       clear hK K
       try simp only [Act.put, lA, lB, lC]
       refine kK 16 q236 ?_
       refine wpAnyH_done (by kernel_rfl) ?_ _
       clear hHeld
       go_wp2_with fail
       go_meet
       exact ⟨_, rfl, rfl, gB, kB, vv⟩
      exact AllReadyH.nil
     exact AllReadyH.nil
    exact AllReadyH.nil
   case rest =>
    obtain ⟨g, rfl, rfl, hg, kX, hb⟩ := hcut
    obtain ⟨wS, hwS⟩ : ∃ x, x = wc := ⟨_, rfl⟩
    subst hwS
    have st := ST.out.later hb
    have hz := ST.out.frm
    have hlt2 := (Array.getElem?_eq_some_iff.1 hz).1
    have ne1 : ¬ g = w.heap.size + 1 + 1 := by omega
    have ne2 : ¬ w.heap.size + 1 + 1 = g := by omega
    have ne3 : ¬ g = w.heap.size + 1 := by omega
    have ne4 : ¬ w.heap.size + 1 = g := by omega
    obtain ⟨⟨x0, x1, x2, x3, x4⟩, -⟩ := cells5 kX
    have KX := hide kX
    clear hb hz hlt2 hg kX
    cases q
    ·have HE := hide (NX.out.trans (bestStep_no (by unfold offers stepsV; rw [HST.out]; simp)))
     go_wp2
     go_roundw
     case rel => exact ⟨k + 1, s, by omega, by go_num, rfl, HE.out, BACK.out _ st⟩
     case measure => simp [intOf]; omega
    have hur : u.r = x.v.r := by rw [HU.out]; rfl
    cases hlr : decide (u.r < id)
    ·have HE := hide (NX.out.trans (bestStep_no (by unfold offers; rw [← hur, hlr]; simp)))
     have hlr : ¬ u.r < id := by simpa using hlr
     clear hur
     go_wp2
     go_roundw
     case rel => exact ⟨k + 1, s, by omega, by go_num, rfl, HE.out, BACK.out _ st⟩
     case measure => simp [intOf]; omega
    have ho : offers id x = true := by unfold offers stepsV; rw [HUH.out.1, HUH.out.2, HST.out, ← hur, hlr]; rfl
    have hlr : u.r < id := by simpa using hlr
    have huu : stepV x.v x.k = u := HU.out.symm
    have HO := hide ho
    have HUU := hide huu
    clear hur ho huu
    clear ne3 ne4
    cases s with
    | none =>
     have HE : Hid (bestTo id l (k + 1) = some (u, k)) := hide (by rw [NX.out]; unfold bestStep; rw [if_pos HO.out, HUU.out])
     rw [show bestP none = -1 from rfl]
     have SL := hide st
     obtain ⟨⟨z0, z1, z2, z3, z4⟩, v0, v1, v2, v3, v4⟩ := cells5 st.frm
     clear st
     go_upto_region 11 with fail
     generalize hwf : ((((wS.setCell ⟨w.heap.size + 1 + 1, 0, none⟩ (.int .i64 u.r)).setCell ⟨w.heap.size + 1 + 1, 1, none⟩ (.int .i64 u.c)).setCell ⟨w.heap.size + 1 + 1, 2, none⟩ (.int .i64 u.h)).setCell ⟨w.heap.size + 1 + 1, 3, none⟩ (.int .i64 u.b)).setCell ⟨w.heap.size + 1 + 1, 4, none⟩ (.int .i64 u.p) = wf
     have stf : BvSt w wf bv u := by rw [← hwf]; exact SL.out.setFrom u
     have kf : wf.heap[g]? = some (.cells #[.int .i64 u.r, .int .i64 u.c, .int .i64 u.h, .int .i64 u.b, .int .i64 u.p] 93) := by rw [← hwf]; exact kept_set5 KX.out (by omega) _ _ _ _ _
     clear hwf x0 x1 x2 x3 x4 v0 v1 v2 v3 v4 z0 z1 z2 z3 z4
     obtain ⟨⟨x0, x1, x2, x3, x4⟩, -⟩ := cells5 kf
     obtain ⟨⟨n0, n1, n2, n3, n4⟩, m0, m1, m2, m3, m4⟩ := cells5 stf.best
     have HSET : Hid (BvSt w _ ⟨u.r, u.c, u.h, id, 0⟩ u) := hide (stf.setBest ⟨u.r, u.c, u.h, id, 0⟩)
     clear stf kf
     go_wp2
     go_roundw
     case rel => exact ⟨k + 1, some (u, k), by omega, by go_num, rfl, HE.out, HSET.out⟩
     case measure => simp [intOf]; omega
    | some fj =>
     obtain ⟨f, j⟩ := fj
     rw [show bestP (some (f, j)) = (j : Int) from rfl]
     have hneg : ¬ ((j : Int) < 0) := by omega
     have hff : fv = f := HFV.out
     subst hff
     obtain ⟨⟨z0, z1, z2, z3, z4⟩, -⟩ := cells5 st.frm
     cases hl : lessV u fv
     ·have HE : Hid (bestTo id l (k + 1) = some (fv, j)) := hide (by rw [NX.out]; unfold bestStep; rw [if_pos HO.out, HUU.out]; simp only; rw [if_neg (by rw [hl]; decide)])
      have HL : Hid (lessVc u.r u.c u.b u.p fv.r fv.c fv.b fv.p = false) := hide hl
      clear hl
      go_wp2_with fail
      refine (specLessVec_any u.r u.c u.h u.b u.p fv.r fv.c fv.h fv.b fv.p _).mono ?_
      rintro e wl ⟨rfl, hbl⟩
      rw [HL.out]
      have SL := hide (st.later hbl)
      clear hbl st z0 z1 z2 z3 z4 x0 x1 x2 x3 x4
      go_wp2
      go_roundw
      case rel => exact ⟨k + 1, some (fv, j), by omega, by go_num, rfl, HE.out, BACK.out _ SL.out⟩
      case measure => simp [intOf]; omega
     ·have HE : Hid (bestTo id l (k + 1) = some (u, k)) := hide (by rw [NX.out]; unfold bestStep; rw [if_pos HO.out, HUU.out]; simp only; rw [if_pos hl])
      have HL : Hid (lessVc u.r u.c u.b u.p fv.r fv.c fv.b fv.p = true) := hide hl
      clear hl
      go_wp2_with fail
      refine (specLessVec_any u.r u.c u.h u.b u.p fv.r fv.c fv.h fv.b fv.p _).mono ?_
      rintro e wl ⟨rfl, hbl⟩
      rw [HL.out]
      have SL := hide (st.later hbl)
      have KX := hide (kept_block KX.out hbl)
      clear hbl st z0 z1 z2 z3 z4 x0 x1 x2 x3 x4
      obtain ⟨⟨x0, x1, x2, x3, x4⟩, -⟩ := cells5 KX.out
      obtain ⟨⟨z0, z1, z2, z3, z4⟩, v0, v1, v2, v3, v4⟩ := cells5 SL.out.frm
      go_upto_region 11 with fail
      generalize hwf : ((((wl.setCell ⟨w.heap.size + 1 + 1, 0, none⟩ (.int .i64 u.r)).setCell ⟨w.heap.size + 1 + 1, 1, none⟩ (.int .i64 u.c)).setCell ⟨w.heap.size + 1 + 1, 2, none⟩ (.int .i64 u.h)).setCell ⟨w.heap.size + 1 + 1, 3, none⟩ (.int .i64 u.b)).setCell ⟨w.heap.size + 1 + 1, 4, none⟩ (.int .i64 u.p) = wf
      have stf : BvSt w wf bv u := by rw [← hwf]; exact SL.out.setFrom u
      have kf : wf.heap[g]? = some (.cells #[.int .i64 u.r, .int .i64 u.c, .int .i64 u.h, .int .i64 u.b, .int .i64 u.p] 93) := by rw [← hwf]; exact kept_set5 KX.out (by omega) _ _ _ _ _
      clear hwf x0 x1 x2 x3 x4 v0 v1 v2 v3 v4 z0 z1 z2 z3 z4
      obtain ⟨⟨x0, x1, x2, x3, x4⟩, -⟩ := cells5 kf
      obtain ⟨⟨n0, n1, n2, n3, n4⟩, m0, m1, m2, m3, m4⟩ := cells5 stf.best
      have HSET : Hid (BvSt w _ ⟨u.r, u.c, u.h, id, 0⟩ u) := hide (stf.setBest ⟨u.r, u.c, u.h, id, 0⟩)
      clear stf kf
      go_wp2
      go_roundw
      case rel => exact ⟨k + 1, some (u, k), by omega, by go_num, rfl, HE.out, HSET.out⟩
      case measure => simp [intOf]; omega
  ·have hkn : k = n := by omega
   subst hkn
   have HB : Hid (bestOf id l = s) := hide (by unfold bestOf; rw [hsz.out]; exact hs)
   obtain ⟨⟨x0, x1, x2, x3, x4⟩, y0, y1, y2, y3, y4⟩ := cells5 st.best
   obtain ⟨⟨r0, r1, r2, r3, r4⟩, z0, z1, z2, z3, z4⟩ := cells5 st.res
   have ne : ¬ w.heap.size = w.heap.size + 1 := by omega
   have hb := below_set5 st.below (Nat.le_refl w.heap.size) (.int .i64 bv.r) (.int .i64 bv.c) (.int .i64 bv.h) (.int .i64 bv.b) (.int .i64 bv.p)
   clear hs st
   go_wp2
   exact bodyPost_ret (v := .tuple #[.agg #[.int .i64 bv.r, .int .i64 bv.c, .int .i64 bv.h, .int .i64 bv.b, .int .i64 bv.p], .int .i64 (bestP s)]) (by simp [results, Tryz.results167, go_sem, *]) rfl ⟨(by rw [HB.out, ← HBV.out]), hb⟩

abbrev q237 : Oper := ⟨some 34, .move (.tmp 1), 24, "l10_role.go:47", #[], none⟩
abbrev q238 : Oper := ⟨some 35, .move (.tmp 2), 3, "l10_role.go:47", #[], none⟩
abbrev q239 : Oper := ⟨some 36, .indexAddr 24 (.tmp 34) (.tmp 35), 0, "l10_role.go:47", #[⟨0, .data⟩, ⟨1, .data⟩], none⟩
abbrev q240 : Oper := ⟨some 37, .fieldAddr 95 (.tmp 36) 2, 0, "l10_role.go:47", #[⟨2, .data⟩], none⟩
abbrev q241 : Oper := ⟨some 38, .load 4 (.tmp 37), 4, "l10_role.go:47", #[⟨3, .data⟩], none⟩
abbrev q242 : Oper := ⟨some 39, .unOp .not 4 (.tmp 38), 4, "l10_role.go:47", #[⟨4, .data⟩], none⟩
abbrev q243 : Oper := ⟨some 40, .move (.tmp 39), 4, "l10_role.go:47", #[⟨5, .data⟩], none⟩
abbrev q244 : Oper := ⟨some 41, .move (.tmp 0), 3, "l10_role.go:47", #[⟨6, .guard⟩], some (6, false)⟩
abbrev q245 : Oper := ⟨some 42, .move (.tmp 1), 24, "l10_role.go:47", #[⟨6, .guard⟩], some (6, false)⟩
abbrev q246 : Oper := ⟨some 43, .move (.tmp 2), 3, "l10_role.go:47", #[⟨6, .guard⟩], some (6, false)⟩
abbrev q247 : Oper := ⟨some 44, .call ⟨.value (.func 169), #[.tmp 41, .tmp 42, .tmp 43], #[3, 24, 3]⟩, 93, "l10_role.go:47", #[⟨7, .data⟩, ⟨8, .data⟩, ⟨9, .data⟩, ⟨6, .chain⟩, ⟨6, .guard⟩], some (6, false)⟩
abbrev q248 : Oper := ⟨some 45, .move (.tmp 1), 24, "l10_role.go:47", #[⟨6, .guard⟩], some (6, false)⟩
abbrev q249 : Oper := ⟨some 46, .move (.tmp 2), 3, "l10_role.go:47", #[⟨6, .guard⟩], some (6, false)⟩
abbrev q250 : Oper := ⟨some 47, .indexAddr 24 (.tmp 45) (.tmp 46), 0, "l10_role.go:47", #[⟨11, .data⟩, ⟨12, .data⟩, ⟨6, .guard⟩], some (6, false)⟩
abbrev q251 : Oper := ⟨some 48, .fieldAddr 95 (.tmp 47) 3, 0, "l10_role.go:47", #[⟨13, .data⟩, ⟨6, .guard⟩], some (6, false)⟩
abbrev q252 : Oper := ⟨some 49, .load 93 (.tmp 48), 93, "l10_role.go:47", #[⟨14, .data⟩, ⟨6, .guard⟩], some (6, false)⟩
abbrev q253 : Oper := ⟨some 50, .call ⟨.value (.func 168), #[.tmp 44, .tmp 49], #[93, 93]⟩, 4, "l10_role.go:47", #[⟨10, .data⟩, ⟨15, .data⟩, ⟨10, .chain⟩, ⟨6, .guard⟩], some (6, false)⟩
abbrev q254 : Oper := ⟨some 51, .pick (.tmp 40) (.const (.bool true)) (.tmp 50), 4, "l10_role.go:47", #[⟨6, .data⟩, ⟨16, .data⟩], none⟩
abbrev q255 : Oper := ⟨some 33, .assign (.tmp 51), 4, "l10_role.go:47", #[⟨17, .data⟩, ⟨16, .chain⟩], none⟩

set_option maxRecDepth 100000 in
set_option maxHeartbeats 2000000 in
theorem specSayVec_any (id : Int) (a : Option Addr) (n c : Nat) (l : List PT) (port : Int) (w : World) (h : GRow ptF w a n c l) :
  Calls Tryz.prog 169 #[.int .i64 id, .slice a n c, .int .i64 port] w fun e w' => e = .returned (.agg #[.int .i64 (sayV id l port).r, .int .i64 (sayV id l port).c, .int .i64 (sayV id l port).h, .int .i64 (sayV id l port).b, .int .i64 (sayV id l port).p]) ∧ Below w.heap.size w w' := by
 generalize hw1 : w.alloc (Obj.cells #[.int .i64 0, .int .i64 0, .int .i64 0, .int .i64 0, .int .i64 0] 93) = w1
 have q1 : Below w.heap.size w w1 := by rw [← hw1]; exact below_one _ _
 have k1 : w1.heap[w.heap.size]? = some (.cells #[.int .i64 0, .int .i64 0, .int .i64 0, .int .i64 0, .int .i64 0] 93) := by rw [← hw1]; exact block_last _ _
 have hsb : (sayV id l port) = ⟨(bestV id (bestOf id l)).r, (bestV id (bestOf id l)).c, (bestV id (bestOf id l)).h, (bestV id (bestOf id l)).b, port⟩ := by
  unfold sayV
  cases bestOf id l <;> rfl
 rw [hsb]
 clear hsb
 go_enter Tryz.func169, Tryz.ntmps169
 go_wp2_with fail
 refine (specBestVec_any id a n c l _ (h.below q1)).mono ?_
 rintro e w2 ⟨rfl, hb2⟩
 generalize hv : bestV id (bestOf id l) = v
 have HV := hide hv
 clear hv
 generalize hw3 : w2.alloc (Obj.cells #[.int .i64 v.r, .int .i64 v.c, .int .i64 v.h, .int .i64 v.b, .int .i64 v.p] 93) = w3
 have hb3 : Below w2.heap.size w2 w3 := by rw [← hw3]; exact below_one _ _
 have k3 : w3.heap[w2.heap.size]? = some (.cells #[.int .i64 v.r, .int .i64 v.c, .int .i64 v.h, .int .i64 v.b, .int .i64 v.p] 93) := by rw [← hw3]; exact block_last _ _
 have k1 := kept_block (kept_block k1 hb2) hb3
 have lt1 := (Array.getElem?_eq_some_iff.1 (kept_block (by rw [← hw1]; exact block_last _ _ : w1.heap[w.heap.size]? = some (.cells #[.int .i64 0, .int .i64 0, .int .i64 0, .int .i64 0, .int .i64 0] 93)) hb2)).1
 have ne1 : ¬ w2.heap.size = w.heap.size := by omega
 have ne2 : ¬ w.heap.size = w2.heap.size := by omega
 have HB := hide (below_set5 (below_set (gr_trans (gr_trans q1 hb2) hb3) (g := w2.heap.size) (by omega) 4 (.int .i64 port)) (Nat.le_refl w.heap.size) (.int .i64 v.r) (.int .i64 v.c) (.int .i64 v.h) (.int .i64 v.b) (.int .i64 port))
 obtain ⟨⟨x0, x1, x2, x3, x4⟩, y0, y1, y2, y3, y4⟩ := cells5 k3
 obtain ⟨⟨r0, r1, r2, r3, r4⟩, z0, z1, z2, z3, z4⟩ := cells5 k1
 clear hb2 hb3 k1 k3 q1 lt1
 go_wp2
 exact bodyPost_ret (v := .agg #[.int .i64 v.r, .int .i64 v.c, .int .i64 v.h, .int .i64 v.b, .int .i64 port]) (by simp [results, Tryz.results169, go_sem, *]) rfl ⟨(by rw [HV.out]), HB.out⟩

set_option maxRecDepth 100000 in
set_option maxHeartbeats 4000000 in
theorem specRole_any (id : Int) (a : Option Addr) (n c : Nat) (l : List PT) (port : Int) (w : World) (h : GRow ptF w a n c l) :
  Calls Tryz.prog 118 #[.int .i64 id, .slice a n c, .int .i64 port] w fun e w' => e = .returned (.int .i64 (roleOf id l port)) ∧ Below w.heap.size w w' := by
 have hle := h.le
 have htop := h.top
 unfold maxLen at htop
 have hsz := hide h.size
 cases hin : (decide (0 ≤ port) && decide (port ≤ (n : Int) - 1))
 ·have HIN := hide hin
  have HR : Hid (roleOf id l port = 4) := hide (by unfold roleOf; rw [hsz.out, hin]; rfl)
  clear hin
  go_enter Tryz.func118, Tryz.ntmps118
  go_wp2_with fail
  refine (within_any port 0 ((n : Int) - 1) _).mono ?_
  rintro e w1 ⟨rfl, ew⟩
  obtain rfl := ew.symm
  rw [HIN.out]
  go_wp2
  go_ret
  exact ⟨(by rw [HR.out]; rfl), Below.refl _ _⟩
 obtain ⟨k, rfl⟩ : ∃ k : Nat, port = (k : Int) := ⟨port.toNat, by simp at hin; omega⟩
 have hlt : k < n := by simp at hin; omega
 have HIN := hide hin
 have i1 : (0 : Int) ≤ (k : Int) := by omega
 have i2 : (k : Int) < (n : Int) := by omega
 obtain ⟨x, b, off, hx, rfl, c0, c1, c2, c3, c4, c5, c6, c7⟩ := pt_at h k hlt
 have hro : roleOf id l (k : Int) = roleAt id l k x := by
  unfold roleOf
  rw [hsz.out, hin]
  simp [hx]
 have HRO := hide hro
 clear hin hro
 cases hu : x.up
 ·rw [hu] at c0
  have HR : Hid (roleOf id l (k : Int) = 4) := hide (by rw [HRO.out]; unfold roleAt; rw [if_pos hu])
  clear hu c1 c2 c3 c4 c5 c6 c7 hx
  go_enter Tryz.func118, Tryz.ntmps118
  go_wp2_with fail
  refine (within_any (k : Int) 0 ((n : Int) - 1) _).mono ?_
  rintro e w1 ⟨rfl, ew⟩
  obtain rfl := ew.symm
  rw [HIN.out]
  go_wp2
  go_ret
  exact ⟨(by rw [HR.out]; rfl), Below.refl _ _⟩
 rw [hu] at c0
 have HU := hide hu
 clear hu
 by_cases hp : bestP (bestOf id l) = (k : Int)
 ·have HR : Hid (roleOf id l (k : Int) = 1) := hide (by rw [HRO.out]; unfold roleAt; rw [if_neg (by rw [HU.out]; decide), if_pos hp])
  have HP := hide hp
  clear c1 c2 c3 c4 c5 c6 c7 hx hp
  go_enter Tryz.func118, Tryz.ntmps118
  go_wp2_with fail
  refine (within_any (k : Int) 0 ((n : Int) - 1) _).mono ?_
  rintro e w1 ⟨rfl, ew⟩
  obtain rfl := ew.symm
  rw [HIN.out]
  go_wp2_with fail
  refine (specBestVec_any id (some ⟨b, off, none⟩) n c l _ h).mono ?_
  rintro e w2 ⟨rfl, hb2⟩
  rw [HP.out]
  have HB := hide (gr_trans hb2 (below_one _ (Obj.cells #[.int .i64 (bestV id (bestOf id l)).r, .int .i64 (bestV id (bestOf id l)).c, .int .i64 (bestV id (bestOf id l)).h, .int .i64 (bestV id (bestOf id l)).b, .int .i64 (bestV id (bestOf id l)).p] 93)))
  clear hb2 c0
  go_wp2
  go_ret
  exact ⟨(by rw [HR.out]; rfl), HB.out⟩
 go_enter Tryz.func118, Tryz.ntmps118
 go_wp2_with fail
 refine (within_any (k : Int) 0 ((n : Int) - 1) _).mono ?_
 rintro e w1 ⟨rfl, ew⟩
 obtain rfl := ew.symm
 rw [HIN.out]
 go_wp2_with fail
 refine (specBestVec_any id (some ⟨b, off, none⟩) n c l _ h).mono ?_
 rintro e w2 ⟨rfl, hb2⟩
 generalize hw3 : w2.alloc (Obj.cells #[.int .i64 (bestV id (bestOf id l)).r, .int .i64 (bestV id (bestOf id l)).c, .int .i64 (bestV id (bestOf id l)).h, .int .i64 (bestV id (bestOf id l)).b, .int .i64 (bestV id (bestOf id l)).p] 93) = w3
 have HB : Hid (Below w.heap.size w w3) := hide (gr_trans hb2 (by rw [← hw3]; exact below_one _ _))
 clear hb2 c0 c1 c2 c3 c4 c5 c6 c7
 obtain ⟨x', b', off', hx', ha', c0, c1, c2, c3, c4, c5, c6, c7⟩ := pt_at (h.below HB.out) k hlt
 rw [hx] at hx'
 cases hx'
 cases ha'
 generalize hP : bestP (bestOf id l) = P at *
 have hPne : (P == (k : Int)) = false := by simp [hp]
 have HX := hide hx
 have vv : Below w3.heap.size w3 w3.drew := gr_drew (Below.refl _ _)
 have HR0 : Hid (roleOf id l (k : Int) = (if (!x.has || lessV (sayV id l (k : Int)) x.v) = true then 2 else 3)) := hide (by rw [HRO.out]; unfold roleAt; rw [if_neg (by rw [HU.out]; decide), hP, if_neg hp])
 clear c0 c1 hx hP
 cases hh : x.has
 ·rw [hh] at c2
  have HR : Hid (roleOf id l (k : Int) = 2) := hide (by rw [HR0.out, hh]; rfl)
  have HSS : Hid (∀ W', Below w3.heap.size w3 W' → W'.cell? ⟨b, off + k * 8 + 2, none⟩ = some (.bool false) ∧ W'.cell? ⟨b, off + k * 8 + 3, none⟩ = some (.int .i64 x.v.r) ∧ W'.cell? ⟨b, off + k * 8 + 4, none⟩ = some (.int .i64 x.v.c) ∧ W'.cell? ⟨b, off + k * 8 + 5, none⟩ = some (.int .i64 x.v.h) ∧ W'.cell? ⟨b, off + k * 8 + 6, none⟩ = some (.int .i64 x.v.b) ∧ W'.cell? ⟨b, off + k * 8 + 7, none⟩ = some (.int .i64 x.v.p)) := hide (fun W' hb => ⟨(hb.cell (block_lt c2)).trans c2, (hb.cell (block_lt c3)).trans c3, (hb.cell (block_lt c4)).trans c4, (hb.cell (block_lt c5)).trans c5, (hb.cell (block_lt c6)).trans c6, (hb.cell (block_lt c7)).trans c7⟩)
  clear c2 c3 c4 c5 c6 c7 hh
  go_wp2_with fail
  refine wp_region_held_drew (S := (fun W => W.cell? ⟨b, off + k * 8 + 2, none⟩ = some (.bool false) ∧ W.cell? ⟨b, off + k * 8 + 3, none⟩ = some (.int .i64 x.v.r) ∧ W.cell? ⟨b, off + k * 8 + 4, none⟩ = some (.int .i64 x.v.c) ∧ W.cell? ⟨b, off + k * 8 + 5, none⟩ = some (.int .i64 x.v.h) ∧ W.cell? ⟨b, off + k * 8 + 6, none⟩ = some (.int .i64 x.v.b) ∧ W.cell? ⟨b, off + k * 8 + 7, none⟩ = some (.int .i64 x.v.p))) (by kernel_rfl) (HSS.out _ vv) (fun hHeld => ?_)
  refine kK 0 q237 ?_
  refine kK 1 q238 ?_
  refine kK 2 q239 ?_
  refine kK 3 q240 ?_
  refine kK 4 q241 ?_
  refine kK 5 q242 ?_
  refine kK 6 q243 ?_
  refine kN 7 q244 ?_
  refine kN 8 q245 ?_
  refine kN 9 q246 ?_
  refine kN 10 q247 ?_
  refine kN 11 q248 ?_
  refine kN 12 q249 ?_
  refine kN 13 q250 ?_
  refine kN 14 q251 ?_
  refine kN 15 q252 ?_
  refine kN 16 q253 ?_
  refine kK 17 q254 ?_
  refine kK 18 q255 ?_
  refine wpAnyH_done (by kernel_rfl) ?_ _
  clear hHeld
  go_wp2
  go_ret
  exact ⟨(by rw [HR.out]; rfl), gr_trans HB.out vv⟩
 ·rw [hh] at c2
  have HSS : Hid (∀ W', Below w3.heap.size w3 W' → W'.cell? ⟨b, off + k * 8 + 2, none⟩ = some (.bool true) ∧ W'.cell? ⟨b, off + k * 8 + 3, none⟩ = some (.int .i64 x.v.r) ∧ W'.cell? ⟨b, off + k * 8 + 4, none⟩ = some (.int .i64 x.v.c) ∧ W'.cell? ⟨b, off + k * 8 + 5, none⟩ = some (.int .i64 x.v.h) ∧ W'.cell? ⟨b, off + k * 8 + 6, none⟩ = some (.int .i64 x.v.b) ∧ W'.cell? ⟨b, off + k * 8 + 7, none⟩ = some (.int .i64 x.v.p)) := hide (fun W' hb => ⟨(hb.cell (block_lt c2)).trans c2, (hb.cell (block_lt c3)).trans c3, (hb.cell (block_lt c4)).trans c4, (hb.cell (block_lt c5)).trans c5, (hb.cell (block_lt c6)).trans c6, (hb.cell (block_lt c7)).trans c7⟩)
  clear c2 c3 c4 c5 c6 c7
  cases hl : lessV (sayV id l (k : Int)) x.v
  ·have HR : Hid (roleOf id l (k : Int) = 3) := hide (by rw [HR0.out, hh, hl]; rfl)
   have HL : Hid (lessVc (sayV id l (k : Int)).r (sayV id l (k : Int)).c (sayV id l (k : Int)).b (sayV id l (k : Int)).p x.v.r x.v.c x.v.b x.v.p = false) := hide hl
   clear hh hl
   go_wp2_with fail
   refine wp_region_held_drew (S := (fun W => W.cell? ⟨b, off + k * 8 + 2, none⟩ = some (.bool true) ∧ W.cell? ⟨b, off + k * 8 + 3, none⟩ = some (.int .i64 x.v.r) ∧ W.cell? ⟨b, off + k * 8 + 4, none⟩ = some (.int .i64 x.v.c) ∧ W.cell? ⟨b, off + k * 8 + 5, none⟩ = some (.int .i64 x.v.h) ∧ W.cell? ⟨b, off + k * 8 + 6, none⟩ = some (.int .i64 x.v.b) ∧ W.cell? ⟨b, off + k * 8 + 7, none⟩ = some (.int .i64 x.v.p))) (by kernel_rfl) (HSS.out _ vv) (fun hHeld => ?_)
   refine kK 0 q237 ?_
   refine kK 1 q238 ?_
   refine kK 2 q239 ?_
   refine kK 3 q240 ?_
   refine kK 4 q241 ?_
   refine kK 5 q242 ?_
   refine kK 6 q243 ?_
   refine kK 7 q244 ?_
   refine kK 8 q245 ?_
   refine kK 9 q246 ?_
   refine kK 11 q248 ?_
   refine kK 12 q249 ?_
   refine kK 13 q250 ?_
   refine kK 14 q251 ?_
   refine kK 15 q252 ?_
   refine tR [10] ?_
   refine AllReadyH.cons (o := q247) rfl (fun K hK => ?_) ?_
   ·go_simp
    refine (specSayVec_any id (some ⟨b, off, none⟩) n c l (k : Int) _ (h.below (gr_trans HB.out vv))).mono ?_
    rintro e wx ⟨rfl, hbx⟩
    have vv := gr_trans vv hbx
    clear hbx
    go_wp2_with fail
    refine hK.out _ _ (HSS.out _ vv) (fun hHeld => ?_)
    clear hK K
    try simp only [Act.put, lA, lB, lC]
    refine tR [16] ?_
    refine AllReadyH.cons (o := q253) rfl (fun K hK => ?_) ?_
    ·go_simp
     refine (specLessVec_any (sayV id l (k : Int)).r (sayV id l (k : Int)).c (sayV id l (k : Int)).h (sayV id l (k : Int)).b (sayV id l (k : Int)).p x.v.r x.v.c x.v.h x.v.b x.v.p _).mono ?_
     rintro e wx ⟨rfl, hbx⟩
     rw [HL.out]
     have vv := gr_trans vv hbx
     clear hbx
     go_wp2_with fail
     refine hK.out _ _ (HSS.out _ vv) (fun hHeld => ?_)
     clear hK K
     try simp only [Act.put, lA, lB, lC]
     refine kK 17 q254 ?_
     refine kK 18 q255 ?_
     refine wpAnyH_done (by kernel_rfl) ?_ _
     clear hHeld
     go_wp2
     go_ret
     exact ⟨(by rw [HR.out]; rfl), gr_trans HB.out vv⟩
    exact AllReadyH.nil
   exact AllReadyH.nil
  ·have HR : Hid (roleOf id l (k : Int) = 2) := hide (by rw [HR0.out, hh, hl]; rfl)
   have HL : Hid (lessVc (sayV id l (k : Int)).r (sayV id l (k : Int)).c (sayV id l (k : Int)).b (sayV id l (k : Int)).p x.v.r x.v.c x.v.b x.v.p = true) := hide hl
   clear hh hl
   go_wp2_with fail
   refine wp_region_held_drew (S := (fun W => W.cell? ⟨b, off + k * 8 + 2, none⟩ = some (.bool true) ∧ W.cell? ⟨b, off + k * 8 + 3, none⟩ = some (.int .i64 x.v.r) ∧ W.cell? ⟨b, off + k * 8 + 4, none⟩ = some (.int .i64 x.v.c) ∧ W.cell? ⟨b, off + k * 8 + 5, none⟩ = some (.int .i64 x.v.h) ∧ W.cell? ⟨b, off + k * 8 + 6, none⟩ = some (.int .i64 x.v.b) ∧ W.cell? ⟨b, off + k * 8 + 7, none⟩ = some (.int .i64 x.v.p))) (by kernel_rfl) (HSS.out _ vv) (fun hHeld => ?_)
   refine kK 0 q237 ?_
   refine kK 1 q238 ?_
   refine kK 2 q239 ?_
   refine kK 3 q240 ?_
   refine kK 4 q241 ?_
   refine kK 5 q242 ?_
   refine kK 6 q243 ?_
   refine kK 7 q244 ?_
   refine kK 8 q245 ?_
   refine kK 9 q246 ?_
   refine kK 11 q248 ?_
   refine kK 12 q249 ?_
   refine kK 13 q250 ?_
   refine kK 14 q251 ?_
   refine kK 15 q252 ?_
   refine tR [10] ?_
   refine AllReadyH.cons (o := q247) rfl (fun K hK => ?_) ?_
   ·go_simp
    refine (specSayVec_any id (some ⟨b, off, none⟩) n c l (k : Int) _ (h.below (gr_trans HB.out vv))).mono ?_
    rintro e wx ⟨rfl, hbx⟩
    have vv := gr_trans vv hbx
    clear hbx
    go_wp2_with fail
    refine hK.out _ _ (HSS.out _ vv) (fun hHeld => ?_)
    clear hK K
    try simp only [Act.put, lA, lB, lC]
    refine tR [16] ?_
    refine AllReadyH.cons (o := q253) rfl (fun K hK => ?_) ?_
    ·go_simp
     refine (specLessVec_any (sayV id l (k : Int)).r (sayV id l (k : Int)).c (sayV id l (k : Int)).h (sayV id l (k : Int)).b (sayV id l (k : Int)).p x.v.r x.v.c x.v.h x.v.b x.v.p _).mono ?_
     rintro e wx ⟨rfl, hbx⟩
     rw [HL.out]
     have vv := gr_trans vv hbx
     clear hbx
     go_wp2_with fail
     refine hK.out _ _ (HSS.out _ vv) (fun hHeld => ?_)
     clear hK K
     try simp only [Act.put, lA, lB, lC]
     refine kK 17 q254 ?_
     refine kK 18 q255 ?_
     refine wpAnyH_done (by kernel_rfl) ?_ _
     clear hHeld
     go_wp2
     go_ret
     exact ⟨(by rw [HR.out]; rfl), gr_trans HB.out vv⟩
    exact AllReadyH.nil
   exact AllReadyH.nil

set_option maxRecDepth 100000 in
set_option maxHeartbeats 2000000 in
theorem specSends_any (id : Int) (a : Option Addr) (n c : Nat) (l : List PT) (w : World) (h : GRow ptF w a n c l) :
  Calls Tryz.prog 51 #[.int .i64 id, .slice a n c] w fun e w' => e = .returned (.int .i64 (sendsOf id l)) ∧ Below w.heap.size w w' := by
 have hle := h.le
 have htop := h.top
 unfold maxLen at htop
 have hsz := hide h.size
 go_enter Tryz.func51, Tryz.ntmps51
 go_wp2_with fail
 go_loopw [5, 6] (fun s i wr => ∃ k : Nat, k ≤ min n 6 ∧ i = .int .i64 k ∧ s = .int .i64 (sendsTo id l k) ∧ Below w.heap.size w wr) (fun _ i _ => 6 - (intOf i).toNat)
 case atStart => exact ⟨0, Nat.zero_le _, rfl, rfl, Below.refl _ _⟩
 case round =>
  obtain ⟨k, hk, rfl, rfl, hb⟩ := hrel
  have hk6 : k ≤ 6 := by omega
  generalize hS : sendsTo id l k = S
  have HS := hide hS
  clear hS
  by_cases hlt : k < min n 6
  ·have hkn : k < n := by omega
   have hk5 : k < 6 := by omega
   have i1 : (0 : Int) ≤ (k : Int) := by omega
   have i2 : (k : Int) < (n : Int) := by omega
   have i3 : (k : Int) < 6 := by omega
   have hmin : (if (n : Int) ≤ 6 then (n : Int) else 6) = ((min n 6 : Nat) : Int) := by split <;> omega
   have i4 : (k : Int) < ((min n 6 : Nat) : Int) := by omega
   have HB := hide hb
   clear hk hb
   go_wp2_with fail
   refine (specRole_any id a n c l (k : Int) _ (h.below HB.out)).mono ?_
   rintro e w2 ⟨rfl, hb2⟩
   have HB2 := hide (gr_trans HB.out hb2)
   have h14 := role_one (id := id) (l := l) (k : Int)
   clear hb2
   generalize hR : roleOf id l (k : Int) = R at *
   have HR := hide hR
   clear hR
   by_cases hr : R ≤ 2
   ·have HN : Hid (sendsTo id l (k + 1) = bits .or .i64 S (2 ^ k)) := hide (by rw [sendsTo, HR.out, if_pos hr, HS.out])
    have hw2 : wrap64 (2 ^ k) = 2 ^ k := by
     rcases (show k = 0 ∨ k = 1 ∨ k = 2 ∨ k = 3 ∨ k = 4 ∨ k = 5 by omega) with rfl | rfl | rfl | rfl | rfl | rfl <;> exact Go.IntWalk.wrap64_in _ (by decide)
    have HW2 := hide hw2
    clear hw2
    go_wp2
    rw [HW2.out]
    go_roundw
    case rel => exact ⟨k + 1, by omega, by go_num, by rw [HN.out], HB2.out⟩
    case measure => simp [intOf]; omega
   ·have HN : Hid (sendsTo id l (k + 1) = S) := hide (by rw [sendsTo, HR.out, if_neg hr, HS.out])
    go_wp2
    go_roundw
    case rel => exact ⟨k + 1, by omega, by go_num, by rw [HN.out], HB2.out⟩
    case measure => simp [intOf]; omega
  ·have hkn : k = min n 6 := by omega
   have HK : Hid (sendsOf id l = S) := hide (by unfold sendsOf; rw [hsz.out, ← hkn]; exact HS.out)
   have hend : ¬ ((k : Int) < (n : Int) ∧ (k : Int) < 6) := by omega
   go_wp2
   all_goals go_ret
   all_goals exact ⟨(by rw [HK.out]; rfl), hb⟩

def strB (S : ByteArray) : List Int := S.data.toList.map fun b => (b.toNat : Int)

def byB (zs : List Int) : ByteArray := ⟨(zs.map fun z => UInt8.ofNat z.toNat).toArray⟩

theorem byte_back {z : Int} (h : 0 ≤ z ∧ z ≤ 255) : ((UInt8.ofNat z.toNat).toNat : Int) = z := by
 rw [UInt8.toNat_ofNat']
 omega

theorem strB_byB {zs : List Int} (h : Byt zs) : strB (byB zs) = zs := by
 show ((zs.map fun z => UInt8.ofNat z.toNat).toArray.toList).map (fun b => (b.toNat : Int)) = zs
 rw [List.toList_toArray, List.map_map]
 conv => rhs; rw [← List.map_id zs]
 exact List.map_congr_left (fun z hz => byte_back (h z hz))

theorem conv_row (dst : TypeId) (w : World) (ao : Option Addr) (l c : Nat) (zs : List Int) (h : Row w ao l c zs) (hd : Tryz.prog.underlying dst = some .string) : (convert 22 dst (.slice ao l c)).run Tryz.prog w = .ok (.string (byB zs)) w := by
 have hl : (zs.map fun z => UInt8.ofNat z.toNat).length = l := by rw [List.length_map]; exact h.size
 rcases ao with _ | a
 ·obtain ⟨rfl, rfl⟩ := h.none_zero rfl
  have hz : zs = [] := List.eq_nil_of_length_eq_zero h.size
  subst hz
  rw [run_convert_bytes_string w 22 dst 5 none 0 0 Tryz.underlying22 Tryz.underlying5 hd]
  rfl
 ·have := run_convert_bytes_back (P := Tryz.prog) w 22 dst 5 a c (zs.map fun z => UInt8.ofNat z.toNat) Tryz.underlying22 Tryz.underlying5 hd (by
   intro j hj
   have hj' : j < zs.length := by simpa using hj
   rw [h.news a rfl j _ (cB_get zs j hj')]
   have hb := getD_byte h.byte j
   have e : (zs.map fun z => UInt8.ofNat z.toNat)[j] = UInt8.ofNat (zs.getD j 0).toNat := by simp [List.getD_eq_getElem?_getD, hj']
   rw [e, byte_back hb])
  rw [hl] at this
  exact this

theorem okF_is (K N S : Int) (n : Nat) : okF K N S n = ((decide (0 ≤ K) && decide (K ≤ 9999)) && ((decide (1 ≤ N) && decide (N ≤ 9999)) && ((decide (0 ≤ S) && decide (S ≤ 99)) && decide ((n : Int) ≤ 20)))) := by
 unfold okF
 have e1 : ∀ a x b : Int, decide (a ≤ x ∧ x ≤ b) = (decide (a ≤ x) && decide (x ≤ b)) := fun a x b => by rw [Bool.eq_iff_iff]; simp
 have e2 : decide (n ≤ 20) = decide ((n : Int) ≤ 20) := by rw [Bool.eq_iff_iff]; simp; omega
 rw [e1, e1, e1, e2]

set_option maxRecDepth 100000 in
set_option maxHeartbeats 2000000 in
theorem specFrameOk_any (K N S : Int) (a1 : Option Addr) (l1 c1 : Nat) (z1 : List Int) (w : World) (h1 : Row w a1 l1 c1 z1) :
  Calls Tryz.prog 50 #[.agg #[.int .i64 K, .int .i64 N, .int .i64 S, .slice a1 l1 c1]] w fun e w' => e = .returned (.bool (okF K N S l1)) ∧ Below w.heap.size w w' := by
 have hl := Nat.le_trans h1.le h1.top
 unfold maxLen at hl
 generalize hP : okF K N S l1 = P
 rw [okF_is] at hP
 cases t1 : (decide (0 ≤ K) && decide (K ≤ 9999))
 ·have e : P = false := by rw [← hP, t1]; rfl
  subst e
  have T1 := hide t1
  clear hP h1 t1
  go_enter Tryz.func50, Tryz.ntmps50
  go_wp2_with fail
  refine (within_any K 0 9999 _).mono ?_
  rintro e w1 ⟨rfl, rfl⟩
  rw [T1.out]
  go_wp2
  go_ret
  exact ⟨rfl, below_one _ _⟩
 cases t2 : (decide (1 ≤ N) && decide (N ≤ 9999))
 ·have e : P = false := by rw [← hP, t1, t2]; rfl
  subst e
  have T1 := hide t1
  have T2 := hide t2
  clear hP h1 t1 t2
  go_enter Tryz.func50, Tryz.ntmps50
  go_wp2_with fail
  refine (within_any K 0 9999 _).mono ?_
  rintro e w1 ⟨rfl, rfl⟩
  rw [T1.out]
  go_wp2_with fail
  refine (within_any N 1 9999 _).mono ?_
  rintro e w2 ⟨rfl, rfl⟩
  rw [T2.out]
  go_wp2
  go_ret
  exact ⟨rfl, below_one _ _⟩
 cases t3 : (decide (0 ≤ S) && decide (S ≤ 99))
 ·have e : P = false := by rw [← hP, t1, t2, t3]; rfl
  subst e
  have T1 := hide t1
  have T2 := hide t2
  have T3 := hide t3
  clear hP h1 t1 t2 t3
  go_enter Tryz.func50, Tryz.ntmps50
  go_wp2_with fail
  refine (within_any K 0 9999 _).mono ?_
  rintro e w1 ⟨rfl, rfl⟩
  rw [T1.out]
  go_wp2_with fail
  refine (within_any N 1 9999 _).mono ?_
  rintro e w2 ⟨rfl, rfl⟩
  rw [T2.out]
  go_wp2_with fail
  refine (within_any S 0 99 _).mono ?_
  rintro e w3 ⟨rfl, rfl⟩
  rw [T3.out]
  go_wp2
  go_ret
  exact ⟨rfl, below_one _ _⟩
 rw [t1, t2, t3, Bool.true_and, Bool.true_and, Bool.true_and] at hP
 have HP := hide hP
 have T1 := hide t1
 have T2 := hide t2
 have T3 := hide t3
 clear hP h1 t1 t2 t3
 go_enter Tryz.func50, Tryz.ntmps50
 go_wp2_with fail
 refine (within_any K 0 9999 _).mono ?_
 rintro e w1 ⟨rfl, rfl⟩
 rw [T1.out]
 go_wp2_with fail
 refine (within_any N 1 9999 _).mono ?_
 rintro e w2 ⟨rfl, rfl⟩
 rw [T2.out]
 go_wp2_with fail
 refine (within_any S 0 99 _).mono ?_
 rintro e w3 ⟨rfl, rfl⟩
 rw [T3.out]
 go_wp2
 go_ret
 exact ⟨ret_bool HP.out, below_one _ _⟩

theorem pieces0_made (a1 : Option Addr) (l1 c1 : Nat) (z1 : List Int) (w : World) (h1 : Row w a1 l1 c1 z1) (hs : l1 ≤ 16000000) :
  Calls Tryz.prog 163 #[.slice a1 l1 c1, .slice none 0 0] w fun e w' => ∃ ao cap, e = .returned (.slice ao l1 cap) ∧ w'.ownsRow w.heap.size 5 1 (.slice ao l1 cap) l1 (cB z1) ∧ Below w.heap.size w w' := by
 refine (pieces_any a1 l1 c1 z1 _ _ _ [] _ h1 (pieces_none _) (by simp [tot]; omega)).mono ?_
 rintro e w1 ⟨rfl, ho, hb⟩
 have et : tot [] 0 = 0 := by simp [tot]
 have ef : flat [] 0 = [] := by simp [flat]
 rw [et, ef, List.append_nil, Nat.add_zero] at ho
 rw [et, Nat.add_zero]
 exact ⟨_, _, rfl, ho, hb⟩

set_option maxRecDepth 100000 in
set_option maxHeartbeats 1000000 in
theorem implTagged_made (K N S : Int) (a1 : Option Addr) (l1 c1 : Nat) (z1 : List Int) (g : Int) (w : World) (h1 : Row w a1 l1 c1 z1) (hs : l1 ≤ 16000000) :
  Calls Tryz.prog 114 #[.agg #[.int .i64 K, .int .i64 N, .int .i64 S, .slice a1 l1 c1], .int .i64 g] w fun e w' => ∃ ao cap, e = .returned (.agg #[.int .i64 K, .int .i64 N, .int .i64 g, .slice ao l1 cap]) ∧
   w'.ownsRow w.heap.size 5 1 (.slice ao l1 cap) l1 (cB z1) ∧ Row w' ao l1 cap z1 ∧ Below w.heap.size w w' := by
 go_enter Tryz.func114, Tryz.ntmps114
 go_wp2_with fail
 refine (pieces0_made a1 l1 c1 z1 _ (h1.below (below_two _ _ _)) hs).mono ?_
 rintro e w1 ⟨ao1, cp1, rfl, ho, hb⟩
 obtain ⟨k0, k1⟩ := kept_two hb
 obtain ⟨⟨p0, p1, p2, p3⟩, f0, f1, f2, f3⟩ := cells4 k0
 obtain ⟨⟨q0, q1, q2, q3⟩, g0, g1, g2, g3⟩ := cells4 k1
 have b1 : Below w.heap.size w w1 := (below_two w _ _).trans (hb.mono (below_two w _ _).size)
 have ho' := own_lt ho (base' := w.heap.size + 1 + 1) (by simp)
 have hby := h1.byte
 have HB := hide b1
 have HO := hide ho'
 clear k0 k1 hb ho ho' b1 h1
 go_wp2
 have o5 := own_set (own_set (own_set (own_set (own_set HO.out (g := w.heap.size) (j := 3) (u := .slice ao1 l1 cp1) (by omega)) (g := w.heap.size + 1) (j := 0) (u := .int .i64 K) (by omega)) (g := w.heap.size + 1) (j := 1) (u := .int .i64 N) (by omega)) (g := w.heap.size + 1) (j := 2) (u := .int .i64 g) (by omega)) (g := w.heap.size + 1) (j := 3) (u := .slice ao1 l1 cp1) (by omega)
 refine bodyPost_ret (v := .agg #[.int .i64 K, .int .i64 N, .int .i64 g, .slice ao1 l1 cp1]) (by simp [results, Tryz.results114, go_sem, *]) rfl ⟨_, _, rfl, own_lt o5 (by omega), row_own o5 hby, ?_⟩
 exact below_set (below_set (below_set (below_set (below_set HB.out (by omega) _ _) (by omega) _ _) (by omega) _ _) (by omega) _ _) (by omega) _ _

set_option maxRecDepth 100000 in
set_option maxHeartbeats 400000 in
theorem numbersOf_any (R C H B P : Int) (w : World) :
  Calls Tryz.prog 196 #[.agg #[.int .i64 R, .int .i64 C, .int .i64 H, .int .i64 B, .int .i64 P]] w fun e w' => e = .returned (.agg #[.int .i64 R, .int .i64 C, .int .i64 H, .int .i64 B, .int .i64 P]) ∧ Below w.heap.size w w' := by
 go_enter Tryz.func196, Tryz.ntmps196
 go_wp2
 exact bodyPost_ret (v := .agg #[.int .i64 R, .int .i64 C, .int .i64 H, .int .i64 B, .int .i64 P]) (by simp [results, Tryz.results196, go_sem, *]) rfl ⟨rfl, below_two _ _ _⟩

set_option maxRecDepth 100000 in
set_option maxHeartbeats 400000 in
theorem numbersOf_at (R C H B P : Int) (w : World) :
  Calls Tryz.prog 196 #[.agg #[.int .i64 R, .int .i64 C, .int .i64 H, .int .i64 B, .int .i64 P]] w fun e w' => e = .returned (.agg #[.int .i64 R, .int .i64 C, .int .i64 H, .int .i64 B, .int .i64 P]) ∧
   w' = (w.alloc (.cells #[.int .i64 R, .int .i64 C, .int .i64 H, .int .i64 B, .int .i64 P] 93)).alloc (.cells #[.int .i64 R, .int .i64 C, .int .i64 H, .int .i64 B, .int .i64 P] 102) := by
 go_enter Tryz.func196, Tryz.ntmps196
 go_wp2
 exact bodyPost_ret (v := .agg #[.int .i64 R, .int .i64 C, .int .i64 H, .int .i64 B, .int .i64 P]) (by simp [results, Tryz.results196, go_sem, *]) rfl ⟨rfl, rfl⟩

set_option maxRecDepth 100000 in
set_option maxHeartbeats 400000 in
theorem vecOf_any (R C H B P : Int) (w : World) :
  Calls Tryz.prog 197 #[.agg #[.int .i64 R, .int .i64 C, .int .i64 H, .int .i64 B, .int .i64 P]] w fun e w' => e = .returned (.agg #[.int .i64 R, .int .i64 C, .int .i64 H, .int .i64 B, .int .i64 P]) ∧ Below w.heap.size w w' := by
 go_enter Tryz.func197, Tryz.ntmps197
 go_wp2
 exact bodyPost_ret (v := .agg #[.int .i64 R, .int .i64 C, .int .i64 H, .int .i64 B, .int .i64 P]) (by simp [results, Tryz.results197, go_sem, *]) rfl ⟨rfl, below_two _ _ _⟩

theorem index5_0 (R C H B P : Int) (w : World) : (Instr.index 102 (.agg #[.int .i64 R, .int .i64 C, .int .i64 H, .int .i64 B, .int .i64 P]) (.int .i64 0)).run Tryz.prog w = .ok (.int .i64 R) w := by kernel_rfl
theorem index5_1 (R C H B P : Int) (w : World) : (Instr.index 102 (.agg #[.int .i64 R, .int .i64 C, .int .i64 H, .int .i64 B, .int .i64 P]) (.int .i64 1)).run Tryz.prog w = .ok (.int .i64 C) w := by kernel_rfl
theorem index5_2 (R C H B P : Int) (w : World) : (Instr.index 102 (.agg #[.int .i64 R, .int .i64 C, .int .i64 H, .int .i64 B, .int .i64 P]) (.int .i64 2)).run Tryz.prog w = .ok (.int .i64 H) w := by kernel_rfl
theorem index5_3 (R C H B P : Int) (w : World) : (Instr.index 102 (.agg #[.int .i64 R, .int .i64 C, .int .i64 H, .int .i64 B, .int .i64 P]) (.int .i64 3)).run Tryz.prog w = .ok (.int .i64 B) w := by kernel_rfl
theorem index5_4 (R C H B P : Int) (w : World) : (Instr.index 102 (.agg #[.int .i64 R, .int .i64 C, .int .i64 H, .int .i64 B, .int .i64 P]) (.int .i64 4)).run Tryz.prog w = .ok (.int .i64 P) w := by kernel_rfl

end Go.Proofs.YtddalpglihhipaaGreat
