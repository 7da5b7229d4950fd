/-
  Packed: NetRows StepOwn StepSay StepHear StepSays StepSaid StepMath.
-/
import Derived.Test.YtpgdahenmpkcnaaGreatPAKW
import Derived.Test.YtpgdahenmpkcnaaGreatPABrStepI
import Derived.Test.YtpgdahenmpkcnaaGreatPABrStepS
import Derived.Test.YtpgdahenmpkcnaaGreatPAK01
import Derived.Test.YtpgdahenmpkcnaaGreatPAK02
import Derived.Test.YtpgdahenmpkcnaaGreatPAK07
import Derived.Test.YtpgdahenmpkcnaaGreatPAK15
import Derived.Test.YtpgdahenmpkcnaaGreatPAK16
import Derived.Test.YtpgdahenmpkcnaaGreatPAK23
import Derived.Test.YtpgdahenmpkcnaaGreatPAK25
import Derived.Test.YtpgdahenmpkcnaaGreatPANetOkT
import Derived.Deep.RegionHeld3
import Derived.Deep.CutRange
namespace Go.Proofs.YtpgdahenmpkcnaaGreat
open Go.RowKit

theorem BOs.boxed {w w' : World} {base : Nat} {ao : Option Addr} {n cap : Nat} {l : List BV} (h : BOs w base ao n cap l) {X : Nat} {cs : Array Value} (hX : w.heap[X]? = some (.cells cs 34)) (hg : w.grownBy w' (some X)) : BOs w' base ao n cap l :=
 ⟨gown_other h.row hg (box_ne h.row hX (by decide)), fun x hx => (h.item x hx).other hX (by decide) (by decide) (by decide) (by decide) hg, h.apart⟩

theorem bridge_over {w : World} {base g n cap j : Nat} {pre post : List BV} {x : BV} (y : BV) (hj : pre.length = j) (h : w.ownsRow base 67 11 (.slice (some ⟨g, 0, none⟩) n cap) n (brF.all (pre ++ x :: post))) {K : World → Prop} (hK : ∀ wq, wq.ownsRow base 67 11 (.slice (some ⟨g, 0, none⟩) n cap) n (brF.all (pre ++ y :: post)) → w.grownBy wq (some g) → K wq) :
  K (((((((((((w.setCell ⟨g, j * 11, none⟩ (.int .i64 y.B.id)).setCell ⟨g, j * 11 + 1, none⟩ (.string y.B.name)).setCell ⟨g, j * 11 + 2, none⟩ (.slice y.a y.n y.c)).setCell ⟨g, j * 11 + 3, none⟩ (.slice y.fa y.fn y.fc)).setCell ⟨g, j * 11 + 4, none⟩ (.slice y.ra y.rn y.rc)).setCell ⟨g, j * 11 + 5, none⟩ (.slice y.oa y.on y.oc)).setCell ⟨g, j * 11 + 6, none⟩ (.int .i64 y.B.ticks)).setCell ⟨g, j * 11 + 7, none⟩ (.int .i64 y.B.parse)).setCell ⟨g, j * 11 + 8, none⟩ (.int .i64 y.B.word)).setCell ⟨g, j * 11 + 9, none⟩ (.int .i64 y.B.drops)).setCell ⟨g, j * 11 + 10, none⟩ (.int .i64 y.B.vers)) := by
 subst hj
 exact hK _ (bridge_put h) bridge_puts

set_option maxRecDepth 100000 in
set_option maxHeartbeats 1000000 in
theorem cloneL_any (ao : Option Addr) (n cap : Nat) (l : List LK) (w : World) (h : GRow linkF w ao n cap l) (hn : n ≤ 16777216) :
  Calls Tryz.prog 70 #[.slice ao n cap] w fun r w' => ∃ ao' cap', r = .returned (.slice ao' n cap') ∧ w'.ownsRow w.heap.size 110 4 (.slice ao' n cap') n (linkF.all l) ∧ Below w.heap.size w w' := by
 cases ao with
 | none =>
  have hc0 := h.nil rfl
  have hn0 : n = 0 := by have := h.le; omega
  subst hc0 hn0
  have hl : l = [] := List.eq_nil_of_length_eq_zero h.size
  subst hl
  have heq : ∀ W, (binOp .eql 31 (.slice none 0 0) (.slice none 0 0)).run Tryz.prog W = .ok (.bool true) W := fun _ => by kernel_rfl
  go_enter Tryz.func70, Tryz.ntmps70
  go_wp2
  go_ret
  exact ⟨none, 0, rfl, World.ownsRow_nil _ _ _ _, Below.refl _ _⟩
 | some a =>
  have heq : ∀ W, (binOp .eql 31 (.slice (some a) n cap) (.slice none 0 0)).run Tryz.prog W = .ok (.bool false) W := fun _ => by kernel_rfl
  go_enter Tryz.func70, Tryz.ntmps70
  go_wp2_with (at_builtin; refine wpList_append_flat (F := linkF) _ rfl _ _ 31 110 rfl w.heap.size Tryz.underlying31 linkInfo rfl (by decide) _ 0 [] rfl (flat_nil linkF w _ 110 w.heap.size (block_last w _) (Nat.le_refl _)) (some a) n cap l rfl (h.below (below_one _ _)) (by omega) (by simp) ?_)
  intro ao' cap' w' how hr hgr hb
  have how : w'.ownsRow w.heap.size 110 4 (.slice ao' n cap') n (linkF.all l) := how
  have HO := hide how
  have HB := hide ((below_one w _).trans hb)
  clear how hgr hb hr
  go_wp2
  go_ret
  exact ⟨ao', cap', (by simp), HO.out, HB.out⟩

theorem made_set3 {W : World} {X : Nat} {c0 c1 c2 : Value} {T : TypeId} {K : World → Prop} (hk : W.heap[X]? = some (.cells #[c0, c1, c2] T)) (v0 v1 v2 : Value) (h : ∀ wq, wq.heap[X]? = some (.cells #[v0, v1, v2] T) → W.grownBy wq (some X) → K wq) : K (((W.setCell ⟨X, 0, none⟩ v0).setCell ⟨X, 1, none⟩ v1).setCell ⟨X, 2, none⟩ v2) := by
 refine h _ ?_ (grownTr (grownTr (grown_set 0 _) (grown_set 1 _)) (grown_set 2 _))
 have h0 := set_block5 (j := 0) hk v0
 have h1 := set_block5 (j := 1) h0 v1
 have h2 := set_block5 (j := 2) h1 v2
 simpa using h2

structure NOwn (w : World) (base : Nat) (M : NV) : Prop where
 b : BOs w base M.ba M.bn M.bc M.bs
 l : w.ownsRow base 110 4 (.slice M.la M.ln M.lc) M.ln (linkF.all M.ls)
 s : w.ownsRow base 99 7 (.slice M.sa M.sn M.sc) M.sn (sayF.all M.ss)

theorem NetOwn.all {w : World} {base : Nat} {M : NV} (h : NetOwn w base M) : NOwn w base M :=
 ⟨h.b, h.l, by rw [h.s.1, h.s.2.1, h.s.2.2.1, h.s.2.2.2]; exact World.ownsRow_nil _ _ _ _⟩
theorem NOwn.row {w : World} {base : Nat} {M : NV} (h : NOwn w base M) : NetRow w M :=
 ⟨h.b.grow, fun x hx => (h.b.item x hx).row, grow_own (F := linkF) h.l, grow_own (F := sayF) h.s⟩
theorem NOwn.below {w w' : World} {base : Nat} {M : NV} (h : NOwn w base M) (hb : Below w.heap.size w w') : NOwn w' base M := ⟨h.b.below hb, gown_below h.l hb, gown_below h.s hb⟩
theorem NOwn.lt {w : World} {base base' : Nat} {M : NV} (h : NOwn w base M) (hb : base' ≤ base) : NOwn w base' M := ⟨h.b.lt hb, gown_lt h.l hb, gown_lt h.s hb⟩
theorem NOwn.boxed {w w' : World} {base : Nat} {M : NV} (h : NOwn w base M) {X : Nat} {cs : Array Value} (hX : w.heap[X]? = some (.cells cs 34)) (hg : w.grownBy w' (some X)) : NOwn w' base M :=
 ⟨h.b.boxed hX hg, gown_other h.l hg (box_ne h.l hX (by decide)), gown_other h.s hg (box_ne h.s hX (by decide))⟩
theorem NOwn.rows {w w' : World} {base : Nat} {M : NV} (h : NOwn w base M) (hg : w.grownBy w' (Value.slice M.ba M.bn M.bc).ownBlock) {ba : Option Addr} {bn bc : Nat} {bs : List BV} (hb : BOs w' base ba bn bc bs) : NOwn w' base { M with ba := ba, bn := bn, bc := bc, bs := bs } :=
 ⟨hb, gown_type h.l h.b.row (by decide) hg, gown_type h.s h.b.row (by decide) hg⟩

structure NcSt (w wr : World) (N : NV) (X : Nat) (M : NV) : Prop where
 src : wr.heap[w.heap.size]? = some (.cells #[.slice N.ba N.bn N.bc, .slice N.la N.ln N.lc, .slice N.sa N.sn N.sc] 34)
 res : wr.heap[w.heap.size + 1]? = some (.cells #[.slice none 0 0, .slice none 0 0, .slice none 0 0] 34)
 box : wr.heap[X]? = some (.cells #[.slice M.ba M.bn M.bc, .slice M.la M.ln M.lc, .slice M.sa M.sn M.sc] 34)
 own : NOwn wr (w.heap.size + 2) M
 below : Below w.heap.size w wr
 lt : w.heap.size + 1 < X

theorem NcSt.size {w wr : World} {N : NV} {X : Nat} {M : NV} (h : NcSt w wr N X M) : w.heap.size + 2 ≤ wr.heap.size := blk_lt h.res

theorem NcSt.push {w wr : World} {N : NV} {X : Nat} {M : NV} (h : NcSt w wr N X M) {w1 w2 : World} (hb : Below wr.heap.size wr w1) {y : BV} (hy : y.Own w1 wr.heap.size) (hg : w1.grownBy w2 (Value.slice M.ba M.bn M.bc).ownBlock) {ao' : Option Addr} {cap' : Nat} (hr : w2.ownsRow (w.heap.size + 2) 67 11 (.slice ao' (M.bn + 1) cap') (M.bn + 1) (brF.all (M.bs ++ [y]))) :
  w2.heap[X]? = some (.cells #[.slice M.ba M.bn M.bc, .slice M.la M.ln M.lc, .slice M.sa M.sn M.sc] 34) ∧ Below w.heap.size w w2 ∧ NcSt w (w2.setCell ⟨X, 0, none⟩ (.slice ao' (M.bn + 1) cap')) N X { M with ba := ao', bn := M.bn + 1, bc := cap', bs := M.bs ++ [y] } := by
 have hp := h.own.b.push hb hy h.size hg hr
 have ho := (h.own.below hb).rows hg hp
 have hrw := (h.own.b.below hb).row
 have k1 := kept_grown (kept_block h.box hb) hg (fun k hk => box_ne hrw (kept_block h.box hb) (by decide) k hk)
 have k2 := kept_grown (kept_block h.res hb) hg (fun k hk => box_ne hrw (kept_block h.res hb) (by decide) k hk)
 have k3 := kept_grown (kept_block h.src hb) hg (fun k hk => box_ne hrw (kept_block h.src hb) (by decide) k hk)
 have b1 := gr_trans h.below hb
 have b2 := b1.grown hg b1.size (by intro k hk; have := (hrw.lt k hk).1; omega)
 have hgx : w2.grownBy (w2.setCell ⟨X, 0, none⟩ (.slice ao' (M.bn + 1) cap')) (some X) := grown_set 0 _
 have hlt := h.lt
 refine ⟨k1, b2, kept_grown k3 hgx (by intro k e; cases e; omega), kept_grown k2 hgx (by intro k e; cases e; omega), ?_, ho.boxed k1 hgx, b2.grown hgx b2.size (by intro k e; cases e; omega), hlt⟩
 have := set_block5 (j := 0) k1 (.slice ao' (M.bn + 1) cap')
 simpa using this

theorem flat_empty {α : Type} (F : Flat α) {W : World} {base b : Nat} {T : TypeId} (h : W.heap[b]? = some (.cells #[] T)) (hb : base ≤ b) : W.ownsRow base T F.k (.slice (some ⟨b, 0, none⟩) 0 0) 0 (F.all []) :=
 ⟨by simp [Flat.all], .inr ⟨b, 0, #[], rfl, hb, h, Nat.le_refl _, Nat.zero_le _, by simp, by simp [Flat.all]⟩⟩

structure NbSt (w : World) (base X : Nat) (M : NV) : Prop where
 box : w.heap[X]? = some (.cells #[.slice M.ba M.bn M.bc, .slice M.la M.ln M.lc, .slice M.sa M.sn M.sc] 34)
 own : NOwn w base M
 le : base ≤ X

theorem NbSt.later {w w' : World} {base X : Nat} {M : NV} (h : NbSt w base X M) (hb : Below w.heap.size w w') : NbSt w' base X M := ⟨kept_block h.box hb, h.own.below hb, h.le⟩
theorem NbSt.size {w : World} {base X : Nat} {M : NV} (h : NbSt w base X M) : base ≤ w.heap.size := by have h1 := blk_lt h.box; have h2 := h.le; omega

theorem NbSt.put {w w1 w2 : World} {base X g : Nat} {M : NV} {pre post : List BV} {x y : BV} (h : NbSt w base X M) (hba : M.ba = some ⟨g, 0, none⟩) (hbs : M.bs = pre ++ x :: post) (hb : Below w.heap.size w w1) (hy : y.Own w1 w.heap.size) (hg : w1.grownBy w2 (some g)) (hr : w2.ownsRow base 67 11 (.slice (some ⟨g, 0, none⟩) M.bn M.bc) M.bn (brF.all (pre ++ y :: post))) :
  NbSt w2 base X { M with bs := pre ++ y :: post } ∧ Below base w w2 := by
 have ob : BOs w base (some ⟨g, 0, none⟩) M.bn M.bc (pre ++ x :: post) := by have := h.own.b; rw [hba, hbs] at this; exact this
 have hp := ob.put hb hy h.size hg hr
 have hrw := (ob.below hb).row
 have k1 := kept_grown (kept_block h.box hb) hg (fun k hk => box_ne hrw (kept_block h.box hb) (by decide) k hk)
 have ol := gown_type (gown_below h.own.l hb) hrw (by decide) (v2 := .slice (some ⟨g, 0, none⟩) M.bn M.bc) hg
 have os := gown_type (gown_below h.own.s hb) hrw (by decide) (v2 := .slice (some ⟨g, 0, none⟩) M.bn M.bc) hg
 have b1 : Below base w w1 := hb.mono h.size
 refine ⟨⟨k1, ⟨by rw [hba]; exact hp, ol, os⟩, h.le⟩, b1.grown hg (Nat.le_trans h.size hb.size) (by intro k e; cases e; exact (ob.row.lt g rfl).1)⟩

def BV.Small20 (x : BV) : Prop := x.n ≤ 1048576 ∧ x.fn ≤ 1048576 ∧ x.rn ≤ 1048576 ∧ x.on ≤ 1048576

theorem made_set5 {W : World} {X : Nat} {c0 c1 c2 c3 c4 : Value} {T : TypeId} {K : World → Prop} (hk : W.heap[X]? = some (.cells #[c0, c1, c2, c3, c4] T)) (v0 v1 v2 v3 v4 : Value) (h : ∀ wq, wq.heap[X]? = some (.cells #[v0, v1, v2, v3, v4] T) → W.grownBy wq (some X) → K wq) : K (((((W.setCell ⟨X, 0, none⟩ v0).setCell ⟨X, 1, none⟩ v1).setCell ⟨X, 2, none⟩ v2).setCell ⟨X, 3, none⟩ v3).setCell ⟨X, 4, none⟩ v4) := by
 refine h _ ?_ (grownTr (grownTr (grownTr (grownTr (grown_set 0 _) (grown_set 1 _)) (grown_set 2 _)) (grown_set 3 _)) (grown_set 4 _))
 have h0 := set_block5 (j := 0) hk v0
 have h1 := set_block5 (j := 1) h0 v1
 have h2 := set_block5 (j := 2) h1 v2
 have h3 := set_block5 (j := 3) h2 v3
 have h4 := set_block5 (j := 4) h3 v4
 simpa using h4

set_option maxRecDepth 100000 in
set_option maxHeartbeats 8000000 in
theorem say14_fwd (N : NV) (k i : Nat) (x : LK) (y : BV) (w : World) (h : NetRow w N) (hx : N.ls[k]? = some x) (hy0 : N.bs[i]? = some y) (hi : x.a = (i : Int)) :
  Calls Tryz.prog 54 #[.agg #[.slice N.ba N.bn N.bc, .slice N.la N.ln N.lc, .slice N.sa N.sn N.sc], .int .i64 (k : Int), .bool false] w fun e w' => e = .returned (.agg #[.int .i64 (sayV y.B.id y.B.ports x.p).r, .int .i64 (sayV y.B.id y.B.ports x.p).c, .int .i64 (sayV y.B.id y.B.ports x.p).h, .int .i64 (sayV y.B.id y.B.ports x.p).b, .int .i64 (sayV y.B.id y.B.ports x.p).p]) ∧ Below w.heap.size w w' := by
 have hk : k < N.ln := by have := (List.getElem?_eq_some_iff.1 hx).1; have := h.l.size; omega
 have hib : i < N.bn := by have := (List.getElem?_eq_some_iff.1 hy0).1; have := h.b.size; omega
 generalize hw1 : w.alloc (Obj.cells #[.slice N.ba N.bn N.bc, .slice N.la N.ln N.lc, .slice N.sa N.sn N.sc] 34) = w1
 generalize hw2 : w1.alloc (Obj.cells #[.int .i64 0, .int .i64 0, .int .i64 0, .int .i64 0, .int .i64 0] 95) = w2
 have b01 : Below w.heap.size w w1 := by rw [← hw1]; exact below_one _ _
 have b12 : Below w1.heap.size w1 w2 := by rw [← hw2]; exact below_one _ _
 have b02 := gr_trans b01 b12
 have kP : w2.heap[w.heap.size]? = some (.cells #[.slice N.ba N.bn N.bc, .slice N.la N.ln N.lc, .slice N.sa N.sn N.sc] 34) := kept_block (by rw [← hw1]; exact block_last _ _) b12
 have kJ : w2.heap[w1.heap.size]? = some (.cells #[.int .i64 0, .int .i64 0, .int .i64 0, .int .i64 0, .int .i64 0] 95) := by rw [← hw2]; exact block_last _ _
 have HZ1 : Hid (w1.heap.size = w.heap.size + 1) := hide (by rw [← hw1]; simp)
 have HZ2 : Hid (w2.heap.size = w.heap.size + 2) := hide (by rw [← hw2, ← hw1]; simp)
 obtain ⟨x', lb, lo, hx', hla, a0, a1, a2, a3⟩ := link_at (h.l.below b02) k hk
 rw [hx] at hx'
 cases hx'
 obtain ⟨y', bb, off, hy', hba, -⟩ := br_at h.b i hib
 rw [hy0] at hy'
 cases hy'
 have hy := h.item y (List.mem_of_getElem? hy0)
 have hG : GRow brF w (some ⟨bb, off, none⟩) N.bn N.bc N.bs := by rw [← hba]; exact h.b
 have HBC : Hid (∀ W, Below w.heap.size w W → W.cell? ⟨bb, off + i * 11, none⟩ = some (.int .i64 y.B.id) ∧ W.cell? ⟨bb, off + i * 11 + 2, none⟩ = some (.slice y.a y.n y.c)) := hide (fun W hW => by have := bridge_later hG hW hy0; exact ⟨this.1, this.2.2.1⟩)
 have HBA := hide hba
 obtain ⟨x0, x1, x2⟩ := cells3m kP
 rw [hla] at x1
 have i1 : (0 : Int) ≤ (k : Int) := by omega
 have i2 : (k : Int) < (N.ln : Int) := by omega
 have i3 : (0 : Int) ≤ (i : Int) := by omega
 have i4 : (i : Int) < (N.bn : Int) := by omega
 clear hla hba hx hy0 hG
 go_enter Tryz.func54, Tryz.ntmps54
 obtain ⟨xa, xp, xb, xq⟩ := x
 dsimp only at hi a0 a1 a2 a3 ⊢
 subst hi
 go_upto_region 4 with fail
 generalize hw3 : w2.alloc (Obj.cells #[.int .i64 (i : Int), .int .i64 xp, .int .i64 xb, .int .i64 xq] 110) = w3
 have b23 : Below w2.heap.size w2 w3 := by rw [← hw3]; exact below_one _ _
 have kL : w3.heap[w2.heap.size]? = some (.cells #[.int .i64 (i : Int), .int .i64 xp, .int .i64 xb, .int .i64 xq] 110) := by rw [← hw3]; exact block_last _ _
 have kP := kept_block kP b23
 have kJ := kept_block kJ b23
 have b3 := gr_trans b02 b23
 have vv : Below w3.heap.size w3 w3.drew := gr_drew (Below.refl _ _)
 clear hw3 b23 x0 x1 x2 a0 a1 a2 a3
 refine wp_region_held_drew (S := (fun W => (W.cell? ⟨w.heap.size, 0, none⟩ = some (.slice (some ⟨bb, off, none⟩) N.bn N.bc) ∧ W.cell? ⟨w.heap.size, 1, none⟩ = some (.slice N.la N.ln N.lc) ∧ W.cell? ⟨w.heap.size, 2, none⟩ = some (.slice N.sa N.sn N.sc)) ∧ (W.cell? ⟨w2.heap.size, 0, none⟩ = some (.int .i64 (i : Int)) ∧ W.cell? ⟨w2.heap.size, 1, none⟩ = some (.int .i64 xp) ∧ W.cell? ⟨w2.heap.size, 2, none⟩ = some (.int .i64 xb) ∧ W.cell? ⟨w2.heap.size, 3, none⟩ = some (.int .i64 xq)) ∧ (W.cell? ⟨bb, off + i * 11, none⟩ = some (.int .i64 y.B.id) ∧ W.cell? ⟨bb, off + i * 11 + 2, none⟩ = some (.slice y.a y.n y.c)))) (by kernel_rfl) (⟨by have := cells3m (kept_block kP vv); rw [HBA.out] at this; exact this, cells4n (kept_block kL vv), (HBC.out _ (gr_trans b3 vv)).1, (HBC.out _ (gr_trans b3 vv)).2⟩) (fun hHeld => ?_)
 refine kK 0 ⟨some 31, .fieldAddr 34 (.tmp 3) 0, 0, "l14_step.go:11", #[], none⟩ ?_
 refine kK 1 ⟨some 32, .load 30 (.tmp 31), 30, "l14_step.go:11", #[⟨0, .data⟩], none⟩ ?_
 refine kK 2 ⟨some 33, .fieldAddr 110 (.tmp 7) 0, 0, "l14_step.go:11", #[], none⟩ ?_
 refine kK 3 ⟨some 34, .load 3 (.tmp 33), 3, "l14_step.go:11", #[⟨2, .data⟩], none⟩ ?_
 refine kK 4 ⟨some 35, .indexAddr 30 (.tmp 32) (.tmp 34), 0, "l14_step.go:11", #[⟨1, .data⟩, ⟨3, .data⟩], none⟩ ?_
 refine kK 5 ⟨some 36, .fieldAddr 67 (.tmp 35) 0, 0, "l14_step.go:11", #[⟨4, .data⟩], none⟩ ?_
 refine kK 6 ⟨some 37, .load 3 (.tmp 36), 3, "l14_step.go:11", #[⟨5, .data⟩], none⟩ ?_
 refine kK 7 ⟨some 38, .fieldAddr 34 (.tmp 3) 0, 0, "l14_step.go:11", #[], none⟩ ?_
 refine kK 8 ⟨some 39, .load 30 (.tmp 38), 30, "l14_step.go:11", #[⟨7, .data⟩], none⟩ ?_
 refine kK 9 ⟨some 40, .fieldAddr 110 (.tmp 7) 0, 0, "l14_step.go:11", #[], none⟩ ?_
 refine kK 10 ⟨some 41, .load 3 (.tmp 40), 3, "l14_step.go:11", #[⟨9, .data⟩], none⟩ ?_
 refine kK 11 ⟨some 42, .indexAddr 30 (.tmp 39) (.tmp 41), 0, "l14_step.go:11", #[⟨8, .data⟩, ⟨10, .data⟩], none⟩ ?_
 refine kK 12 ⟨some 43, .fieldAddr 67 (.tmp 42) 2, 0, "l14_step.go:11", #[⟨11, .data⟩], none⟩ ?_
 refine kK 13 ⟨some 44, .load 60 (.tmp 43), 60, "l14_step.go:11", #[⟨12, .data⟩], none⟩ ?_
 refine kK 14 ⟨some 45, .fieldAddr 110 (.tmp 7) 1, 0, "l14_step.go:11", #[], none⟩ ?_
 refine kK 15 ⟨some 46, .load 3 (.tmp 45), 3, "l14_step.go:11", #[⟨14, .data⟩], none⟩ ?_
 refine kR 16 ⟨some 47, .call ⟨.value (.func 101), #[.tmp 37, .tmp 44, .tmp 46], #[3, 60, 3]⟩, 95, "l14_step.go:11", #[⟨6, .data⟩, ⟨13, .data⟩, ⟨15, .data⟩], none⟩ (fun K hK => ?_)
 go_simp
 refine (specSayVec_any y.B.id y.a y.n y.c y.B.ports xp _ (hy.ports.below (gr_trans b3 vv))).mono ?_
 rintro e wz ⟨rfl, hbz⟩
 have vv := gr_trans vv hbz
 generalize hSV : sayV y.B.id y.B.ports xp = SV at *
 go_wp2_with fail
 refine hK.out _ _ (⟨by have := cells3m (kept_block kP vv); rw [HBA.out] at this; exact this, cells4n (kept_block kL vv), (HBC.out _ (gr_trans b3 vv)).1, (HBC.out _ (gr_trans b3 vv)).2⟩) (fun hHeld => ?_)
 clear hK K
 try simp only [Act.put, lA, lB, lC]
 refine kR 17 ⟨none, .store 95 (.tmp 6) (.tmp 47), 0, "l14_step.go:11", #[⟨16, .data⟩, ⟨16, .chain⟩, ⟨0, .phase⟩, ⟨1, .phase⟩, ⟨2, .phase⟩, ⟨3, .phase⟩, ⟨4, .phase⟩, ⟨5, .phase⟩, ⟨6, .phase⟩, ⟨7, .phase⟩, ⟨8, .phase⟩, ⟨9, .phase⟩, ⟨10, .phase⟩, ⟨11, .phase⟩, ⟨12, .phase⟩, ⟨13, .phase⟩, ⟨14, .phase⟩, ⟨15, .phase⟩, ⟨16, .phase⟩], none⟩ (fun K hK => ?_)
 obtain ⟨xx0, xx1, xx2, xx3, xx4⟩ := (cells5 (kept_block kJ vv)).1
 have ff := frozen8 (kept_block kJ vv)
 have ff0 := ff 0
 have ff1 := ff 1
 have ff2 := ff 2
 have ff3 := ff 3
 have ff4 := ff 4
 clear ff
 go_simp
 refine made_set5 (K := K _) (kept_block kJ vv) _ _ _ _ _ (fun wq kQ hgq => ?_)
 have vq := (gr_trans b3 vv).grown hgq (gr_trans b3 vv).size (by intro j e; cases e; have := HZ1.out; omega)
 have kPq := kept_grown (kept_block kP vv) hgq (by intro j e; cases e; have := HZ1.out; omega)
 have kLq := kept_grown (kept_block kL vv) hgq (by intro j e; cases e; have := HZ1.out; have := HZ2.out; omega)
 refine hK.out _ _ (⟨by have := cells3m kPq; rw [HBA.out] at this; exact this, cells4n kLq, (HBC.out _ vq).1, (HBC.out _ vq).2⟩) (fun hHeld => ?_)
 clear hK K
 try simp only [Act.put, lA, lB, lC]
 refine wpAnyH_done (by kernel_rfl) ?_ _
 have HB := hide vq
 have HQ := hide kQ
 obtain ⟨⟨r0, r1, r2, r3, r4⟩, -⟩ := cells5 kQ
 clear hHeld kPq kLq vq kQ hgq
 go_wp2
 exact bodyPost_ret (v := .agg #[.int .i64 SV.r, .int .i64 SV.c, .int .i64 SV.h, .int .i64 SV.b, .int .i64 SV.p]) (by simp [results, Tryz.results54, go_sem, *]) rfl ⟨by rw [hSV], HB.out⟩

set_option maxRecDepth 100000 in
set_option maxHeartbeats 8000000 in
theorem say14_back (N : NV) (k i : Nat) (x : LK) (y : BV) (w : World) (h : NetRow w N) (hx : N.ls[k]? = some x) (hy0 : N.bs[i]? = some y) (hi : x.b = (i : Int)) :
  Calls Tryz.prog 54 #[.agg #[.slice N.ba N.bn N.bc, .slice N.la N.ln N.lc, .slice N.sa N.sn N.sc], .int .i64 (k : Int), .bool true] w fun e w' => e = .returned (.agg #[.int .i64 (sayV y.B.id y.B.ports x.q).r, .int .i64 (sayV y.B.id y.B.ports x.q).c, .int .i64 (sayV y.B.id y.B.ports x.q).h, .int .i64 (sayV y.B.id y.B.ports x.q).b, .int .i64 (sayV y.B.id y.B.ports x.q).p]) ∧ Below w.heap.size w w' := by
 have hk : k < N.ln := by have := (List.getElem?_eq_some_iff.1 hx).1; have := h.l.size; omega
 have hib : i < N.bn := by have := (List.getElem?_eq_some_iff.1 hy0).1; have := h.b.size; omega
 generalize hw1 : w.alloc (Obj.cells #[.slice N.ba N.bn N.bc, .slice N.la N.ln N.lc, .slice N.sa N.sn N.sc] 34) = w1
 generalize hw2 : w1.alloc (Obj.cells #[.int .i64 0, .int .i64 0, .int .i64 0, .int .i64 0, .int .i64 0] 95) = w2
 have b01 : Below w.heap.size w w1 := by rw [← hw1]; exact below_one _ _
 have b12 : Below w1.heap.size w1 w2 := by rw [← hw2]; exact below_one _ _
 have b02 := gr_trans b01 b12
 have kP : w2.heap[w.heap.size]? = some (.cells #[.slice N.ba N.bn N.bc, .slice N.la N.ln N.lc, .slice N.sa N.sn N.sc] 34) := kept_block (by rw [← hw1]; exact block_last _ _) b12
 have kJ : w2.heap[w1.heap.size]? = some (.cells #[.int .i64 0, .int .i64 0, .int .i64 0, .int .i64 0, .int .i64 0] 95) := by rw [← hw2]; exact block_last _ _
 have HZ1 : Hid (w1.heap.size = w.heap.size + 1) := hide (by rw [← hw1]; simp)
 have HZ2 : Hid (w2.heap.size = w.heap.size + 2) := hide (by rw [← hw2, ← hw1]; simp)
 obtain ⟨x', lb, lo, hx', hla, a0, a1, a2, a3⟩ := link_at (h.l.below b02) k hk
 rw [hx] at hx'
 cases hx'
 obtain ⟨y', bb, off, hy', hba, -⟩ := br_at h.b i hib
 rw [hy0] at hy'
 cases hy'
 have hy := h.item y (List.mem_of_getElem? hy0)
 have hG : GRow brF w (some ⟨bb, off, none⟩) N.bn N.bc N.bs := by rw [← hba]; exact h.b
 have HBC : Hid (∀ W, Below w.heap.size w W → W.cell? ⟨bb, off + i * 11, none⟩ = some (.int .i64 y.B.id) ∧ W.cell? ⟨bb, off + i * 11 + 2, none⟩ = some (.slice y.a y.n y.c)) := hide (fun W hW => by have := bridge_later hG hW hy0; exact ⟨this.1, this.2.2.1⟩)
 have HBA := hide hba
 obtain ⟨x0, x1, x2⟩ := cells3m kP
 rw [hla] at x1
 have i1 : (0 : Int) ≤ (k : Int) := by omega
 have i2 : (k : Int) < (N.ln : Int) := by omega
 have i3 : (0 : Int) ≤ (i : Int) := by omega
 have i4 : (i : Int) < (N.bn : Int) := by omega
 clear hla hba hx hy0 hG
 go_enter Tryz.func54, Tryz.ntmps54
 obtain ⟨xa, xp, xb, xq⟩ := x
 dsimp only at hi a0 a1 a2 a3 ⊢
 subst hi
 go_upto_region 3 with fail
 generalize hw3 : w2.alloc (Obj.cells #[.int .i64 xa, .int .i64 xp, .int .i64 (i : Int), .int .i64 xq] 110) = w3
 have b23 : Below w2.heap.size w2 w3 := by rw [← hw3]; exact below_one _ _
 have kL : w3.heap[w2.heap.size]? = some (.cells #[.int .i64 xa, .int .i64 xp, .int .i64 (i : Int), .int .i64 xq] 110) := by rw [← hw3]; exact block_last _ _
 have kP := kept_block kP b23
 have kJ := kept_block kJ b23
 have b3 := gr_trans b02 b23
 have vv : Below w3.heap.size w3 w3.drew := gr_drew (Below.refl _ _)
 clear hw3 b23 x0 x1 x2 a0 a1 a2 a3
 refine wp_region_held_drew (S := (fun W => (W.cell? ⟨w.heap.size, 0, none⟩ = some (.slice (some ⟨bb, off, none⟩) N.bn N.bc) ∧ W.cell? ⟨w.heap.size, 1, none⟩ = some (.slice N.la N.ln N.lc) ∧ W.cell? ⟨w.heap.size, 2, none⟩ = some (.slice N.sa N.sn N.sc)) ∧ (W.cell? ⟨w2.heap.size, 0, none⟩ = some (.int .i64 xa) ∧ W.cell? ⟨w2.heap.size, 1, none⟩ = some (.int .i64 xp) ∧ W.cell? ⟨w2.heap.size, 2, none⟩ = some (.int .i64 (i : Int)) ∧ W.cell? ⟨w2.heap.size, 3, none⟩ = some (.int .i64 xq)) ∧ (W.cell? ⟨bb, off + i * 11, none⟩ = some (.int .i64 y.B.id) ∧ W.cell? ⟨bb, off + i * 11 + 2, none⟩ = some (.slice y.a y.n y.c)))) (by kernel_rfl) (⟨by have := cells3m (kept_block kP vv); rw [HBA.out] at this; exact this, cells4n (kept_block kL vv), (HBC.out _ (gr_trans b3 vv)).1, (HBC.out _ (gr_trans b3 vv)).2⟩) (fun hHeld => ?_)
 refine kK 0 ⟨some 14, .fieldAddr 34 (.tmp 3) 0, 0, "l14_step.go:9", #[], none⟩ ?_
 refine kK 1 ⟨some 15, .load 30 (.tmp 14), 30, "l14_step.go:9", #[⟨0, .data⟩], none⟩ ?_
 refine kK 2 ⟨some 16, .fieldAddr 110 (.tmp 7) 2, 0, "l14_step.go:9", #[], none⟩ ?_
 refine kK 3 ⟨some 17, .load 3 (.tmp 16), 3, "l14_step.go:9", #[⟨2, .data⟩], none⟩ ?_
 refine kK 4 ⟨some 18, .indexAddr 30 (.tmp 15) (.tmp 17), 0, "l14_step.go:9", #[⟨1, .data⟩, ⟨3, .data⟩], none⟩ ?_
 refine kK 5 ⟨some 19, .fieldAddr 67 (.tmp 18) 0, 0, "l14_step.go:9", #[⟨4, .data⟩], none⟩ ?_
 refine kK 6 ⟨some 20, .load 3 (.tmp 19), 3, "l14_step.go:9", #[⟨5, .data⟩], none⟩ ?_
 refine kK 7 ⟨some 21, .fieldAddr 34 (.tmp 3) 0, 0, "l14_step.go:9", #[], none⟩ ?_
 refine kK 8 ⟨some 22, .load 30 (.tmp 21), 30, "l14_step.go:9", #[⟨7, .data⟩], none⟩ ?_
 refine kK 9 ⟨some 23, .fieldAddr 110 (.tmp 7) 2, 0, "l14_step.go:9", #[], none⟩ ?_
 refine kK 10 ⟨some 24, .load 3 (.tmp 23), 3, "l14_step.go:9", #[⟨9, .data⟩], none⟩ ?_
 refine kK 11 ⟨some 25, .indexAddr 30 (.tmp 22) (.tmp 24), 0, "l14_step.go:9", #[⟨8, .data⟩, ⟨10, .data⟩], none⟩ ?_
 refine kK 12 ⟨some 26, .fieldAddr 67 (.tmp 25) 2, 0, "l14_step.go:9", #[⟨11, .data⟩], none⟩ ?_
 refine kK 13 ⟨some 27, .load 60 (.tmp 26), 60, "l14_step.go:9", #[⟨12, .data⟩], none⟩ ?_
 refine kK 14 ⟨some 28, .fieldAddr 110 (.tmp 7) 3, 0, "l14_step.go:9", #[], none⟩ ?_
 refine kK 15 ⟨some 29, .load 3 (.tmp 28), 3, "l14_step.go:9", #[⟨14, .data⟩], none⟩ ?_
 refine kR 16 ⟨some 30, .call ⟨.value (.func 101), #[.tmp 20, .tmp 27, .tmp 29], #[3, 60, 3]⟩, 95, "l14_step.go:9", #[⟨6, .data⟩, ⟨13, .data⟩, ⟨15, .data⟩], none⟩ (fun K hK => ?_)
 go_simp
 refine (specSayVec_any y.B.id y.a y.n y.c y.B.ports xq _ (hy.ports.below (gr_trans b3 vv))).mono ?_
 rintro e wz ⟨rfl, hbz⟩
 have vv := gr_trans vv hbz
 generalize hSV : sayV y.B.id y.B.ports xq = SV at *
 go_wp2_with fail
 refine hK.out _ _ (⟨by have := cells3m (kept_block kP vv); rw [HBA.out] at this; exact this, cells4n (kept_block kL vv), (HBC.out _ (gr_trans b3 vv)).1, (HBC.out _ (gr_trans b3 vv)).2⟩) (fun hHeld => ?_)
 clear hK K
 try simp only [Act.put, lA, lB, lC]
 refine kR 17 ⟨none, .store 95 (.tmp 6) (.tmp 30), 0, "l14_step.go:9", #[⟨16, .data⟩, ⟨16, .chain⟩, ⟨0, .phase⟩, ⟨1, .phase⟩, ⟨2, .phase⟩, ⟨3, .phase⟩, ⟨4, .phase⟩, ⟨5, .phase⟩, ⟨6, .phase⟩, ⟨7, .phase⟩, ⟨8, .phase⟩, ⟨9, .phase⟩, ⟨10, .phase⟩, ⟨11, .phase⟩, ⟨12, .phase⟩, ⟨13, .phase⟩, ⟨14, .phase⟩, ⟨15, .phase⟩, ⟨16, .phase⟩], none⟩ (fun K hK => ?_)
 obtain ⟨xx0, xx1, xx2, xx3, xx4⟩ := (cells5 (kept_block kJ vv)).1
 have ff := frozen8 (kept_block kJ vv)
 have ff0 := ff 0
 have ff1 := ff 1
 have ff2 := ff 2
 have ff3 := ff 3
 have ff4 := ff 4
 clear ff
 go_simp
 refine made_set5 (K := K _) (kept_block kJ vv) _ _ _ _ _ (fun wq kQ hgq => ?_)
 have vq := (gr_trans b3 vv).grown hgq (gr_trans b3 vv).size (by intro j e; cases e; have := HZ1.out; omega)
 have kPq := kept_grown (kept_block kP vv) hgq (by intro j e; cases e; have := HZ1.out; omega)
 have kLq := kept_grown (kept_block kL vv) hgq (by intro j e; cases e; have := HZ1.out; have := HZ2.out; omega)
 refine hK.out _ _ (⟨by have := cells3m kPq; rw [HBA.out] at this; exact this, cells4n kLq, (HBC.out _ vq).1, (HBC.out _ vq).2⟩) (fun hHeld => ?_)
 clear hK K
 try simp only [Act.put, lA, lB, lC]
 refine wpAnyH_done (by kernel_rfl) ?_ _
 have HB := hide vq
 have HQ := hide kQ
 obtain ⟨⟨r0, r1, r2, r3, r4⟩, -⟩ := cells5 kQ
 clear hHeld kPq kLq vq kQ hgq
 go_wp2
 exact bodyPost_ret (v := .agg #[.int .i64 SV.r, .int .i64 SV.c, .int .i64 SV.h, .int .i64 SV.b, .int .i64 SV.p]) (by simp [results, Tryz.results54, go_sem, *]) rfl ⟨by rw [hSV], HB.out⟩

theorem split_at {α : Type} {l : List α} {k : Nat} {x : α} (hx : l[k]? = some x) : ∃ pre post, l = pre ++ x :: post ∧ pre.length = k ∧ ∀ y, l.set k y = pre ++ y :: post := by
 obtain ⟨hk, rfl⟩ := List.getElem?_eq_some_iff.1 hx
 refine ⟨l.take k, l.drop (k + 1), ?_, ?_, ?_⟩
 ·rw [← List.drop_eq_getElem_cons hk, List.take_append_drop]
 ·rw [List.length_take]; omega
 ·intro y; rw [List.set_eq_take_append_cons_drop, if_pos hk]

set_option maxRecDepth 100000 in
set_option maxHeartbeats 8000000 in
theorem hear14_back (M : NV) (base X k i : Nat) (x : LK) (y : BV) (v : VD) (w : World) (h : NbSt w base X M) (hx : M.ls[k]? = some x) (hy0 : M.bs[i]? = some y) (hi : x.a = (i : Int)) (hsm : y.Small20) :
  Calls Tryz.prog 53 #[.pointer (some ⟨X, 0, none⟩), .int .i64 (k : Int), .bool true, .agg #[.int .i64 v.r, .int .i64 v.c, .int .i64 v.h, .int .i64 v.b, .int .i64 v.p]] w fun e w' => e = .returned (.tuple #[]) ∧ ∃ y2 : BV, y2.B = hearB y.B x.p v ∧ NbSt w' base X { M with bs := M.bs.set i y2 } ∧ Below base w w' := by
 obtain ⟨ba, bn, bc, bs, la, ln, lc, ls, sa, sn, sc, ss⟩ := M
 obtain ⟨xa, xp, xb, xq⟩ := x
 dsimp only at hx hy0 hi ⊢
 subst hi
 have hk : k < ln := by have h1 := (List.getElem?_eq_some_iff.1 hx).1; have h2 : ls.length = ln := h.own.row.l.size; omega
 have hib : i < bn := by have h1 := (List.getElem?_eq_some_iff.1 hy0).1; have h2 : bs.length = bn := h.own.b.grow.size; omega
 obtain ⟨g, hg⟩ : ∃ g, ba = some ⟨g, 0, none⟩ := own_some h.own.b.row (show 0 < bn by omega)
 subst hg
 obtain ⟨pre, post, hsp, hpl, hset⟩ := split_at hy0
 have HSET := hide hset
 have HPL := hide hpl
 subst hsp
 have HG : Hid (g < w.heap.size) := hide (h.own.b.row.lt g rfl).2
 have HAT : Hid ((pre ++ y :: post)[i]? = some y) := hide hy0
 have HSM := hide hsm
 clear hset hpl hy0 hsm
 generalize hw1 : w.alloc (Obj.cells #[.int .i64 v.r, .int .i64 v.c, .int .i64 v.h, .int .i64 v.b, .int .i64 v.p] 95) = w1
 have b01 : Below w.heap.size w w1 := by rw [← hw1]; exact below_one _ _
 have kE : w1.heap[w.heap.size]? = some (.cells #[.int .i64 v.r, .int .i64 v.c, .int .i64 v.h, .int .i64 v.b, .int .i64 v.p] 95) := by rw [← hw1]; exact block_last _ _
 have HZ1 : Hid (w1.heap.size = w.heap.size + 1) := hide (by rw [← hw1]; simp)
 have st := h.later b01
 have HB0 := hide (b01.mono h.size)
 clear h b01
 obtain ⟨x', lb, lo, hx', hla, a0, a1, a2, a3⟩ := link_at st.own.row.l k hk
 dsimp only at hx' hla
 rw [hx] at hx'
 cases hx'
 subst hla
 obtain ⟨x0, x1, x2⟩ := cells3m st.box
 have i1 : (0 : Int) ≤ (k : Int) := by omega
 have i2 : (k : Int) < (ln : Int) := by omega
 have i3 : (0 : Int) ≤ (i : Int) := by omega
 have i4 : (i : Int) < (bn : Int) := by omega
 clear hx
 dsimp only at a0 a1 a2 a3 x0 x1 x2
 go_enter Tryz.func53, Tryz.ntmps53
 go_upto_region 3 with fail
 generalize hw2 : w1.alloc (Obj.cells #[.int .i64 (i : Int), .int .i64 xp, .int .i64 xb, .int .i64 xq] 110) = w2
 have b12 : Below w1.heap.size w1 w2 := by rw [← hw2]; exact below_one _ _
 have kL : w2.heap[w1.heap.size]? = some (.cells #[.int .i64 (i : Int), .int .i64 xp, .int .i64 xb, .int .i64 xq] 110) := by rw [← hw2]; exact block_last _ _
 have kE := kept_block kE b12
 have HB2 := hide (HB0.out.trans (b12.mono st.size))
 have st := st.later b12
 have vv : Below w2.heap.size w2 w2.drew := gr_drew (Below.refl _ _)
 have kX := kept_block st.box vv
 have kL := kept_block kL vv
 have kE := kept_block kE vv
 have hyr := (st.own.b.item y (by simp)).row
 obtain ⟨⟨ca0, ca1, ca2, ca3, ca4, ca5, ca6, ca7, ca8, ca9, ca10⟩, -⟩ := bridge_cells (st.own.b.below vv).row HAT.out
 clear hw1 hw2 b12 x0 x1 x2 a0 a1 a2 a3 HB0
 refine wp_region_held_drew (S := (fun W => (W.cell? ⟨X, 0, none⟩ = some (.slice (some ⟨g, 0, none⟩) bn bc) ∧ W.cell? ⟨X, 1, none⟩ = some (.slice (some ⟨lb, lo, none⟩) ln lc) ∧ W.cell? ⟨X, 2, none⟩ = some (.slice sa sn sc)) ∧ (W.cell? ⟨w1.heap.size, 0, none⟩ = some (.int .i64 (i : Int)) ∧ W.cell? ⟨w1.heap.size, 1, none⟩ = some (.int .i64 xp) ∧ W.cell? ⟨w1.heap.size, 2, none⟩ = some (.int .i64 xb) ∧ W.cell? ⟨w1.heap.size, 3, none⟩ = some (.int .i64 xq)) ∧ (W.cell? ⟨w.heap.size, 0, none⟩ = some (.int .i64 v.r) ∧ W.cell? ⟨w.heap.size, 1, none⟩ = some (.int .i64 v.c) ∧ W.cell? ⟨w.heap.size, 2, none⟩ = some (.int .i64 v.h) ∧ W.cell? ⟨w.heap.size, 3, none⟩ = some (.int .i64 v.b) ∧ W.cell? ⟨w.heap.size, 4, none⟩ = some (.int .i64 v.p)))) (by kernel_rfl) (⟨cells3m kX, cells4n kL, (cells5 kE).1⟩) (fun hHeld => ?_)
 refine kK 0 ⟨some 17, .move (.tmp 0), 70, "l14_step.go:18", #[], none⟩ ?_
 refine kK 1 ⟨some 18, .nilCheck (.tmp 17), 0, "l14_step.go:18", #[⟨0, .data⟩], none⟩ ?_
 refine kK 2 ⟨some 19, .fieldAddr 34 (.tmp 18) 0, 0, "l14_step.go:18", #[⟨1, .data⟩], none⟩ ?_
 refine kK 3 ⟨some 20, .load 30 (.tmp 19), 30, "l14_step.go:18", #[⟨2, .data⟩], none⟩ ?_
 refine kK 4 ⟨some 21, .fieldAddr 110 (.tmp 8) 0, 0, "l14_step.go:18", #[], none⟩ ?_
 refine kK 5 ⟨some 22, .load 3 (.tmp 21), 3, "l14_step.go:18", #[⟨4, .data⟩], none⟩ ?_
 refine kK 6 ⟨some 23, .move (.tmp 0), 70, "l14_step.go:18", #[], none⟩ ?_
 refine kK 7 ⟨some 24, .nilCheck (.tmp 23), 0, "l14_step.go:18", #[⟨6, .data⟩], none⟩ ?_
 refine kK 8 ⟨some 25, .fieldAddr 34 (.tmp 24) 0, 0, "l14_step.go:18", #[⟨7, .data⟩], none⟩ ?_
 refine kK 9 ⟨some 26, .load 30 (.tmp 25), 30, "l14_step.go:18", #[⟨8, .data⟩], none⟩ ?_
 refine kK 10 ⟨some 27, .fieldAddr 110 (.tmp 8) 0, 0, "l14_step.go:18", #[], none⟩ ?_
 refine kK 11 ⟨some 28, .load 3 (.tmp 27), 3, "l14_step.go:18", #[⟨10, .data⟩], none⟩ ?_
 refine kK 12 ⟨some 29, .indexAddr 30 (.tmp 26) (.tmp 28), 0, "l14_step.go:18", #[⟨9, .data⟩, ⟨11, .data⟩], none⟩ ?_
 refine kK 14 ⟨some 31, .fieldAddr 110 (.tmp 8) 1, 0, "l14_step.go:18", #[], none⟩ ?_
 refine kK 15 ⟨some 32, .load 3 (.tmp 31), 3, "l14_step.go:18", #[⟨14, .data⟩], none⟩ ?_
 refine kK 16 ⟨some 33, .load 95 (.tmp 7), 95, "l14_step.go:18", #[], none⟩ ?_
 refine kR 13 ⟨some 30, .load 67 (.tmp 29), 67, "l14_step.go:18", #[⟨12, .data⟩], none⟩ (fun K hK => ?_)
 go_simp
 refine hK.out _ _ (⟨cells3m kX, cells4n kL, (cells5 kE).1⟩) (fun hHeld => ?_)
 clear hK K
 try simp only [Act.put, lA, lB, lC]
 refine kR 17 ⟨some 34, .call ⟨.value (.func 100), #[.tmp 30, .tmp 32, .tmp 33], #[67, 3, 95]⟩, 67, "l14_step.go:18", #[⟨13, .data⟩, ⟨15, .data⟩, ⟨16, .data⟩], none⟩ (fun K hK => ?_)
 go_simp
 refine (specHear_made y.a y.n y.c y.fa y.fn y.fc y.ra y.rn y.rc y.oa y.on y.oc y.B xp v _ ((hyr).below vv) HSM.out.1 HSM.out.2.1 HSM.out.2.2.1 HSM.out.2.2.2).mono ?_
 rintro e wz ⟨a2, n2, c2, fa2, fn2, fc2, ra2, rn2, rc2, oa2, on2, oc2, rfl, ow2, hbz⟩
 have ow2 := BrOwn.lt ow2 (base' := w2.heap.size) vv.size
 have vv := gr_trans vv hbz
 have kX := kept_block st.box vv
 have kL := kept_block kL hbz
 have kE := kept_block kE hbz
 have hrow := (st.own.b.below vv).row
 obtain ⟨⟨t0, t1, t2, t3, t4, t5, t6, t7, t8, t9, t10⟩, f0, f1, f2, f3, f4, f5, f6, f7, f8, f9, f10⟩ := bridge_cells hrow HAT.out
 go_wp2_with fail
 refine hK.out _ _ (⟨cells3m kX, cells4n kL, (cells5 kE).1⟩) (fun hHeld => ?_)
 clear hK K
 try simp only [Act.put, lA, lB, lC]
 refine kK 18 ⟨some 35, .indexAddr 30 (.tmp 20) (.tmp 22), 0, "l14_step.go:18", #[⟨3, .data⟩, ⟨5, .data⟩, ⟨0, .phase⟩, ⟨1, .phase⟩, ⟨2, .phase⟩, ⟨3, .phase⟩, ⟨4, .phase⟩, ⟨5, .phase⟩, ⟨6, .phase⟩, ⟨7, .phase⟩, ⟨8, .phase⟩, ⟨9, .phase⟩, ⟨10, .phase⟩, ⟨11, .phase⟩, ⟨12, .phase⟩, ⟨13, .phase⟩, ⟨14, .phase⟩, ⟨15, .phase⟩, ⟨16, .phase⟩, ⟨17, .phase⟩], none⟩ ?_
 refine kR 19 ⟨none, .store 67 (.tmp 35) (.tmp 34), 0, "l14_step.go:18", #[⟨18, .data⟩, ⟨17, .data⟩, ⟨17, .chain⟩, ⟨0, .phase⟩, ⟨1, .phase⟩, ⟨2, .phase⟩, ⟨3, .phase⟩, ⟨4, .phase⟩, ⟨5, .phase⟩, ⟨6, .phase⟩, ⟨7, .phase⟩, ⟨8, .phase⟩, ⟨9, .phase⟩, ⟨10, .phase⟩, ⟨11, .phase⟩, ⟨12, .phase⟩, ⟨13, .phase⟩, ⟨14, .phase⟩, ⟨15, .phase⟩, ⟨16, .phase⟩, ⟨17, .phase⟩], none⟩ (fun K hK => ?_)
 go_simp
 refine bridge_over (⟨a2, n2, c2, fa2, fn2, fc2, ra2, rn2, rc2, oa2, on2, oc2, (hearB y.B xp v)⟩ : BV) HPL.out (K := K _) hrow (fun wq hq hgq => ?_)
 have stN := st.put (y := (⟨a2, n2, c2, fa2, fn2, fc2, ra2, rn2, rc2, oa2, on2, oc2, (hearB y.B xp v)⟩ : BV)) rfl rfl vv ow2 hgq hq
 have kX := stN.1.box
 have kL := kept_grown kL hgq (by intro j e; cases e; have := HG.out; have := HZ1.out; omega)
 have kE := kept_grown kE hgq (by intro j e; cases e; have := HG.out; omega)
 refine hK.out _ _ (⟨cells3m kX, cells4n kL, (cells5 kE).1⟩) (fun hHeld => ?_)
 clear hK K
 try simp only [Act.put, lA, lB, lC]
 refine wpAnyH_done (by kernel_rfl) ?_ _
 have HST := hide stN
 clear hHeld kX kL kE hq hgq hrow ow2 vv stN
 go_wp2
 refine bodyPost_ret (v := .tuple #[]) (by simp [results, Tryz.results53, go_sem, *]) rfl ?_
 refine ⟨rfl, (⟨a2, n2, c2, fa2, fn2, fc2, ra2, rn2, rc2, oa2, on2, oc2, (hearB y.B xp v)⟩ : BV), rfl, ?_, HB2.out.trans HST.out.2⟩
 rw [HSET.out]
 exact HST.out.1

set_option maxRecDepth 100000 in
set_option maxHeartbeats 8000000 in
theorem hear14_fwd (M : NV) (base X k i : Nat) (x : LK) (y : BV) (v : VD) (w : World) (h : NbSt w base X M) (hx : M.ls[k]? = some x) (hy0 : M.bs[i]? = some y) (hi : x.b = (i : Int)) (hsm : y.Small20) :
  Calls Tryz.prog 53 #[.pointer (some ⟨X, 0, none⟩), .int .i64 (k : Int), .bool false, .agg #[.int .i64 v.r, .int .i64 v.c, .int .i64 v.h, .int .i64 v.b, .int .i64 v.p]] w fun e w' => e = .returned (.tuple #[]) ∧ ∃ y2 : BV, y2.B = hearB y.B x.q v ∧ NbSt w' base X { M with bs := M.bs.set i y2 } ∧ Below base w w' := by
 obtain ⟨ba, bn, bc, bs, la, ln, lc, ls, sa, sn, sc, ss⟩ := M
 obtain ⟨xa, xp, xb, xq⟩ := x
 dsimp only at hx hy0 hi ⊢
 subst hi
 have hk : k < ln := by have h1 := (List.getElem?_eq_some_iff.1 hx).1; have h2 : ls.length = ln := h.own.row.l.size; omega
 have hib : i < bn := by have h1 := (List.getElem?_eq_some_iff.1 hy0).1; have h2 : bs.length = bn := h.own.b.grow.size; omega
 obtain ⟨g, hg⟩ : ∃ g, ba = some ⟨g, 0, none⟩ := own_some h.own.b.row (show 0 < bn by omega)
 subst hg
 obtain ⟨pre, post, hsp, hpl, hset⟩ := split_at hy0
 have HSET := hide hset
 have HPL := hide hpl
 subst hsp
 have HG : Hid (g < w.heap.size) := hide (h.own.b.row.lt g rfl).2
 have HAT : Hid ((pre ++ y :: post)[i]? = some y) := hide hy0
 have HSM := hide hsm
 clear hset hpl hy0 hsm
 generalize hw1 : w.alloc (Obj.cells #[.int .i64 v.r, .int .i64 v.c, .int .i64 v.h, .int .i64 v.b, .int .i64 v.p] 95) = w1
 have b01 : Below w.heap.size w w1 := by rw [← hw1]; exact below_one _ _
 have kE : w1.heap[w.heap.size]? = some (.cells #[.int .i64 v.r, .int .i64 v.c, .int .i64 v.h, .int .i64 v.b, .int .i64 v.p] 95) := by rw [← hw1]; exact block_last _ _
 have HZ1 : Hid (w1.heap.size = w.heap.size + 1) := hide (by rw [← hw1]; simp)
 have st := h.later b01
 have HB0 := hide (b01.mono h.size)
 clear h b01
 obtain ⟨x', lb, lo, hx', hla, a0, a1, a2, a3⟩ := link_at st.own.row.l k hk
 dsimp only at hx' hla
 rw [hx] at hx'
 cases hx'
 subst hla
 obtain ⟨x0, x1, x2⟩ := cells3m st.box
 have i1 : (0 : Int) ≤ (k : Int) := by omega
 have i2 : (k : Int) < (ln : Int) := by omega
 have i3 : (0 : Int) ≤ (i : Int) := by omega
 have i4 : (i : Int) < (bn : Int) := by omega
 clear hx
 dsimp only at a0 a1 a2 a3 x0 x1 x2
 go_enter Tryz.func53, Tryz.ntmps53
 go_upto_region 4 with fail
 generalize hw2 : w1.alloc (Obj.cells #[.int .i64 xa, .int .i64 xp, .int .i64 (i : Int), .int .i64 xq] 110) = w2
 have b12 : Below w1.heap.size w1 w2 := by rw [← hw2]; exact below_one _ _
 have kL : w2.heap[w1.heap.size]? = some (.cells #[.int .i64 xa, .int .i64 xp, .int .i64 (i : Int), .int .i64 xq] 110) := by rw [← hw2]; exact block_last _ _
 have kE := kept_block kE b12
 have HB2 := hide (HB0.out.trans (b12.mono st.size))
 have st := st.later b12
 have vv : Below w2.heap.size w2 w2.drew := gr_drew (Below.refl _ _)
 have kX := kept_block st.box vv
 have kL := kept_block kL vv
 have kE := kept_block kE vv
 have hyr := (st.own.b.item y (by simp)).row
 obtain ⟨⟨ca0, ca1, ca2, ca3, ca4, ca5, ca6, ca7, ca8, ca9, ca10⟩, -⟩ := bridge_cells (st.own.b.below vv).row HAT.out
 clear hw1 hw2 b12 x0 x1 x2 a0 a1 a2 a3 HB0
 refine wp_region_held_drew (S := (fun W => (W.cell? ⟨X, 0, none⟩ = some (.slice (some ⟨g, 0, none⟩) bn bc) ∧ W.cell? ⟨X, 1, none⟩ = some (.slice (some ⟨lb, lo, none⟩) ln lc) ∧ W.cell? ⟨X, 2, none⟩ = some (.slice sa sn sc)) ∧ (W.cell? ⟨w1.heap.size, 0, none⟩ = some (.int .i64 xa) ∧ W.cell? ⟨w1.heap.size, 1, none⟩ = some (.int .i64 xp) ∧ W.cell? ⟨w1.heap.size, 2, none⟩ = some (.int .i64 (i : Int)) ∧ W.cell? ⟨w1.heap.size, 3, none⟩ = some (.int .i64 xq)) ∧ (W.cell? ⟨w.heap.size, 0, none⟩ = some (.int .i64 v.r) ∧ W.cell? ⟨w.heap.size, 1, none⟩ = some (.int .i64 v.c) ∧ W.cell? ⟨w.heap.size, 2, none⟩ = some (.int .i64 v.h) ∧ W.cell? ⟨w.heap.size, 3, none⟩ = some (.int .i64 v.b) ∧ W.cell? ⟨w.heap.size, 4, none⟩ = some (.int .i64 v.p)))) (by kernel_rfl) (⟨cells3m kX, cells4n kL, (cells5 kE).1⟩) (fun hHeld => ?_)
 refine kK 0 ⟨some 36, .move (.tmp 0), 70, "l14_step.go:21", #[], none⟩ ?_
 refine kK 1 ⟨some 37, .nilCheck (.tmp 36), 0, "l14_step.go:21", #[⟨0, .data⟩], none⟩ ?_
 refine kK 2 ⟨some 38, .fieldAddr 34 (.tmp 37) 0, 0, "l14_step.go:21", #[⟨1, .data⟩], none⟩ ?_
 refine kK 3 ⟨some 39, .load 30 (.tmp 38), 30, "l14_step.go:21", #[⟨2, .data⟩], none⟩ ?_
 refine kK 4 ⟨some 40, .fieldAddr 110 (.tmp 8) 2, 0, "l14_step.go:21", #[], none⟩ ?_
 refine kK 5 ⟨some 41, .load 3 (.tmp 40), 3, "l14_step.go:21", #[⟨4, .data⟩], none⟩ ?_
 refine kK 6 ⟨some 42, .move (.tmp 0), 70, "l14_step.go:21", #[], none⟩ ?_
 refine kK 7 ⟨some 43, .nilCheck (.tmp 42), 0, "l14_step.go:21", #[⟨6, .data⟩], none⟩ ?_
 refine kK 8 ⟨some 44, .fieldAddr 34 (.tmp 43) 0, 0, "l14_step.go:21", #[⟨7, .data⟩], none⟩ ?_
 refine kK 9 ⟨some 45, .load 30 (.tmp 44), 30, "l14_step.go:21", #[⟨8, .data⟩], none⟩ ?_
 refine kK 10 ⟨some 46, .fieldAddr 110 (.tmp 8) 2, 0, "l14_step.go:21", #[], none⟩ ?_
 refine kK 11 ⟨some 47, .load 3 (.tmp 46), 3, "l14_step.go:21", #[⟨10, .data⟩], none⟩ ?_
 refine kK 12 ⟨some 48, .indexAddr 30 (.tmp 45) (.tmp 47), 0, "l14_step.go:21", #[⟨9, .data⟩, ⟨11, .data⟩], none⟩ ?_
 refine kK 14 ⟨some 50, .fieldAddr 110 (.tmp 8) 3, 0, "l14_step.go:21", #[], none⟩ ?_
 refine kK 15 ⟨some 51, .load 3 (.tmp 50), 3, "l14_step.go:21", #[⟨14, .data⟩], none⟩ ?_
 refine kK 16 ⟨some 52, .load 95 (.tmp 7), 95, "l14_step.go:21", #[], none⟩ ?_
 refine kR 13 ⟨some 49, .load 67 (.tmp 48), 67, "l14_step.go:21", #[⟨12, .data⟩], none⟩ (fun K hK => ?_)
 go_simp
 refine hK.out _ _ (⟨cells3m kX, cells4n kL, (cells5 kE).1⟩) (fun hHeld => ?_)
 clear hK K
 try simp only [Act.put, lA, lB, lC]
 refine kR 17 ⟨some 53, .call ⟨.value (.func 100), #[.tmp 49, .tmp 51, .tmp 52], #[67, 3, 95]⟩, 67, "l14_step.go:21", #[⟨13, .data⟩, ⟨15, .data⟩, ⟨16, .data⟩], none⟩ (fun K hK => ?_)
 go_simp
 refine (specHear_made y.a y.n y.c y.fa y.fn y.fc y.ra y.rn y.rc y.oa y.on y.oc y.B xq v _ ((hyr).below vv) HSM.out.1 HSM.out.2.1 HSM.out.2.2.1 HSM.out.2.2.2).mono ?_
 rintro e wz ⟨a2, n2, c2, fa2, fn2, fc2, ra2, rn2, rc2, oa2, on2, oc2, rfl, ow2, hbz⟩
 have ow2 := BrOwn.lt ow2 (base' := w2.heap.size) vv.size
 have vv := gr_trans vv hbz
 have kX := kept_block st.box vv
 have kL := kept_block kL hbz
 have kE := kept_block kE hbz
 have hrow := (st.own.b.below vv).row
 obtain ⟨⟨t0, t1, t2, t3, t4, t5, t6, t7, t8, t9, t10⟩, f0, f1, f2, f3, f4, f5, f6, f7, f8, f9, f10⟩ := bridge_cells hrow HAT.out
 go_wp2_with fail
 refine hK.out _ _ (⟨cells3m kX, cells4n kL, (cells5 kE).1⟩) (fun hHeld => ?_)
 clear hK K
 try simp only [Act.put, lA, lB, lC]
 refine kK 18 ⟨some 54, .indexAddr 30 (.tmp 39) (.tmp 41), 0, "l14_step.go:21", #[⟨3, .data⟩, ⟨5, .data⟩, ⟨0, .phase⟩, ⟨1, .phase⟩, ⟨2, .phase⟩, ⟨3, .phase⟩, ⟨4, .phase⟩, ⟨5, .phase⟩, ⟨6, .phase⟩, ⟨7, .phase⟩, ⟨8, .phase⟩, ⟨9, .phase⟩, ⟨10, .phase⟩, ⟨11, .phase⟩, ⟨12, .phase⟩, ⟨13, .phase⟩, ⟨14, .phase⟩, ⟨15, .phase⟩, ⟨16, .phase⟩, ⟨17, .phase⟩], none⟩ ?_
 refine kR 19 ⟨none, .store 67 (.tmp 54) (.tmp 53), 0, "l14_step.go:21", #[⟨18, .data⟩, ⟨17, .data⟩, ⟨17, .chain⟩, ⟨0, .phase⟩, ⟨1, .phase⟩, ⟨2, .phase⟩, ⟨3, .phase⟩, ⟨4, .phase⟩, ⟨5, .phase⟩, ⟨6, .phase⟩, ⟨7, .phase⟩, ⟨8, .phase⟩, ⟨9, .phase⟩, ⟨10, .phase⟩, ⟨11, .phase⟩, ⟨12, .phase⟩, ⟨13, .phase⟩, ⟨14, .phase⟩, ⟨15, .phase⟩, ⟨16, .phase⟩, ⟨17, .phase⟩], none⟩ (fun K hK => ?_)
 go_simp
 refine bridge_over (⟨a2, n2, c2, fa2, fn2, fc2, ra2, rn2, rc2, oa2, on2, oc2, (hearB y.B xq v)⟩ : BV) HPL.out (K := K _) hrow (fun wq hq hgq => ?_)
 have stN := st.put (y := (⟨a2, n2, c2, fa2, fn2, fc2, ra2, rn2, rc2, oa2, on2, oc2, (hearB y.B xq v)⟩ : BV)) rfl rfl vv ow2 hgq hq
 have kX := stN.1.box
 have kL := kept_grown kL hgq (by intro j e; cases e; have := HG.out; have := HZ1.out; omega)
 have kE := kept_grown kE hgq (by intro j e; cases e; have := HG.out; omega)
 refine hK.out _ _ (⟨cells3m kX, cells4n kL, (cells5 kE).1⟩) (fun hHeld => ?_)
 clear hK K
 try simp only [Act.put, lA, lB, lC]
 refine wpAnyH_done (by kernel_rfl) ?_ _
 have HST := hide stN
 clear hHeld kX kL kE hq hgq hrow ow2 vv stN
 go_wp2
 refine bodyPost_end (v := .tuple #[]) (by simp [results, Tryz.results53, go_sem, *]) rfl ?_
 refine ⟨rfl, (⟨a2, n2, c2, fa2, fn2, fc2, ra2, rn2, rc2, oa2, on2, oc2, (hearB y.B xq v)⟩ : BV), rfl, ?_, HB2.out.trans HST.out.2⟩
 rw [HSET.out]
 exact HST.out.1

def sayAt (bs : List BR) (b p : Int) : VD := match bs[b.toNat]? with
 | some B => sayV B.id B.ports p
 | none => ⟨0, 0, 0, 0, 0⟩
def sayOne (bs : List BR) (ls : List LK) (b : Int) (ss : List SY) (k : Nat) : List SY := match ls[k]? with
 | some x => if linkUp bs ls (k : Int) = true ∧ ss.length < 40 then (if x.a = b then ss ++ [⟨(k : Int), false, sayAt bs x.a x.p⟩] else if x.b = b then ss ++ [⟨(k : Int), true, sayAt bs x.b x.q⟩] else ss) else ss
 | none => ss
def sayTo (bs : List BR) (ls : List LK) (b : Int) (ss : List SY) : Nat → List SY
 | 0 => ss
 | k + 1 => sayOne bs ls b (sayTo bs ls b ss k) k

theorem end_there {bs : List BV} {b p : Int} {u : PT} (h : portOf (bs.map BV.B) b p = some u) : ∃ (i : Nat) (y : BV), b = (i : Int) ∧ bs[i]? = some y := by
 unfold portOf at h
 split at h
 ·rename_i hb
  cases hy : bs[b.toNat]? with
  | none => rw [List.getElem?_map, hy] at h; cases h
  | some y => exact ⟨b.toNat, y, by omega, hy⟩
 ·cases h
theorem say_there {bs : List BV} {i : Nat} {y : BV} (h : bs[i]? = some y) (p : Int) : sayAt (bs.map BV.B) (i : Int) p = sayV y.B.id y.B.ports p := by
 unfold sayAt
 rw [Int.toNat_natCast, List.getElem?_map, h]
 rfl

theorem NbSt.saidNew {w w1 : World} {base X : Nat} {M : NV} (h : NbSt w base X M) (hb : Below w.heap.size w w1) {ao : Option Addr} {n cap : Nat} {ss : List SY} (hr : w1.ownsRow base 99 7 (.slice ao n cap) n (sayF.all ss)) :
  w1.heap[X]? = some (.cells #[.slice M.ba M.bn M.bc, .slice M.la M.ln M.lc, .slice M.sa M.sn M.sc] 34) ∧ NbSt (w1.setCell ⟨X, 2, none⟩ (.slice ao n cap)) base X { M with sa := ao, sn := n, sc := cap, ss := ss } ∧ Below base w (w1.setCell ⟨X, 2, none⟩ (.slice ao n cap)) := by
 have h1 := h.later hb
 have k1 := h1.box
 have hgx : w1.grownBy (w1.setCell ⟨X, 2, none⟩ (.slice ao n cap)) (some X) := grown_set 2 _
 have nb := NOwn.boxed (M := { M with sa := ao, sn := n, sc := cap, ss := ss }) ⟨h1.own.b, h1.own.l, hr⟩ k1 hgx
 have b1 : Below base w w1 := hb.mono h.size
 have hle := h.le
 refine ⟨k1, ⟨?_, nb, h.le⟩, b1.grown hgx (by have := blk_lt k1; omega) (by intro k e; cases e; omega)⟩
 have := set_block5 (j := 2) k1 (.slice ao n cap)
 simpa using this

theorem made_set7 {W : World} {X : Nat} {c0 c1 c2 c3 c4 c5 c6 : Value} {T : TypeId} {K : World → Prop} (hk : W.heap[X]? = some (.cells #[c0, c1, c2, c3, c4, c5, c6] T)) (v0 v1 v2 v3 v4 v5 v6 : Value) (h : ∀ wq, wq.heap[X]? = some (.cells #[v0, v1, v2, v3, v4, v5, v6] T) → W.grownBy wq (some X) → K wq) : K (((((((W.setCell ⟨X, 0, none⟩ v0).setCell ⟨X, 1, none⟩ v1).setCell ⟨X, 2, none⟩ v2).setCell ⟨X, 3, none⟩ v3).setCell ⟨X, 4, none⟩ v4).setCell ⟨X, 5, none⟩ v5).setCell ⟨X, 6, none⟩ v6) := by
 refine h _ ?_ (grownTr (grownTr (grownTr (grownTr (grownTr (grownTr (grown_set 0 _) (grown_set 1 _)) (grown_set 2 _)) (grown_set 3 _)) (grown_set 4 _)) (grown_set 5 _)) (grown_set 6 _))
 have h6 := set_block5 (j := 6) (set_block5 (j := 5) (set_block5 (j := 4) (set_block5 (j := 3) (set_block5 (j := 2) (set_block5 (j := 1) (set_block5 (j := 0) hk v0) v1) v2) v3) v4) v5) v6
 simpa using h6

def atSet (l : List BR) (i : Nat) (f : BR → BR) : List BR := match l[i]? with
 | some B => l.set i (f B)
 | none => l
def hearAt (bs : List BR) (ls : List LK) (s : SY) : List BR := match ls[s.l.toNat]? with
 | some x => if s.back = true then atSet bs x.a.toNat (fun B => hearB B x.p s.v) else atSet bs x.b.toNat (fun B => hearB B x.q s.v)
 | none => bs
def saidBs (bs : List BR) (ls : List LK) (kind : Int) (s : SY) : List BR := if kind = 2 ∧ linkUp bs ls s.l = true then hearAt bs ls s else bs

theorem set_map {bs : List BV} {i : Nat} {y y2 : BV} {f : BR → BR} (h : bs[i]? = some y) (hy : y2.B = f y.B) : (bs.set i y2).map BV.B = atSet (bs.map BV.B) (i : Int).toNat f := by
 unfold atSet
 rw [Int.toNat_natCast, List.getElem?_map, h]
 simp [List.map_set, hy]

def roundOne (b0 : List BR) (ls : List LK) (cur : List BR) (k : Nat) : List BR := match ls[k]? with
 | some x => if linkUp b0 ls (k : Int) = true then atSet (atSet cur x.a.toNat (fun B => hearB B x.p (sayAt b0 x.b x.q))) x.b.toNat (fun B => hearB B x.q (sayAt b0 x.a x.p)) else cur
 | none => cur
def roundTo (b0 : List BR) (ls : List LK) : Nat → List BR
 | 0 => b0
 | k + 1 => roundOne b0 ls (roundTo b0 ls k) k

structure RoundIs (N M : NV) : Prop where
 l : M.ls = N.ls
 yes : NetOk N.brs N.ls N.ss → M.brs = roundTo N.brs N.ls N.ls.length ∧ M.ss = []
 no : ¬ NetOk N.brs N.ls N.ss → M.brs = N.brs ∧ M.ss = N.ss

theorem atSet_all {P : BR → Prop} {l : List BR} {i : Nat} {f : BR → BR} (h : ∀ B ∈ l, P B) (hf : ∀ B, P B → P (f B)) : ∀ B ∈ atSet l i f, P B := by
 unfold atSet
 split
 ·next x hx =>
  intro B hB
  rcases List.mem_or_eq_of_mem_set hB with h1 | h1
  ·exact h B h1
  ·rw [h1]; exact hf _ (h _ (List.mem_of_getElem? hx))
 ·exact h

theorem round_all {P : BR → Prop} {b0 : List BR} (ls : List LK) (h : ∀ B ∈ b0, P B) (hf : ∀ B p v, P B → P (hearB B p v)) : ∀ k, ∀ B ∈ roundTo b0 ls k, P B
 | 0 => h
 | k + 1 => by
  have ih := round_all ls h hf k
  show ∀ B ∈ roundOne b0 ls (roundTo b0 ls k) k, P B
  unfold roundOne
  split
  ·split
   ·exact atSet_all (atSet_all ih (fun B => hf B _ _)) (fun B => hf B _ _)
   ·exact ih
  ·exact ih

def upsB (B : BR) : List Bool := B.ports.map PT.up

theorem atSet_map {α : Type} (g : BR → α) {l : List BR} {i : Nat} {f : BR → BR} (hf : ∀ B, g (f B) = g B) : (atSet l i f).map g = l.map g := by
 unfold atSet
 split
 ·next x hx =>
  rw [List.map_set, hf]
  apply List.ext_getElem?
  intro j
  rw [List.getElem?_set]
  split
  ·next e =>
   subst e
   have hj := (List.getElem?_eq_some_iff.1 hx).1
   rw [if_pos (by simpa using hj), List.getElem?_map, hx]
   rfl
  ·rfl
 ·rfl

theorem hear_ups (B : BR) (p : Int) (v : VD) : upsB (hearB B p v) = upsB B := by
 unfold hearB
 split
 ·split
  ·next x hx =>
   split
   ·show List.map PT.up (B.ports.set p.toNat ⟨x.up, x.k, true, v⟩) = List.map PT.up B.ports
    rw [List.map_set]
    apply List.ext_getElem?
    intro j
    rw [List.getElem?_set]
    split
    ·next e =>
     subst e
     have hj := (List.getElem?_eq_some_iff.1 hx).1
     rw [if_pos (by simpa using hj), List.getElem?_map, hx]
     rfl
    ·rfl
   ·rfl
  ·rfl
 ·rfl

theorem upAt_ups {l l' : List BR} (h : l.map upsB = l'.map upsB) (b p : Int) : upAt l b p = upAt l' b p := by
 have key : ∀ l : List BR, upAt l b p = (match (if 0 ≤ b ∧ 0 ≤ p then ((l.map upsB)[b.toNat]?).bind (fun u => u[p.toNat]?) else none) with
  | some u => u
  | none => false) := by
  intro l
  unfold upAt portOf
  by_cases hc : 0 ≤ b ∧ 0 ≤ p
  ·rw [if_pos hc, if_pos hc, List.getElem?_map]
   cases hl : l[b.toNat]? with
   | none => rfl
   | some B =>
    show (match B.ports[p.toNat]? with
     | some y => y.up
     | none => false) = _
    simp only [Option.map_some, Option.bind_some, upsB, List.getElem?_map]
    cases B.ports[p.toNat]? <;> rfl
  ·rw [if_neg hc, if_neg hc]
 rw [key, key, h]

theorem linkUp_ups {l l' : List BR} (h : l.map upsB = l'.map upsB) (ls : List LK) (k : Int) : linkUp l ls k = linkUp l' ls k := by
 unfold linkUp
 split
 ·split
  ·rw [upAt_ups h, upAt_ups h]
  ·rfl
 ·rfl

theorem round_ups (b0 : List BR) (ls : List LK) : ∀ k, (roundTo b0 ls k).map upsB = b0.map upsB
 | 0 => rfl
 | k + 1 => by
  show (roundOne b0 ls (roundTo b0 ls k) k).map upsB = _
  unfold roundOne
  split
  ·split
   ·rw [atSet_map upsB (fun B => hear_ups B _ _), atSet_map upsB (fun B => hear_ups B _ _)]
    exact round_ups b0 ls k
   ·exact round_ups b0 ls k
  ·exact round_ups b0 ls k

theorem ups_len {l l' : List BR} (h : l.map upsB = l'.map upsB) : l.length = l'.length := by
 have := congrArg List.length h
 simpa using this

def BR.Sm (B : BR) : Prop := B.ports.length ≤ 1048576 ∧ B.f.length ≤ 1048576 ∧ B.v.rows.length ≤ 1048576 ∧ B.v.own.length ≤ 1048576
theorem less_sm {V B : BR} (h : lessB V B) (hB : B.Sm) : V.Sm := by
 obtain ⟨h1, h2, h3⟩ := h
 obtain ⟨s1, s2, s3, s4⟩ := hB
 exact ⟨by omega, by omega, by rw [h3]; exact s3, by rw [h3]; exact s4⟩
theorem sm_rows {w : World} {N : NV} (h : NetRow w N) (hs : ∀ B ∈ N.brs, B.Sm) : ∀ y ∈ N.bs, y.Small20 := by
 intro y hy
 have r := h.item y hy
 have s := hs y.B (by unfold NV.brs; exact List.mem_map_of_mem hy)
 have q1 := r.ports.size
 have q2 := r.f.size
 have q3 := r.v.rows.size
 have q4 := r.v.own.size
 obtain ⟨s1, s2, s3, s4⟩ := s
 exact ⟨by omega, by omega, by omega, by omega⟩
theorem rows_sm {w : World} {N : NV} (h : NetRow w N) (hs : ∀ y ∈ N.bs, y.Small20) : ∀ B ∈ N.brs, B.Sm := by
 intro B hB
 obtain ⟨y, hy, rfl⟩ := List.mem_map.1 hB
 have r := h.item y hy
 have q1 := r.ports.size
 have q2 := r.f.size
 have q3 := r.v.rows.size
 have q4 := r.v.own.size
 obtain ⟨s1, s2, s3, s4⟩ := hs y hy
 exact ⟨by omega, by omega, by omega, by omega⟩
theorem small_big {l : List BV} (h : ∀ y ∈ l, y.Small20) : ∀ x ∈ l, x.n ≤ 16777216 ∧ x.fn ≤ 16777216 ∧ x.rn ≤ 16777216 ∧ x.on ≤ 16777216 := by
 intro x hx
 obtain ⟨h1, h2, h3, h4⟩ := h x hx
 exact ⟨by omega, by omega, by omega, by omega⟩

theorem kept_under {w w' : World} {base i : Nat} {o : Obj} (h : w.heap[i]? = some o) (hb : Below base w w') (hi : i < base) : w'.heap[i]? = some o := by rw [hb.block i hi]; exact h

theorem NOwn.out {W : World} {base : Nat} {M : NV} (h : NOwn W base M) {R : Nat} {cs : Array Value} (hR : W.heap[R]? = some (.cells cs 34)) : NOwn (((W.setCell ⟨R, 0, none⟩ (.slice M.ba M.bn M.bc)).setCell ⟨R, 1, none⟩ (.slice M.la M.ln M.lc)).setCell ⟨R, 2, none⟩ (.slice M.sa M.sn M.sc)) base M :=
 h.boxed hR (grownTr (grownTr (grown_set (rb := R) 0 _) (grown_set 1 _)) (grown_set 2 _))
theorem below_out {B : Nat} {w W : World} (h : Below B w W) {R : Nat} (hR : B ≤ R) (v0 v1 v2 : Value) : Below B w (((W.setCell ⟨R, 0, none⟩ v0).setCell ⟨R, 1, none⟩ v1).setCell ⟨R, 2, none⟩ v2) :=
 below_set (below_set (below_set h hR 0 v0) hR 1 v1) hR 2 v2

theorem NV.Same.brs {N M : NV} (h : N.Same M) : N.brs = M.brs := h.b

theorem round_next {b0 : List BR} {ls : List LK} {k : Nat} {x : LK} {cur : List BR} (hx : ls[k]? = some x) (hu : linkUp b0 ls (k : Int) = true) : roundOne b0 ls cur k = atSet (atSet cur x.a.toNat (fun B => hearB B x.p (sayAt b0 x.b x.q))) x.b.toNat (fun B => hearB B x.q (sayAt b0 x.a x.p)) := by
 unfold roundOne; rw [hx]; simp [hu]
theorem round_down {b0 : List BR} {ls : List LK} {k : Nat} {cur : List BR} (hu : linkUp b0 ls (k : Int) = false) : roundOne b0 ls cur k = cur := by
 unfold roundOne; split <;> simp [hu]

theorem there_len {bs bs2 : List BV} {i : Nat} {y : BV} (h : bs[i]? = some y) (hl : bs2.length = bs.length) : ∃ z, bs2[i]? = some z := by
 have := (List.getElem?_eq_some_iff.1 h).1
 exact ⟨_, List.getElem?_eq_getElem (by omega)⟩

end Go.Proofs.YtpgdahenmpkcnaaGreat
