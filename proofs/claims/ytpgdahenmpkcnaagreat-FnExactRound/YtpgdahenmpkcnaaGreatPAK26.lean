/-
  Packed: FdbImplR BrInner3 NetOkI NetOkK NetMark NetHeld.
-/
import Derived.Test.YtpgdahenmpkcnaaGreatPAKW
import Derived.Test.YtpgdahenmpkcnaaGreatPABrOkI
import Derived.Test.YtpgdahenmpkcnaaGreatPAK01
import Derived.Test.YtpgdahenmpkcnaaGreatPAK04
import Derived.Test.YtpgdahenmpkcnaaGreatPAK07
import Derived.Test.YtpgdahenmpkcnaaGreatPAK16
import Derived.Test.YtpgdahenmpkcnaaGreatPAK23
import Derived.Test.YtpgdahenmpkcnaaGreatPAK25
import Derived.Test.YtpgdahenmpkcnaaGreatPANetOkT
import Derived.Deep.RegionHeld3
namespace Go.Proofs.YtpgdahenmpkcnaaGreat
open Go.RowKit

theorem ne_cells {w : World} {b i : Nat} {cs : Array Value} {T : TypeId} (hk : ∀ cs T, w.heap[b]? ≠ some (.cells cs T)) (h : w.heap[i]? = some (.cells cs T)) : b ≠ i := by
 intro e
 subst e
 exact hk _ _ h

theorem own_kind {w w' : World} {base k : Nat} {e : TypeId} {v : Value} {n : Nat} {xs : List Value} (h : w.ownsRow base e k v n xs) {b : Nat} (hg : w.grownBy w' (some b)) (hk : ∀ cs T, w.heap[b]? ≠ some (.cells cs T)) : w'.ownsRow base e k v n xs := by
 refine gown_other h hg ?_
 intro i hi e1
 subst e1
 rcases h.2 with ⟨rfl, _⟩ | ⟨g, cap, cur, rfl, _, hh, _⟩
 ·cases hi
 ·cases hi
  exact hk _ _ hh

theorem Ranging.iter {P : Program} {α β : Type} {M : MK P α β} {w : World} {b r n : Nat} {g : α → Option β} {left : α → Bool} {cnt : Nat} (h : Ranging M w b r n g left cnt) : ∀ cs T, w.heap[r]? ≠ some (.cells cs T) := by
 obtain ⟨es, clock, since, seen, c0, hb, he, hr, -⟩ := h
 intro cs T e
 rw [hr] at e
 cases e

theorem Ranging.mapk {P : Program} {α β : Type} {M : MK P α β} {w : World} {b r n : Nat} {g : α → Option β} {left : α → Bool} {cnt : Nat} (h : Ranging M w b r n g left cnt) : ∀ cs T, w.heap[b]? ≠ some (.cells cs T) := by
 obtain ⟨es, clock, since, seen, c0, hb, -⟩ := h
 intro cs T e
 rw [hb] at e
 cases e

structure RSt (w : World) (it : Nat) (wr : World) (p bm : Nat) (aq : Option Addr) (cq : Nat) (l : List FE) (f : FE → Option FE) (left : FK → Bool) (cnt : Nat) : Prop where
 rg : Ranging mE wr bm it 16777216 (midF f (entsOf l) left) left cnt
 box : wr.heap[p]? = some (.cells #[.slice aq (keysOf l).length cq, .map (some bm)] 236)
 own : wr.ownsRow w.heap.size 238 3 (.slice aq (keysOf l).length cq) (keysOf l).length (fkF.all (keysOf l))
 bel : Below w.heap.size w wr

theorem RSt.turned {w : World} {it : Nat} {wr w' : World} {p bm : Nat} {aq : Option Addr} {cq : Nat} {l : List FE} {f : FE → Option FE} {left : FK → Bool} {cnt j : Nat} (h : RSt w it wr p bm aq cq l f left cnt) (hg : wr.grownBy w' (some j)) (hk : ∀ cs T, wr.heap[j]? ≠ some (.cells cs T)) (hj : w.heap.size ≤ j) :
  w'.heap[p]? = some (.cells #[.slice aq (keysOf l).length cq, .map (some bm)] 236) ∧ w'.ownsRow w.heap.size 238 3 (.slice aq (keysOf l).length cq) (keysOf l).length (fkF.all (keysOf l)) ∧ Below w.heap.size w w' :=
 ⟨kept_grown h.box hg (fun i hi => by cases hi; exact ne_cells hk h.box), own_kind h.own hg hk, h.bel.grown hg h.bel.size (fun i hi => by cases hi; exact hj)⟩

theorem RSt.tab {w : World} {it : Nat} {wr : World} {p bm : Nat} {aq : Option Addr} {cq : Nat} {l : List FE} {f : FE → Option FE} {left : FK → Bool} {cnt : Nat} (h : RSt w it wr p bm aq cq l f left cnt) (hl : ∀ k, left k = false) (h1 : w.heap.size ≤ p) (h2 : w.heap.size ≤ bm) (h3 : ∀ k ∈ keysOf l, FKok k) (h4 : (keysOf l).length ≤ 16777216) :
  Tab wr w.heap.size p bm (keysOf l) (fun k => (entsOf l k).bind f) :=
 ⟨⟨aq, cq, h.box, h.own⟩, by have := h.rg.is; rw [mid_end f (entsOf l) hl] at this; exact this, h1, h2, h3, h4⟩

def flushE (p : Int) (e : FE) : Option FE := if (e.s || (e.p != p)) = true then some e else none

theorem flush_is (l : List FE) (p : Int) : flushF l p = l.filterMap (flushE p) := by
 induction l with
 | nil => rfl
 | cons x r ih =>
  unfold flushF at *
  unfold flushE at *
  rw [List.filter_cons, List.filterMap_cons, ih]
  cases (x.s || (x.p != p)) <;> rfl

set_option maxRecDepth 100000 in
set_option maxHeartbeats 8000000 in
theorem implFlush_rng (ao : Option Addr) (n cap : Nat) (l : List FE) (p0 : Int) (w : World) (h : GRow fentF w ao n cap l) (hn : n ≤ 16777216) (hR : ∀ x ∈ l, x.Rng) :
  Calls Tryz.prog 179 #[.slice ao n cap, .int .i64 p0] w fun r w' => ∃ ao' cap', r = .returned (.slice ao' (flushF l p0).length cap') ∧ w'.ownsRow w.heap.size 162 5 (.slice ao' (flushF l p0).length cap') (flushF l p0).length (fentF.all (flushF l p0)) ∧ GRow fentF w' ao' (flushF l p0).length cap' (flushF l p0) ∧ Below w.heap.size w w' := by
 rw [flush_is l p0]
 go_enter Tryz.func179, Tryz.ntmps179
 go_wp2_with fail
 refine (tableOf_any ao n cap l _ h hn hR).mono ?_
 rintro r w1 ⟨p, bm, rfl, tab, hb1⟩
 obtain ⟨aq, cq, hbox, hown⟩ := tab.box
 obtain ⟨⟨pq0, pq1⟩, -⟩ := cells2 hbox
 have hmap := tab.map
 have HLP := hide tab.lp
 have HLB := hide tab.lb
 have HOK := hide tab.oks
 have HFW := hide tab.few
 have hs1 := hb1.size
 clear tab
 go_wp2_with (first | (at_range; refine wpList_range_fe _ rfl _ rfl bm 16777216 (entsOf l) rfl hmap ?_; intro w2 cnt2 hrg2 hb2 hs2) | go_in)
 go_frame
 have st2 : RSt w w1.heap.size w2 p bm aq cq l (flushE p0) (fun k => (entsOf l k).isSome) cnt2 := ⟨by rw [mid_start]; exact hrg2, kept_block hbox hb2, gown_below hown hb2, gr_trans hb1 hb2⟩
 have HS2 := hide st2
 clear st2 hrg2 hb2 hown hbox hmap pq0 pq1 hb1
 go_loopw [15] (fun _ wr => ∃ left cnt, RSt w w1.heap.size wr p bm aq cq l (flushE p0) left cnt) (fun _ wr => wr.rangeLeft bm w1.heap.size)
 case atStart => exact ⟨_, _, HS2.out⟩
 case round =>
  obtain ⟨left, cnt, st⟩ := hrel
  clear HS2
  have hrg := st.rg
  have HST := hide st
  go_wp2_with (first | (at_next; refine wpList_next_fe _ rfl _ rfl bm w1.heap.size 16777216 _ left cnt rfl hrg ?_ ?_) | go_in)
  ·intro hl0
   have hT : Tab wr w.heap.size p bm (keysOf l) (fun k => (entsOf l k).bind (flushE p0)) := st.tab hl0 HLP.out HLB.out HOK.out HFW.out
   have HB := hide st.bel
   clear hrg st HST
   go_wp2_with fail
   refine (list_any _ _ p bm _ _ hT).mono ?_
   rintro r w9 ⟨ao9, cap9, rfl, ho9, hr9, hb9⟩
   rw [out_bind (ents_map l) (flushE p0)] at ho9 hr9
   have HO := hide (gown_lt ho9 (base' := w.heap.size) HB.out.size)
   have HR := hide hr9
   have HB9 := hide (gr_trans HB.out hb9)
   clear ho9 hr9 hb9 hT
   go_wp2
   go_ret
   exact ⟨_, _, (by rw [out_bind (ents_map l) (flushE p0)]; rfl), HO.out, HR.out, HB9.out⟩
  ·intro s hs
   rcases s with ⟨y, v, w3, cnt3⟩
   obtain ⟨hyk, hly, hgy, hrg3, hlt3, hg3, hen⟩ := hs
   dsimp only at hyk hly hgy hrg3 hlt3 hg3 hen ⊢
   have hv := hR v (ents_mem (mid_at hly hgy))
   have HN := hide (mid_next hly hgy)
   have hls : upd left y false y = false := upd_same _ _ _
   have st3 := st.turned hg3 (st.rg.iter) (by omega)
   have HLE := hide hrg.left_eq
   clear hrg st HST
   cases hvs : v.s
   ·cases hvp : (v.p == p0)
    ·have hfv : flushE p0 v = some v := by unfold flushE; rw [hvs]; simp at hvp; simp [hvp]
     rw [hvs] at hen
     clear hvs
     have b4 := below_two w3 (.cells #[.int .i64 y.1, .int .i64 y.2.1, .int .i64 y.2.2] 238) (.cells #[.int .i64 v.t, .int .i64 v.m, .int .i64 v.p, .int .i64 v.a, .bool false] 162)
     have q1 := kept_block st3.1 b4
     have q2 := gown_below st3.2.1 b4
     have q3 := gr_trans st3.2.2 b4
     have q4 := hrg3.below b4
     have kk := kept_block (block_last w3 (.cells #[.int .i64 y.1, .int .i64 y.2.1, .int .i64 y.2.2] 238)) (below_one _ (.cells #[.int .i64 v.t, .int .i64 v.m, .int .i64 v.p, .int .i64 v.a, .bool false] 162))
     have ke := block_last (w3.alloc (.cells #[.int .i64 y.1, .int .i64 y.2.1, .int .i64 y.2.2] 238)) (.cells #[.int .i64 v.t, .int .i64 v.m, .int .i64 v.p, .int .i64 v.a, .bool false] 162)
     rw [show (w3.alloc (.cells #[.int .i64 y.1, .int .i64 y.2.1, .int .i64 y.2.2] 238)).heap.size = w3.heap.size + 1 by simp] at ke
     have hfe : midF (flushE p0) (entsOf l) left = midF (flushE p0) (entsOf l) (upd left y false) := by rw [← HN.out, hfv, upd_self hgy]
     rw [hfe] at q4
     have HS4 := hide (show RSt w w1.heap.size ((w3.alloc (.cells #[.int .i64 y.1, .int .i64 y.2.1, .int .i64 y.2.2] 238)).alloc (.cells #[.int .i64 v.t, .int .i64 v.m, .int .i64 v.p, .int .i64 v.a, .bool false] 162)) p bm aq cq l (flushE p0) (upd left y false) cnt3 from ⟨q4, q1, q2, q3⟩)
     clear q1 q2 q3 q4 kk ke hrg3 st3 hfe b4
     go_wp2
     go_roundw
     case rel => exact ⟨_, _, HS4.out⟩
     case measure => rw [HS4.out.rg.left_eq, HLE.out]; exact hlt3
    ·have hfv : flushE p0 v = none := by unfold flushE; rw [hvs]; simp at hvp; simp [hvp]
     rw [hvs] at hen
     clear hvs
     have b4 := below_two w3 (.cells #[.int .i64 y.1, .int .i64 y.2.1, .int .i64 y.2.2] 238) (.cells #[.int .i64 v.t, .int .i64 v.m, .int .i64 v.p, .int .i64 v.a, .bool false] 162)
     have q1 := kept_block st3.1 b4
     have q2 := gown_below st3.2.1 b4
     have q3 := gr_trans st3.2.2 b4
     have q4 := hrg3.below b4
     have kk := kept_block (block_last w3 (.cells #[.int .i64 y.1, .int .i64 y.2.1, .int .i64 y.2.2] 238)) (below_one _ (.cells #[.int .i64 v.t, .int .i64 v.m, .int .i64 v.p, .int .i64 v.a, .bool false] 162))
     have ke := block_last (w3.alloc (.cells #[.int .i64 y.1, .int .i64 y.2.1, .int .i64 y.2.2] 238)) (.cells #[.int .i64 v.t, .int .i64 v.m, .int .i64 v.p, .int .i64 v.a, .bool false] 162)
     rw [show (w3.alloc (.cells #[.int .i64 y.1, .int .i64 y.2.1, .int .i64 y.2.2] 238)).heap.size = w3.heap.size + 1 by simp] at ke
     go_wp2_with fail
     clear hen
     generalize hw4 : (w3.alloc (.cells #[.int .i64 y.1, .int .i64 y.2.1, .int .i64 y.2.2] 238)).alloc (.cells #[.int .i64 v.t, .int .i64 v.m, .int .i64 v.p, .int .i64 v.a, .bool false] 162) = w4 at *
     obtain ⟨w5, cnt5, hr5, hrg5, hle5, hg5, -⟩ := Ranging.drop (w := w4.drew) (q4.kept rfl rfl) hyk hls 0
     have hr5 : (Builtin.delete_ #[234, 238] 0 #[.map (some bm), .agg #[.int .i64 y.1, .int .i64 y.2.1, .int .i64 y.2.2]]).run Tryz.prog w4.drew = .ok (.tuple #[]) w5 := hr5
     have hg5 : w4.grownBy w5 (some bm) := ⟨hg5.os, hg5.tape, hg5.output, hg5.size, hg5.block⟩
     have hfe : upd (midF (flushE p0) (entsOf l) left) y none = midF (flushE p0) (entsOf l) (upd left y false) := by rw [← HN.out, hfv]
     rw [hfe] at hrg5
     have hk4 := q4.mapk
     have n5 := ne_cells hk4 q1
     have m5 := ne_cells hk4 kk
     have q5 := kept_grown q1 hg5 (fun i hi => by cases hi; exact n5)
     have kk5 := kept_grown kk hg5 (fun i hi => by cases hi; exact m5)
     have HS5 := hide (show RSt w w1.heap.size w5 p bm aq cq l (flushE p0) (upd left y false) cnt5 from ⟨hrg5, q5, own_kind q2 hg5 hk4, q3.grown hg5 q3.size (fun i hi => by cases hi; exact HLB.out)⟩)
     have hS0 : w4.drew.cell? ⟨p, 1, none⟩ = some (.map (some bm)) ∧ _ := ⟨(cells2 (w := w4.drew) q1).1.2, (cells3 (w := w4.drew) kk).1⟩
     have hS1 : w5.cell? ⟨p, 1, none⟩ = some (.map (some bm)) ∧ _ := ⟨(cells2 q5).1.2, (cells3 kk5).1⟩
     clear q1 kk ke q2 q3 q4 hrg3 st3 hfe b4 hk4 n5 m5 q5 kk5 hrg5
     refine wp_region_held_drew (S := (fun W => W.cell? ⟨p, 1, none⟩ = some (.map (some bm)) ∧ (W.cell? ⟨w3.heap.size, 0, none⟩ = some (.int .i64 y.1) ∧ W.cell? ⟨w3.heap.size, 1, none⟩ = some (.int .i64 y.2.1) ∧ W.cell? ⟨w3.heap.size, 2, none⟩ = some (.int .i64 y.2.2)))) (by kernel_rfl) (by first | exact hS0 | exact hS1) (fun hHeld => ?_)
     refine kK 0 ⟨some 29, .move (.tmp 5), 231, "l08_fdb.go:77", #[], none⟩ ?_
     refine kK 1 ⟨some 30, .nilCheck (.tmp 29), 0, "l08_fdb.go:77", #[⟨0, .data⟩], none⟩ ?_
     refine kK 2 ⟨some 31, .fieldAddr 236 (.tmp 30) 1, 0, "l08_fdb.go:77", #[⟨1, .data⟩], none⟩ ?_
     refine kK 3 ⟨some 32, .load 234 (.tmp 31), 234, "l08_fdb.go:77", #[⟨2, .data⟩], none⟩ ?_
     refine kK 4 ⟨some 33, .load 238 (.tmp 6), 238, "l08_fdb.go:77", #[], none⟩ ?_
     refine kR 5 ⟨none, .call ⟨.builtin .delete, #[.tmp 32, .tmp 33], #[234, 238]⟩, 0, "l08_fdb.go:77", #[⟨3, .data⟩, ⟨4, .data⟩], none⟩ (fun K hK => ?_)
     go_simp
     refine hK.out _ _ (by first | exact hS0 | exact hS1) (fun hHeld => ?_)
     clear hK K
     try simp only [Act.put, lA, lB, lC]
     refine wpAnyH_done (by kernel_rfl) ?_ _
     clear hS0 hS1 hr5 hHeld
     go_wp2
     go_roundw
     case rel => exact ⟨_, _, HS5.out⟩
     case measure => rw [HS5.out.rg.left_eq, HLE.out]; omega
   ·have hfv : flushE p0 v = some v := by unfold flushE; rw [hvs]; rfl
    rw [hvs] at hen
    clear hvs
    have b4 := below_two w3 (.cells #[.int .i64 y.1, .int .i64 y.2.1, .int .i64 y.2.2] 238) (.cells #[.int .i64 v.t, .int .i64 v.m, .int .i64 v.p, .int .i64 v.a, .bool true] 162)
    have q1 := kept_block st3.1 b4
    have q2 := gown_below st3.2.1 b4
    have q3 := gr_trans st3.2.2 b4
    have q4 := hrg3.below b4
    have kk := kept_block (block_last w3 (.cells #[.int .i64 y.1, .int .i64 y.2.1, .int .i64 y.2.2] 238)) (below_one _ (.cells #[.int .i64 v.t, .int .i64 v.m, .int .i64 v.p, .int .i64 v.a, .bool true] 162))
    have ke := block_last (w3.alloc (.cells #[.int .i64 y.1, .int .i64 y.2.1, .int .i64 y.2.2] 238)) (.cells #[.int .i64 v.t, .int .i64 v.m, .int .i64 v.p, .int .i64 v.a, .bool true] 162)
    rw [show (w3.alloc (.cells #[.int .i64 y.1, .int .i64 y.2.1, .int .i64 y.2.2] 238)).heap.size = w3.heap.size + 1 by simp] at ke
    have hfe : midF (flushE p0) (entsOf l) left = midF (flushE p0) (entsOf l) (upd left y false) := by rw [← HN.out, hfv, upd_self hgy]
    rw [hfe] at q4
    have HS4 := hide (show RSt w w1.heap.size ((w3.alloc (.cells #[.int .i64 y.1, .int .i64 y.2.1, .int .i64 y.2.2] 238)).alloc (.cells #[.int .i64 v.t, .int .i64 v.m, .int .i64 v.p, .int .i64 v.a, .bool true] 162)) p bm aq cq l (flushE p0) (upd left y false) cnt3 from ⟨q4, q1, q2, q3⟩)
    clear q1 q2 q3 q4 kk ke hrg3 st3 hfe b4
    go_wp2
    go_roundw
    case rel => exact ⟨_, _, HS4.out⟩
    case measure => rw [HS4.out.rg.left_eq, HLE.out]; exact hlt3

def quietTo (bits : Int) : Nat → List Int
 | 0 => []
 | k + 1 => if bitOf bits (k : Int) = true then quietTo bits k else quietTo bits k ++ [(k : Int)]

theorem quiet_flush (bits : Int) (l : List FE) : ∀ k, (quietTo bits k).foldl flushF l = flushTo bits l k
 | 0 => rfl
 | k + 1 => by
  rw [quietTo, flushTo]
  split
  ·exact quiet_flush bits l k
  ·rw [List.foldl_append, quiet_flush bits l k]
   rfl

theorem quiet_len (bits : Int) : ∀ k, (quietTo bits k).length ≤ k
 | 0 => Nat.le_refl _
 | k + 1 => by
  rw [quietTo]
  have := quiet_len bits k
  split
  ·omega
  ·simp; omega

theorem sendsB_rng : ∀ b0 b1 b2 b3 b4 b5 : Bool, ∀ n : Fin 7, 0 ≤ sendsB (six b0 b1 b2 b3 b4 b5) n.val ∧ sendsB (six b0 b1 b2 b3 b4 b5) n.val ≤ 63 := by
 decide +kernel

theorem sends_rng (id : Int) (l : List PT) : 0 ≤ sendsOf id l ∧ sendsOf id l ≤ 63 := by
 unfold sendsOf
 rw [sends_is]
 generalize (fun i : Nat => decide (roleOf id l (i : Int) ≤ 2)) = f
 have hn : min l.length 6 ≤ 6 := Nat.min_le_right _ _
 generalize min l.length 6 = m at hn
 have e : ∀ j, j < 6 → f j = six (f 0) (f 1) (f 2) (f 3) (f 4) (f 5) j := by
  intro j hj
  rcases (show j = 0 ∨ j = 1 ∨ j = 2 ∨ j = 3 ∨ j = 4 ∨ j = 5 by omega) with rfl | rfl | rfl | rfl | rfl | rfl <;> rfl
 rw [sendsB_cut f _ m (fun j hj => e j (by omega))]
 exact sendsB_rng (f 0) (f 1) (f 2) (f 3) (f 4) (f 5) ⟨m, by omega⟩

theorem has_sends (id : Int) (l : List PT) (k : Nat) (hk : k ≤ 7) : hasP (sendsOf id l) (k : Int) = bitOf (sendsOf id l) (k : Int) := by
 have := sends_rng id l
 exact hasP_same (by unfold I64; omega) (Or.inl (by omega))

set_option maxRecDepth 100000 in
set_option maxHeartbeats 4000000 in
theorem implQuiet_made (id : Int) (a : Option Addr) (n c : Nat) (l : List PT) (w : World) (h : GRow ptF w a n c l) (hn : n ≤ 6) (bits : Int) (hbits : sendsOf id l = bits) :
  Calls Tryz.prog 178 #[.slice a n c, .int .i64 id] w fun e w' => ∃ ao cap, e = .returned (.slice ao (quietTo bits n).length cap) ∧ w'.ownsRow w.heap.size 3 1 (.slice ao (quietTo bits n).length cap) (quietTo bits n).length (intF.all (quietTo bits n)) ∧ Below w.heap.size w w' := by
 have HBI : Hid (∀ k : Nat, k ≤ 7 → hasP bits (k : Int) = bitOf bits (k : Int)) := hide (fun k hk => by rw [← hbits]; exact has_sends id l k hk)
 have HBT := hide hbits
 clear hbits
 go_enter Tryz.func178, Tryz.ntmps178
 go_wp2_with fail
 refine (implSends_any id a n c l _ h).mono ?_
 rintro e w1 ⟨rfl, hb1⟩
 rw [HBT.out]
 go_wp2_with fail
 go_loopw [6, 13] (fun p i wr => ∃ (k : Nat) (ao : Option Addr) (cap : Nat), k ≤ n ∧ i = .int .i64 k ∧ p = .slice ao (quietTo bits k).length cap ∧ wr.ownsRow w.heap.size 3 1 (.slice ao (quietTo bits k).length cap) (quietTo bits k).length (intF.all (quietTo bits k)) ∧ Below w.heap.size w wr) (fun _ i _ => n - (intOf i).toNat)
 case atStart => exact ⟨0, none, 0, Nat.zero_le _, rfl, rfl, World.ownsRow_nil _ _ _ _, hb1⟩
 case round =>
  obtain ⟨k, ao, cap, hk, rfl, rfl, own, hb⟩ := hrel
  clear hb1
  by_cases hlt : k < n
  ·have i1 : (0 : Int) ≤ (k : Int) := by omega
   have i2 : (k : Int) < (n : Int) := by omega
   have HLQ := hide (quiet_len bits k)
   go_wp2_with fail
   refine (implHasPort_any bits (k : Int) (by omega) _).mono ?_
   rintro e w2 ⟨rfl, e2⟩
   obtain rfl := e2.symm
   rw [HBI.out k (by omega)]
   cases hbk : bitOf bits (k : Int)
   ·have HF : Hid (quietTo bits (k + 1) = quietTo bits k ++ [(k : Int)]) := hide (by rw [quietTo, if_neg (by rw [hbk]; decide)])
    clear hbk
    generalize hwa : wr.alloc (Obj.cells #[Value.int .i64 k] 3) = wa
    have bra : Below wr.heap.size wr wa := by subst hwa; exact below_one _ _
    have ka : wa.heap[wr.heap.size]? = some (.cells #[.int .i64 k] 3) := by rw [← hwa]; exact block_last _ _
    have gone : GRow intF wa (some ⟨wr.heap.size, 0, none⟩) 1 1 [(k : Int)] := grow_own (F := intF) (own_one intF (x := (k : Int)) (base := 0) ka rfl (Nat.zero_le _))
    have hI2 := gown_below own bra
    have HBA := hide (gr_trans hb bra)
    clear own hb
    generalize hq : (quietTo bits k).length = q at *
    go_wp2_with (at_builtin; refine wpList_append_flat (F := intF) _ rfl _ _ 63 3 rfl w.heap.size Tryz.underlying63 Tryz.infoI64 rfl (by decide) _ q (quietTo bits k) rfl hI2 (some ⟨wr.heap.size, 0, none⟩) 1 1 [(k : Int)] rfl gone (by have := HLQ.out; omega) HBA.out.size ?_)
    intro a7 c7 w7 how hr hgr hb7
    have HB7 := hide (HBA.out.trans hb7)
    have HQ1 : Hid ((quietTo bits (k + 1)).length = q + 1) := hide (by rw [HF.out, List.length_append, hq]; rfl)
    rw [← HF.out] at how
    have HO := hide how
    clear how hr hgr hb7 hI2 gone ka hq
    go_wp2
    go_roundw
    case rel => exact ⟨k + 1, a7, c7, by omega, by go_num, by rw [HQ1.out], by rw [HQ1.out]; exact HO.out, HB7.out⟩
    case measure => simp [intOf]; omega
   ·have HF : Hid (quietTo bits (k + 1) = quietTo bits k) := hide (by rw [quietTo, if_pos hbk])
    have HO := hide own
    clear hbk own
    go_wp2
    go_roundw
    case rel => exact ⟨k + 1, ao, cap, by omega, by go_num, by rw [HF.out], by rw [HF.out]; exact HO.out, hb⟩
    case measure => simp [intOf]; omega
  ·have hkn : k = n := by omega
   subst hkn
   have HO := hide own
   clear own
   go_wp2
   go_ret
   exact ⟨ao, cap, rfl, HO.out, hb⟩

theorem flush_rngF {l : List FE} (h : ∀ x ∈ l, x.Rng) (p : Int) : ∀ x ∈ flushF l p, x.Rng := fun x hx => h x (List.mem_filter.1 hx).1

theorem folds_rng (qs : List Int) : ∀ {l : List FE}, (∀ x ∈ l, x.Rng) → ∀ x ∈ qs.foldl flushF l, x.Rng := by
 induction qs with
 | nil => exact fun h => h
 | cons q qs ih => exact fun h => ih (flush_rngF h q)

theorem folds_len (qs : List Int) : ∀ {l : List FE}, (qs.foldl flushF l).length ≤ l.length := by
 induction qs with
 | nil => exact Nat.le_refl _
 | cons q qs ih => exact Nat.le_trans ih (List.length_filter_le _ _)

theorem int_at {w : World} {base : Nat} {ao : Option Addr} {n cap : Nat} {l : List Int} (h : w.ownsRow base 3 1 (.slice ao n cap) n (intF.all l)) (i : Nat) (hi : i < n) : ∃ (z : Int) (b off : Nat), l[i]? = some z ∧ ao = some ⟨b, off, none⟩ ∧ w.cell? ⟨b, off + i, none⟩ = some (.int .i64 z) := by
 obtain ⟨z, b, off, hz, ha, hc⟩ := (grow_own (F := intF) h).at i hi
 exact ⟨z, b, off, hz, ha, by have := hc 0 _ rfl; simpa [intF] using this⟩

theorem take_succ_fold {qs : List Int} {k : Nat} {z : Int} (hz : qs[k]? = some z) (l : List FE) : (qs.take (k + 1)).foldl flushF l = flushF ((qs.take k).foldl flushF l) z := by
 rw [List.take_add_one, hz, List.foldl_append]
 rfl

set_option maxRecDepth 100000 in
set_option maxHeartbeats 8000000 in
theorem implTurned_made (base : Nat) (a : Option Addr) (n c : Nat) (fa : Option Addr) (fn fc : Nat) (ra : Option Addr) (rn rc : Nat) (oa : Option Addr) (on oc : Nat) (B : BR) (w : World) (h : BrOwn w base a n c fa fn fc ra rn rc oa on oc B) (hbase : base ≤ w.heap.size) (hn : n ≤ 6) (hfn : fn ≤ 16777216) (hv : 0 ≤ B.vers ∧ B.vers ≤ 1000000) (hR : ∀ x ∈ B.f, x.Rng) :
  Calls Tryz.prog 147 #[.agg #[.slice a n c, .int .i64 B.id, .string B.name, .slice none 0 0, .slice fa fn fc, .slice ra rn rc, .slice oa on oc, .int .i64 B.ticks, .int .i64 B.parse, .int .i64 B.word, .int .i64 B.drops, .int .i64 B.vers]] w fun e w' => ∃ (fa2 : Option Addr) (fn2 fc2 : Nat), e = .returned (.agg #[.int .i64 B.id, .string B.name, .slice a n c, .slice fa2 fn2 fc2, .slice ra rn rc, .slice oa on oc, .int .i64 B.ticks, .int .i64 B.parse, .int .i64 B.word, .int .i64 B.drops, .int .i64 (oneMore B.vers)]) ∧ BrOwn w' base a n c fa2 fn2 fc2 ra rn rc oa on oc (turned B) ∧ Below w.heap.size w w' := by
 have hpl := hide (grow_own (F := ptF) h.ports).size
 have HFL := hide (grow_own (F := fentF) h.f).size
 generalize hw1 : w.alloc (Obj.cells #[.slice a n c, .int .i64 B.id, .string B.name, .slice none 0 0, .slice fa fn fc, .slice ra rn rc, .slice oa on oc, .int .i64 B.ticks, .int .i64 B.parse, .int .i64 B.word, .int .i64 B.drops, .int .i64 B.vers] 130) = w1
 generalize hw2 : w1.alloc (Obj.cells #[.int .i64 0, .string ⟨#[]⟩, .slice none 0 0, .slice none 0 0, .slice none 0 0, .slice none 0 0, .int .i64 0, .int .i64 0, .int .i64 0, .int .i64 0, .int .i64 0] 67) = w2
 have b01 : Below w.heap.size w w1 := by rw [← hw1]; exact below_one _ _
 have b12 : Below w1.heap.size w1 w2 := by rw [← hw2]; exact below_one _ _
 have z1 : w.heap.size < w1.heap.size := by rw [← hw1]; simp
 have st2 : IbSt w w2 w1.heap.size w.heap.size #[.int .i64 0, .string ⟨#[]⟩, .slice none 0 0, .slice none 0 0, .slice none 0 0, .slice none 0 0, .int .i64 0, .int .i64 0, .int .i64 0, .int .i64 0, .int .i64 0] #[.slice a n c, .int .i64 B.id, .string B.name, .slice none 0 0, .slice fa fn fc, .slice ra rn rc, .slice oa on oc, .int .i64 B.ticks, .int .i64 B.parse, .int .i64 B.word, .int .i64 B.drops, .int .i64 B.vers] 67 130 := ⟨kept_block (by rw [← hw1]; exact block_last _ _) b12, by rw [← hw2]; exact block_last _ _, gr_trans b01 b12, Nat.le_refl _, Nat.le_of_lt z1, Nat.ne_of_gt z1⟩
 have own2 := h.below (gr_trans b01 b12)
 obtain ⟨x0, x1, x2, x3, x4, x5, x6, x7, x8, x9, x10, x11⟩ := cells12 st2.box
 have f11 := frozen8 st2.box 11
 obtain ⟨V, hV⟩ : ∃ V, V = oneMore B.vers := ⟨_, rfl⟩
 have HV := hide hV
 have HVR := hide hv
 have HR := hide hR
 clear hv hR z1 b01 b12
 go_enter Tryz.func147, Tryz.ntmps147
 go_wp2_with fail
 refine (implOne_any B.vers _ HVR.out.2 HVR.out.1).mono ?_
 rintro e w3 ⟨rfl, e3⟩
 obtain rfl := e3.symm
 rw [← hV]
 clear hV hw1 hw2
 generalize hRR : w1.heap.size = R at *
 have st4 := st2.put 11 (.int .i64 V) (cs' := #[.slice a n c, .int .i64 B.id, .string B.name, .slice none 0 0, .slice fa fn fc, .slice ra rn rc, .slice oa on oc, .int .i64 B.ticks, .int .i64 B.parse, .int .i64 B.word, .int .i64 B.drops, .int .i64 V]) rfl
 have own4 := own2.other st2.box (by decide) (by decide) (by decide) (by decide) 11 (.int .i64 V)
 generalize hw4 : w2.setCell ⟨w.heap.size, 11, none⟩ (.int .i64 V) = w4 at st4 own4
 go_upto_region 2 with fail
 clear x0 x1 x2 x3 x4 x5 x6 x7 x8 x9 x10 x11 f11 st2 own2
 try rw [hw4]
 clear hw4
 obtain ⟨x0, x1, x2, x3, x4, x5, x6, x7, x8, x9, x10, x11⟩ := cells12 st4.box
 generalize hbits : sendsOf B.id B.ports = bits
 have HBI := hide hbits
 go_wp2_with fail
 refine (implQuiet_made B.id a n c B.ports _ (grow_own (F := ptF) own4.ports) hn bits hbits).mono ?_
 rintro e w5 ⟨aq, cq, rfl, oq, hb5⟩
 have st5 := st4.later hb5
 have own5 := own4.below hb5
 have HQ6 := hide (Nat.le_trans (quiet_len bits n) hn)
 have HQF := hide (quiet_flush bits B.f n)
 have oq := gown_lt oq (base' := w.heap.size) st4.below.size
 clear x0 x1 x2 x3 x4 x5 x6 x7 x8 x9 x10 x11 st4 own4 hb5 hbits
 generalize hqs : quietTo bits n = qs at *
 generalize hqn : qs.length = qn at *
 have HQN := hide hqn
 clear hqn hqs
 go_wp2_with fail
 go_loopw [18] (fun i wr => ∃ (k : Nat) (fa2 : Option Addr) (fn2 fc2 : Nat), k ≤ qn ∧ i = .int .i64 k ∧ fn2 ≤ fn ∧ IbSt w wr R w.heap.size #[.int .i64 0, .string ⟨#[]⟩, .slice none 0 0, .slice none 0 0, .slice none 0 0, .slice none 0 0, .int .i64 0, .int .i64 0, .int .i64 0, .int .i64 0, .int .i64 0] #[.slice a n c, .int .i64 B.id, .string B.name, .slice none 0 0, .slice fa2 fn2 fc2, .slice ra rn rc, .slice oa on oc, .int .i64 B.ticks, .int .i64 B.parse, .int .i64 B.word, .int .i64 B.drops, .int .i64 V] 67 130 ∧ BrOwn wr base a n c fa2 fn2 fc2 ra rn rc oa on oc { B with f := (qs.take k).foldl flushF B.f } ∧ wr.ownsRow w.heap.size 3 1 (.slice aq qn cq) qn (intF.all qs)) (fun i _ => qn - (intOf i).toNat)
 case atStart => exact ⟨0, fa, fn, fc, Nat.zero_le _, rfl, Nat.le_refl _, st5, own5, oq⟩
 case round =>
  obtain ⟨k, fa2, fn2, fc2, hk, rfl, hf2, st, own, oq⟩ := hrel
  have hq6 : qn ≤ 6 := HQ6.out
  clear st5 own5
  obtain ⟨x0, x1, x2, x3, x4, x5, x6, x7, x8, x9, x10, x11⟩ := cells12 st.box
  by_cases hlt : k < qn
  ·have i1 : (0 : Int) ≤ (k : Int) := by omega
   have i2 : (k : Int) < (qn : Int) := by omega
   obtain ⟨z, qb, qo, hz, rfl, cz⟩ := int_at oq k hlt
   have HF := hide (take_succ_fold hz B.f)
   have HRF : Hid (∀ x ∈ (qs.take k).foldl flushF B.f, x.Rng) := hide (folds_rng _ HR.out)
   have HLF : Hid (((qs.take (k + 1)).foldl flushF B.f).length ≤ fn) := hide (by have := folds_len (qs.take (k + 1)) (l := B.f); have := HFL.out; omega)
   clear hz
   generalize hLS : (qs.take k).foldl flushF B.f = ls at *
   go_wp2_with fail
   refine (implFlush_rng fa2 fn2 fc2 ls z _ (grow_own (F := fentF) own.f) (by omega) HRF.out).mono ?_
   rintro e w7 ⟨fa7, fc7, rfl, o7, -, hb7⟩
   have st7 := st.later hb7
   have oq7 := gown_below oq hb7
   have o7 := gown_lt o7 (base' := base) (Nat.le_trans hbase st.below.size)
   have own7 := (own.below hb7).putF (Below.refl _ _) o7
   clear x0 x1 x2 x3 x4 x5 x6 x7 x8 x9 x10 x11 hb7 o7 st own cz oq
   obtain ⟨x0, x1, x2, x3, x4, x5, x6, x7, x8, x9, x10, x11⟩ := cells12 st7.box
   have f4 := frozen8 st7.box 4
   rw [← HF.out] at own7 ⊢
   generalize hL : ((qs.take (k + 1)).foldl flushF B.f).length = L at *
   have HST := hide (st7.put 4 (.slice fa7 L fc7) (cs' := #[.slice a n c, .int .i64 B.id, .string B.name, .slice none 0 0, .slice fa7 L fc7, .slice ra rn rc, .slice oa on oc, .int .i64 B.ticks, .int .i64 B.parse, .int .i64 B.word, .int .i64 B.drops, .int .i64 V]) rfl)
   have HOW := hide (own7.other st7.box (by decide) (by decide) (by decide) (by decide) 4 (.slice fa7 L fc7))
   have HOQ := hide (st7.stay oq7 (by decide) 4 (.slice fa7 L fc7))
   clear st7 own7 oq7 hL
   go_wp2
   go_roundw
   case rel => exact ⟨k + 1, fa7, L, fc7, by omega, by go_num, HLF.out, HST.out, HOW.out, HOQ.out⟩
   case measure => simp [intOf]; omega
  ·have hkn : k = qn := by omega
   subst hkn
   have HT : Hid (turned B = { B with vers := V, f := (qs.take k).foldl flushF B.f }) := hide (by unfold turned; rw [HBI.out, hpl.out, HV.out, ← HQF.out, List.take_of_length_le (by rw [HQN.out]; exact Nat.le_refl _)])
   have HST := hide st
   have HOW := hide own
   clear st own oq
   go_wp2_with fail
   refine (implFace_any a n c fa2 fn2 fc2 ra rn rc oa on oc { B with vers := V } _).mono ?_
   rintro e w8 ⟨rfl, hb8⟩
   have st8 := HST.out.later hb8
   have own8 := HOW.out.below hb8
   clear x0 x1 x2 x3 x4 x5 x6 x7 x8 x9 x10 x11 hb8
   obtain ⟨y0, y1, y2, y3, y4, y5, y6, y7, y8, y9, y10⟩ := cells11 st8.res
   have fr := frozen8 st8.res
   have fr0 := fr 0
   have fr1 := fr 1
   have fr2 := fr 2
   have fr3 := fr 3
   have fr4 := fr 4
   have fr5 := fr 5
   have fr6 := fr 6
   have fr7 := fr 7
   have fr8 := fr 8
   have fr9 := fr 9
   have fr10 := fr 10
   have HO := hide (own8.boxed11 st8.res (.int .i64 B.id) (.string B.name) (.slice a n c) (.slice fa2 fn2 fc2) (.slice ra rn rc) (.slice oa on oc) (.int .i64 B.ticks) (.int .i64 B.parse) (.int .i64 B.word) (.int .i64 B.drops) (.int .i64 V))
   have HB := hide (below_set11 st8.below st8.hR (.int .i64 B.id) (.string B.name) (.slice a n c) (.slice fa2 fn2 fc2) (.slice ra rn rc) (.slice oa on oc) (.int .i64 B.ticks) (.int .i64 B.parse) (.int .i64 B.word) (.int .i64 B.drops) (.int .i64 V))
   clear st8 own8 fr
   go_wp2
   exact bodyPost_ret (v := .agg #[.int .i64 B.id, .string B.name, .slice a n c, .slice fa2 fn2 fc2, .slice ra rn rc, .slice oa on oc, .int .i64 B.ticks, .int .i64 B.parse, .int .i64 B.word, .int .i64 B.drops, .int .i64 V]) (by simp [results, Tryz.results147, go_sem, *]) rfl ⟨fa2, fn2, fc2, (by rw [HV.out]), (by rw [HT.out]; exact ⟨HO.out.ports, HO.out.f, HO.out.v⟩), HB.out⟩

set_option maxRecDepth 100000 in
set_option maxHeartbeats 1000000 in
theorem sameId_any (x : BV) (id : Int) (g : Nat) (w : World) (c : w.cell? ⟨g, 0, none⟩ = some (.int .i64 id)) :
  Calls Tryz.prog 128 #[.agg #[.int .i64 x.B.id, .string x.B.name, .slice x.a x.n x.c, .slice x.fa x.fn x.fc, .slice x.ra x.rn x.rc, .slice x.oa x.on x.oc, .int .i64 x.B.ticks, .int .i64 x.B.parse, .int .i64 x.B.word, .int .i64 x.B.drops, .int .i64 x.B.vers], .pointer (some ⟨g, 0, none⟩)] w fun e w' => e = .returned (.bool (decide (x.B.id = id))) ∧ Below w.heap.size w w' := by
 generalize hw1 : w.alloc (Obj.cells #[.int .i64 x.B.id, .string x.B.name, .slice x.a x.n x.c, .slice x.fa x.fn x.fc, .slice x.ra x.rn x.rc, .slice x.oa x.on x.oc, .int .i64 x.B.ticks, .int .i64 x.B.parse, .int .i64 x.B.word, .int .i64 x.B.drops, .int .i64 x.B.vers] 67) = w1
 have b1 : Below w.heap.size w w1 := by rw [← hw1]; exact below_one _ _
 have k1 : w1.heap[w.heap.size]? = some (.cells #[.int .i64 x.B.id, .string x.B.name, .slice x.a x.n x.c, .slice x.fa x.fn x.fc, .slice x.ra x.rn x.rc, .slice x.oa x.on x.oc, .int .i64 x.B.ticks, .int .i64 x.B.parse, .int .i64 x.B.word, .int .i64 x.B.drops, .int .i64 x.B.vers] 67) := by rw [← hw1]; exact block_last _ _
 obtain ⟨c0, c1, c2, c3, c4, c5, c6, c7, c8, c9, c10⟩ := cells11 k1
 have cg := (b1.cell (block_lt c)).trans c
 clear c
 by_cases he : x.B.id = id
 ·have HE := hide he
  clear he
  go_enter Tryz.func128, Tryz.ntmps128
  go_wp2
  go_ret
  exact ⟨ret_bool (by rw [HE.out]; simp), b1⟩
 ·have HE := hide he
  clear he
  go_enter Tryz.func128, Tryz.ntmps128
  go_wp2
  go_ret
  exact ⟨ret_bool (by have := HE.out; simp [this]), b1⟩

set_option maxRecDepth 100000 in
set_option maxHeartbeats 2000000 in
theorem idIndex_any (a : Option Addr) (n c : Nat) (l : List BV) (id : Int) (g : Nat) (w : World) (h : GRow brF w a n c l) (cg : w.cell? ⟨g, 0, none⟩ = some (.int .i64 id)) :
  Calls Tryz.prog 165 #[.slice a n c, .func (.func 128) #[] #[.pointer (some ⟨g, 0, none⟩)]] w fun e w' => ∃ k : Int, e = .returned (.int .i64 k) ∧ (0 ≤ k ↔ ∃ y ∈ l, y.B.id = id) ∧ Below w.heap.size w w' := by
 have hle := h.le
 have htop := h.top
 unfold maxLen at htop
 have hsz := h.size
 go_enter Tryz.func165, Tryz.ntmps165
 go_wp2
 go_loopw [8] (fun i wr => ∃ k : Nat, k ≤ n ∧ i = .int .i64 k ∧ (∀ y ∈ l.take k, ¬ y.B.id = id) ∧ Below w.heap.size w wr) (fun i _ => n - (intOf i).toNat)
 case atStart => exact ⟨0, Nat.zero_le _, rfl, by intro y hy; simp at hy, Below.refl _ _⟩
 case round =>
  obtain ⟨k, hk, rfl, hno, hb⟩ := hrel
  by_cases hlt : k < n
  ·obtain ⟨x, b, off, hx, rfl, ca0, ca1, ca2, ca3, ca4, ca5, ca6, ca7, ca8, ca9, ca10⟩ := br_at (h.below hb) k hlt
   have HX := hide hx
   have HN := hide hno
   have HB := hide hb
   clear hno hb hx
   go_wp2_with fail
   refine (sameId_any x id g _ ((HB.out.cell (block_lt cg)).trans cg)).mono ?_
   rintro r w1 ⟨rfl, hb1⟩
   have HB1 := hide (gr_trans HB.out hb1)
   clear hb1 ca0 ca1 ca2 ca3 ca4 ca5 ca6 ca7 ca8 ca9 ca10
   by_cases t1 : x.B.id = id
   ·have HF : Hid (∃ y ∈ l, y.B.id = id) := hide ⟨x, List.mem_of_getElem? HX.out, t1⟩
    rw [decide_eq_true t1]
    clear t1
    go_wp2
    go_ret
    exact ⟨(k : Int), rfl, ⟨fun _ => HF.out, fun _ => by omega⟩, HB1.out⟩
   ·have HO := hide (all_next (P := fun y : BV => ¬ y.B.id = id) HX.out HN.out t1)
    rw [decide_eq_false t1]
    clear t1
    go_wp2
    go_roundw
    case rel => exact ⟨k + 1, by omega, by go_num, HO.out, HB1.out⟩
    case measure => simp [intOf]; omega
  ·have hkn : k = n := by omega
   rw [List.take_of_length_le (by omega)] at hno
   have HN := hide hno
   clear hno
   subst hkn
   go_wp2
   go_ret
   exact ⟨-1, rfl, ⟨fun e => by omega, fun ⟨y, hy, e⟩ => absurd e (HN.out y hy)⟩, hb⟩

set_option maxRecDepth 100000 in
set_option maxHeartbeats 1000000 in
theorem idContains_any (a : Option Addr) (n c : Nat) (l : List BV) (id : Int) (g : Nat) (w : World) (h : GRow brF w a n c l) (cg : w.cell? ⟨g, 0, none⟩ = some (.int .i64 id)) :
  Calls Tryz.prog 130 #[.slice a n c, .func (.func 128) #[] #[.pointer (some ⟨g, 0, none⟩)]] w fun e w' => Says (∃ y ∈ l, y.B.id = id) w e w' := by
 go_enter Tryz.func130, Tryz.ntmps130
 go_wp2_with fail
 refine (idIndex_any a n c l id g _ h cg).mono ?_
 rintro e w1 ⟨k, rfl, hk, hb⟩
 have HK := hide hk
 clear hk
 go_wp2
 go_ret
 exact ⟨decide (0 ≤ k), ret_bool (by simp), by rw [← HK.out]; simp, hb⟩

set_option maxRecDepth 100000 in
set_option maxHeartbeats 4000000 in
theorem implBridges_any (a : Option Addr) (n c : Nat) (l : List BV) (w : World) (h : GRow brF w a n c l) (hr : ∀ x ∈ l, x.Reads w) (hm : ∀ x ∈ l, x.fn ≤ 16777216) (hR : ∀ x ∈ l, ∀ r ∈ x.B.v.rows, r.Rng) :
  Calls Tryz.prog 74 #[.slice a n c] w fun e w' => Says (BridgesOk (l.map BV.B)) w e w' := by
 have hle := h.le
 have htop := h.top
 unfold maxLen at htop
 have hsz := h.size
 have hlen : (l.map BV.B).length = n := by simp [hsz]
 have hat : ∀ {i : Nat} {x : BV}, l[i]? = some x → (l.map BV.B)[i]? = some x.B := fun hx => by rw [List.getElem?_map, hx]; rfl
 generalize hbs : l.map BV.B = bs at *
 cases hA : (decide (1 ≤ (n : Int)) && decide ((n : Int) ≤ 6))
 ·have HNO : Hid ((false = true) ↔ BridgesOk bs) := hide (no_iff fun hp => by have h1 := hp.2.2.1; have h2 := hp.2.2.2; simp at hA; omega)
  go_enter Tryz.func74, Tryz.ntmps74
  go_wp2_with fail
  refine (implWithin_any (n : Int) 1 6 _).mono ?_
  rintro e w2 ⟨rfl, ew⟩
  obtain rfl := ew.symm
  rw [hA]
  clear hA
  go_wp2
  go_ret
  exact ⟨false, rfl, HNO.out, Below.refl _ _⟩
 have hn6 : 1 ≤ n ∧ n ≤ 6 := by simp at hA; omega
 go_enter Tryz.func74, Tryz.ntmps74
 go_wp2_with fail
 refine (implWithin_any (n : Int) 1 6 _).mono ?_
 rintro e w2 ⟨rfl, ew⟩
 obtain rfl := ew.symm
 rw [hA]
 clear hA
 go_wp2_with fail
 go_loopw [12] (fun i wr => ∃ k : Nat, k ≤ n ∧ i = .int .i64 k ∧ (∀ y ∈ bs.take k, bridgeOk y = true) ∧ (∀ (i j : Nat) (x y : BR), i < j → j < k → bs[i]? = some x → bs[j]? = some y → x.id ≠ y.id) ∧ Below w.heap.size w wr) (fun i _ => n - (intOf i).toNat)
 case atStart => exact ⟨0, Nat.zero_le _, rfl, by intro y hy; simp at hy, by intro i j x y _ hj; omega, Below.refl _ _⟩
 case round =>
  obtain ⟨k, hk, rfl, hok, hid, hb⟩ := hrel
  by_cases hlt : k < n
  ·obtain ⟨x, b, off, hx, rfl, ca0, ca1, ca2, ca3, ca4, ca5, ca6, ca7, ca8, ca9, ca10⟩ := br_at (h.below hb) k hlt
   have hmem := List.mem_of_getElem? hx
   have HBX := hide (hat hx)
   have HOK := hide hok
   have HID := hide hid
   generalize hwa : wr.alloc (Obj.cells #[.int .i64 x.B.id, .string x.B.name, .slice x.a x.n x.c, .slice x.fa x.fn x.fc, .slice x.ra x.rn x.rc, .slice x.oa x.on x.oc, .int .i64 x.B.ticks, .int .i64 x.B.parse, .int .i64 x.B.word, .int .i64 x.B.drops, .int .i64 x.B.vers] 67) = wa
   have ba : Below wr.heap.size wr wa := by rw [← hwa]; exact below_one _ _
   have ka : wa.heap[wr.heap.size]? = some (.cells #[.int .i64 x.B.id, .string x.B.name, .slice x.a x.n x.c, .slice x.fa x.fn x.fc, .slice x.ra x.rn x.rc, .slice x.oa x.on x.oc, .int .i64 x.B.ticks, .int .i64 x.B.parse, .int .i64 x.B.word, .int .i64 x.B.drops, .int .i64 x.B.vers] 67) := by rw [← hwa]; exact block_last _ _
   have b0a := gr_trans hb ba
   obtain ⟨c0, c1, c2, c3, c4, c5, c6, c7, c8, c9, c10⟩ := cells11 ka
   have i1 : (0 : Int) ≤ (k : Int) := by omega
   have i2 : (k : Int) < (n : Int) := by omega
   have hrx := hr x hmem
   clear hok hid hx
   go_wp2_with fail
   refine (implBridgeOk_any x.a x.n x.c x.fa x.fn x.fc x.ra x.rn x.rc x.oa x.on x.oc x.B _ (hrx.below b0a) (hm x hmem) (hR x hmem)).mono ?_
   rintro e w3 ⟨rfl, hb3⟩
   have k3 := kept_block ka hb3
   have b03 := gr_trans b0a hb3
   generalize hRR : wr.heap.size = G at *
   clear c0 c1 c2 c3 c4 c5 c6 c7 c8 c9 c10 ca0 ca1 ca2 ca3 ca4 ca5 ca6 ca7 ca8 ca9 ca10 ka ba hb3 b0a hwa
   cases hB : bridgeOk x.B
   ·have HNO : Hid ((false = true) ↔ BridgesOk bs) := hide (no_iff fun hp => by have := hp.1 x.B (List.mem_of_getElem? HBX.out); rw [hB] at this; cases this)
    go_wp2
    go_ret
    exact ⟨false, rfl, HNO.out, b03⟩
   ·have HOK' := hide (all_next HBX.out HOK.out hB)
    have hkc : (k : Int) ≤ (c : Int) := by omega
    obtain ⟨c0, c1, c2, c3, c4, c5, c6, c7, c8, c9, c10⟩ := cells11 k3
    go_wp2_with fail
    refine (idContains_any (some ⟨b, off, none⟩) k c (l.take k) x.B.id G _ ((GRow.take h (by omega)).below b03) c0).mono ?_
    rintro e w4 ⟨q, rfl, hq, hb4⟩
    have HB4 := hide (gr_trans b03 hb4)
    have HQ := hide hq
    clear hq hb4 c0 c1 c2 c3 c4 c5 c6 c7 c8 c9 c10 k3
    cases q
    ·have HID' : Hid (∀ (i j : Nat) (u v : BR), i < j → j < k + 1 → bs[i]? = some u → bs[j]? = some v → u.id ≠ v.id) := hide (fun i j u v hij hj hu hv => by
      by_cases hjm : j = k
      ·subst hjm
       rw [HBX.out] at hv
       cases hv
       intro he
       have : ∃ y ∈ l.take j, y.B.id = x.B.id := by
        rw [← hbs, List.getElem?_map] at hu
        cases hy : l[i]? with
        | none => rw [hy] at hu; cases hu
        | some y =>
         rw [hy] at hu
         cases hu
         exact ⟨y, List.mem_of_getElem? (by rw [List.getElem?_take_of_lt hij]; exact hy), he⟩
       have := HQ.out.2 this
       cases this
      ·exact HID.out i j u v hij (by omega) hu hv)
     go_wp2
     go_roundw
     case rel => exact ⟨k + 1, by omega, by go_num, HOK'.out, HID'.out, HB4.out⟩
     case measure => simp [intOf]; omega
    ·have HNO : Hid ((false = true) ↔ BridgesOk bs) := hide (no_iff fun hp => by
      obtain ⟨y, hy, he⟩ := HQ.out.1 rfl
      obtain ⟨i, hi⟩ := List.getElem?_of_mem hy
      have hik : i < k := by have := (List.getElem?_eq_some_iff.1 hi).1; rw [List.length_take] at this; omega
      rw [List.getElem?_take_of_lt hik] at hi
      exact hp.2.1 i k _ _ hik (hat hi) HBX.out he)
     go_wp2
     go_ret
     exact ⟨false, rfl, HNO.out, HB4.out⟩
  ·have hkn : k = n := by omega
   rw [List.take_of_length_le (by omega)] at hok
   have HP : Hid (BridgesOk bs) := hide ⟨hok, fun i j x y hij hx hy => hid i j x y hij (by have := (List.getElem?_eq_some_iff.1 hy).1; omega) hx hy, by omega, by omega⟩
   clear hok hid
   subst hkn
   go_wp2
   go_ret
   exact ⟨true, rfl, yes_iff HP.out, hb⟩

set_option maxRecDepth 100000 in
set_option maxHeartbeats 8000000 in
theorem implQuiet13_any (N : NV) (w : World) (h : NetRow w N) :
  Calls Tryz.prog 76 #[.agg #[.slice N.ba N.bn N.bc, .slice N.la N.ln N.lc, .slice N.sa N.sn N.sc]] w fun e w' => Says (Quiet N.brs N.ls) w e w' := by
 obtain ⟨ba, bn, bc, bs, la, ln, lc, ls, sa, sn, sc, ss⟩ := N
 have hG := h.b
 have hle := Nat.le_trans hG.le hG.top
 unfold maxLen at hle
 have hsz := hG.size
 have hat : ∀ {i : Nat} {x : BV}, bs[i]? = some x → (bs.map BV.B)[i]? = some x.B := fun hx => by rw [List.getElem?_map, hx]; rfl
 have hlen : (bs.map BV.B).length = bn := by simp; exact hsz
 have hitem : ∀ x ∈ bs, x.Reads w := h.item
 have HH := hide h
 clear h
 generalize hbR : NV.brs ⟨ba, bn, bc, bs, la, ln, lc, ls, sa, sn, sc, ss⟩ = bR
 have hbR' : bs.map BV.B = bR := hbR
 rw [hbR'] at hat hlen
 clear hbR hbR'
 dsimp only at hG hle hsz ⊢
 generalize hw1 : w.alloc (Obj.cells #[.slice ba bn bc, .slice la ln lc, .slice sa sn sc] 34) = w1
 have b01 : Below w.heap.size w w1 := by rw [← hw1]; exact below_one _ _
 have k1 : w1.heap[w.heap.size]? = some (.cells #[.slice ba bn bc, .slice la ln lc, .slice sa sn sc] 34) := by rw [← hw1]; exact block_last _ _
 obtain ⟨x0, x1, x2⟩ := cells3m k1
 go_enter Tryz.func76, Tryz.ntmps76
 go_wp2_with fail
 clear hw1 x0 x1 x2
 go_loopw [13] (fun i wr => ∃ k : Nat, k ≤ bn ∧ i = .int .i64 k ∧ (∀ (i : Nat) (B : BR), i < k → bR[i]? = some B → QuietAt ls i B) ∧ wr.heap[w.heap.size]? = some (.cells #[.slice ba bn bc, .slice la ln lc, .slice sa sn sc] 34) ∧ Below w.heap.size w wr) (fun i _ => bn - (intOf i).toNat)
 case atStart => exact ⟨0, Nat.zero_le _, rfl, by intro i B hi; omega, k1, b01⟩
 case round =>
  obtain ⟨k, hk, rfl, hqt, hbox, hb⟩ := hrel
  clear k1 b01
  by_cases hlt : k < bn
  ·obtain ⟨x, bb, off, hx, rfl, ca0, ca1, ca2, ca3, ca4, ca5, ca6, ca7, ca8, ca9, ca10⟩ := br_at (hG.below hb) k hlt
   have hrow := hitem x (List.mem_of_getElem? hx)
   have hpl := Nat.le_trans hrow.ports.le hrow.ports.top
   unfold maxLen at hpl
   have hps := hrow.ports.size
   have i1 : (0 : Int) ≤ (k : Int) := by omega
   have i2 : (k : Int) < (bn : Int) := by omega
   have HBX := hide (hat hx)
   have HQT := hide hqt
   generalize hwa : wr.alloc (Obj.cells #[.int .i64 x.B.id, .string x.B.name, .slice x.a x.n x.c, .slice x.fa x.fn x.fc, .slice x.ra x.rn x.rc, .slice x.oa x.on x.oc, .int .i64 x.B.ticks, .int .i64 x.B.parse, .int .i64 x.B.word, .int .i64 x.B.drops, .int .i64 x.B.vers] 67) = wa
   have ba9 : Below wr.heap.size wr wa := by rw [← hwa]; exact below_one _ _
   have ka : wa.heap[wr.heap.size]? = some (.cells #[.int .i64 x.B.id, .string x.B.name, .slice x.a x.n x.c, .slice x.fa x.fn x.fc, .slice x.ra x.rn x.rc, .slice x.oa x.on x.oc, .int .i64 x.B.ticks, .int .i64 x.B.parse, .int .i64 x.B.word, .int .i64 x.B.drops, .int .i64 x.B.vers] 67) := by rw [← hwa]; exact block_last _ _
   have kNe := kept_block hbox ba9
   have b0a := gr_trans hb ba9
   obtain ⟨c0, c1, c2, c3, c4, c5, c6, c7, c8, c9, c10⟩ := cells11 ka
   clear hx hqt hbox
   go_wp2_with fail
   clear c0 c1 c2 c3 c4 c5 c6 c7 c8 c9 c10 ca0 ca1 ca2 ca3 ca4 ca5 ca6 ca7 ca8 ca9 ca10 ka ba9 hwa hb
   go_loopw [21] (fun i wr => ∃ p : Nat, p ≤ x.n ∧ i = .int .i64 p ∧ (∀ (i : Nat) (y : PT), i < p → x.B.ports[i]? = some y → y.has = true → usedL ls (k : Int) (i : Int) ≠ 0) ∧ wr.heap[w.heap.size]? = some (.cells #[.slice (some ⟨bb, off, none⟩) bn bc, .slice la ln lc, .slice sa sn sc] 34) ∧ Below w.heap.size w wr) (fun i _ => x.n - (intOf i).toNat)
   case atStart => exact ⟨0, Nat.zero_le _, rfl, by intro i y hi; omega, kNe, b0a⟩
   case round =>
    obtain ⟨p, hp, rfl, hq, hbox5, hb5⟩ := hrel
    clear kNe b0a
    by_cases hpn : p < x.n
    ·obtain ⟨y, pb, po, hy, hpa, d0, d1, d2, d3, d4, d5, d6, d7⟩ := pt_at (hrow.ports.below hb5) p hpn
     obtain ⟨xa, xn, xc, xfa, xfn, xfc, xra, xrn, xrc, xoa, xon, xoc, xB⟩ := x
     dsimp only at hpa hpn hp hrow hpl hps HBX hq hy ⊢
     subst hpa
     have i3 : (0 : Int) ≤ (p : Int) := by omega
     have i4 : (p : Int) < (xn : Int) := by omega
     have HQ := hide hq
     have HY := hide hy
     generalize hwb : wr.alloc (Obj.cells #[.bool y.up, .int .i64 y.k, .bool y.has, .int .i64 y.v.r, .int .i64 y.v.c, .int .i64 y.v.h, .int .i64 y.v.b, .int .i64 y.v.p] 113) = wb
     have bb9 : Below wr.heap.size wr wb := by rw [← hwb]; exact below_one _ _
     have kp : wb.heap[wr.heap.size]? = some (.cells #[.bool y.up, .int .i64 y.k, .bool y.has, .int .i64 y.v.r, .int .i64 y.v.c, .int .i64 y.v.h, .int .i64 y.v.b, .int .i64 y.v.p] 113) := by rw [← hwb]; exact block_last _ _
     have kNe := kept_block hbox5 bb9
     have b0b := gr_trans hb5 bb9
     obtain ⟨x0, x1, x2⟩ := cells3m kNe
     clear hq hy hbox5
     go_wp2_with fail
     refine (implBeside_any ⟨some ⟨bb, off, none⟩, bn, bc, bs, la, ln, lc, ls, sa, sn, sc, ss⟩ (k : Int) (p : Int) _ (HH.out.below b0b)).mono ?_
     rintro e w6 ⟨rfl, hb6⟩
     have kNe := kept_block kNe hb6
     have kp := kept_block kp hb6
     have b06 := gr_trans b0b hb6
     generalize hRR : wr.heap.size = G at *
     clear x0 x1 x2 d0 d1 d2 d3 d4 d5 d6 d7 hwb bb9 b0b hb6 hb5
     obtain ⟨o0, o1, o2, o3, o4, o5, o6, o7⟩ := cells8 kp
     dsimp only
     have hBU := beside_used ls (k : Int) (p : Int)
     have HKN := hide kNe
     cases hh : y.has
     ·rw [hh] at o2
      have HNX : Hid (∀ (i : Nat) (z : PT), i < p + 1 → xB.ports[i]? = some z → z.has = true → usedL ls (k : Int) (i : Int) ≠ 0) := hide (fun i z hi hz hzh => by
       by_cases hip : i = p
       ·subst hip; rw [HY.out] at hz; cases hz; rw [hh] at hzh; cases hzh
       ·exact HQ.out i z (by omega) hz hzh)
      obtain ⟨t1, t2, t3, hT⟩ : ∃ (x y : Int) (z : Bool), besideV (besideL ls (k : Int) (p : Int)) = .tuple #[.int .i64 x, .int .i64 y, .bool z] := by
       cases besideL ls (k : Int) (p : Int) with
       | none => exact ⟨_, _, _, rfl⟩
       | some q => exact ⟨_, _, _, rfl⟩
      rw [hT]
      clear hT hBU kNe
      go_wp2
      go_roundw
      case rel => exact ⟨p + 1, by omega, by go_num, HNX.out, HKN.out, b06⟩
      case measure => simp [intOf]; omega
     ·rw [hh] at o2
      cases hBS : besideL ls (k : Int) (p : Int) with
      | none =>
       have hu := hBU.1 hBS
       have HNO : Hid ((false = true) ↔ Quiet bR ls) := hide (no_iff fun hp => hp k _ HBX.out p y HY.out hh hu)
       clear hBU hu kNe hBS
       unfold besideV
       dsimp only
       go_wp2
       go_ret
       exact ⟨false, rfl, HNO.out, b06⟩
      | some q =>
       have hu : ¬ usedL ls (k : Int) (p : Int) = 0 := fun e => by rw [hBU.2 e] at hBS; cases hBS
       have HNX : Hid (∀ (i : Nat) (z : PT), i < p + 1 → xB.ports[i]? = some z → z.has = true → usedL ls (k : Int) (i : Int) ≠ 0) := hide (fun i z hi hz hzh => by
        by_cases hip : i = p
        ·subst hip; exact hu
        ·exact HQ.out i z (by omega) hz hzh)
       clear hBU hu kNe hBS
       obtain ⟨qa, qb⟩ := q
       unfold besideV
       dsimp only
       go_wp2
       go_roundw
       case rel => exact ⟨p + 1, by omega, by go_num, HNX.out, HKN.out, b06⟩
       case measure => simp [intOf]; omega
    ·have hpx : p = x.n := by omega
     have HQT' : Hid (∀ (i : Nat) (B : BR), i < k + 1 → bR[i]? = some B → QuietAt ls i B) := hide (fun i B hi hB => by
      by_cases him : i = k
      ·subst him
       rw [HBX.out] at hB
       cases hB
       intro q y hy hyh
       exact hq q y (by have := (List.getElem?_eq_some_iff.1 hy).1; omega) hy hyh
      ·exact HQT.out i B (by omega) hB)
     have HBOX5 := hide hbox5
     have HB5 := hide hb5
     clear hq hbox5 hb5
     go_wp2
     go_roundw
     case rel => exact ⟨k + 1, by omega, by go_num, HQT'.out, HBOX5.out, HB5.out⟩
     case measure => simp [intOf]; omega
  ·have hkn : k = bn := by omega
   have HP : Hid (Quiet bR ls) := hide (fun i B hB => hqt i B (by have := (List.getElem?_eq_some_iff.1 hB).1; omega) hB)
   clear hqt
   subst hkn
   go_wp2
   go_ret
   exact ⟨true, rfl, yes_iff HP.out, hb⟩

set_option maxRecDepth 100000 in
set_option maxHeartbeats 4000000 in
theorem implSaid_any (N : NV) (w : World) (h : NetRow w N) :
  Calls Tryz.prog 77 #[.agg #[.slice N.ba N.bn N.bc, .slice N.la N.ln N.lc, .slice N.sa N.sn N.sc]] w fun e w' => Says (SaidOk N.ls N.ss) w e w' := by
 obtain ⟨ba, bn, bc, bs, la, ln, lc, ls, sa, sn, sc, ss⟩ := N
 have hS := h.s
 have hls := h.l.size
 have hll := Nat.le_trans h.l.le h.l.top
 have hle := Nat.le_trans hS.le hS.top
 unfold maxLen at hle hll
 have hsz := hS.size
 clear h
 dsimp only at hS hle hll hls hsz ⊢
 generalize hw1 : w.alloc (Obj.cells #[.slice ba bn bc, .slice la ln lc, .slice sa sn sc] 34) = w1
 have b01 : Below w.heap.size w w1 := by rw [← hw1]; exact below_one _ _
 have k1 : w1.heap[w.heap.size]? = some (.cells #[.slice ba bn bc, .slice la ln lc, .slice sa sn sc] 34) := by rw [← hw1]; exact block_last _ _
 obtain ⟨x0, x1, x2⟩ := cells3m k1
 by_cases s40 : (sn : Int) > 40
 ·have HNO : Hid ((false = true) ↔ SaidOk ls ss) := hide (no_iff fun hp => by have := hp.1; omega)
  go_enter Tryz.func77, Tryz.ntmps77
  go_wp2
  go_ret
  exact ⟨false, rfl, HNO.out, b01⟩
 go_enter Tryz.func77, Tryz.ntmps77
 go_wp2_with fail
 clear hw1 x0 x1 x2
 go_loopw [12] (fun i wr => ∃ k : Nat, k ≤ sn ∧ i = .int .i64 k ∧ (∀ y ∈ ss.take k, SayOk ls y) ∧ wr.heap[w.heap.size]? = some (.cells #[.slice ba bn bc, .slice la ln lc, .slice sa sn sc] 34) ∧ Below w.heap.size w wr) (fun i _ => sn - (intOf i).toNat)
 case atStart => exact ⟨0, Nat.zero_le _, rfl, by intro y hy; simp at hy, k1, b01⟩
 case round =>
  obtain ⟨k, hk, rfl, hss, hbox, hb⟩ := hrel
  clear k1 b01
  by_cases hlt : k < sn
  ·obtain ⟨y, sb, so, hy, rfl, d0, d1, d2, d3, d4, d5, d6⟩ := say_at (hS.below hb) k hlt
   have i1 : (0 : Int) ≤ (k : Int) := by omega
   have i2 : (k : Int) < (sn : Int) := by omega
   have hmem := List.mem_of_getElem? hy
   have HY := hide hy
   have HSS := hide hss
   generalize hwa : wr.alloc (Obj.cells #[.int .i64 y.l, .bool y.back, .int .i64 y.v.r, .int .i64 y.v.c, .int .i64 y.v.h, .int .i64 y.v.b, .int .i64 y.v.p] 99) = wa
   have ba9 : Below wr.heap.size wr wa := by rw [← hwa]; exact below_one _ _
   have ka : wa.heap[wr.heap.size]? = some (.cells #[.int .i64 y.l, .bool y.back, .int .i64 y.v.r, .int .i64 y.v.c, .int .i64 y.v.h, .int .i64 y.v.b, .int .i64 y.v.p] 99) := by rw [← hwa]; exact block_last _ _
   have kNe := kept_block hbox ba9
   have b0a := gr_trans hb ba9
   obtain ⟨e0, e1, e2, e3, e4, e5, e6⟩ := cells7 ka
   obtain ⟨x0, x1, x2⟩ := cells3m kNe
   clear hy hss hbox hb
   cases h1 : (decide (0 ≤ y.l) && decide (y.l ≤ (ln : Int) - 1))
   ·have HNO : Hid ((false = true) ↔ SaidOk ls ss) := hide (no_iff fun hp => by
     have := (hp.2 y hmem).1
     rw [hls, h1] at this
     cases this)
    go_wp2_with fail
    refine (implWithin_any y.l 0 ((ln : Int) - 1) _).mono ?_
    rintro e w2 ⟨rfl, ew⟩
    obtain rfl := ew.symm
    rw [h1]
    clear h1
    go_wp2
    go_ret
    exact ⟨false, rfl, HNO.out, b0a⟩
   ·go_wp2_with fail
    refine (implWithin_any y.l 0 ((ln : Int) - 1) _).mono ?_
    rintro e w2 ⟨rfl, ew⟩
    obtain rfl := ew.symm
    rw [h1]
    have H1 := hide h1
    clear h1
    go_wp2_with fail
    refine (implVecOk_any y.v.r y.v.c y.v.h y.v.b y.v.p _).mono ?_
    rintro e w3 ⟨rfl, hb3⟩
    have HK := hide (kept_block kNe hb3)
    have HB := hide (gr_trans b0a hb3)
    clear hb3 kNe b0a ba9 ka hwa e0 e1 e2 e3 e4 e5 e6 x0 x1 x2 d0 d1 d2 d3 d4 d5 d6
    cases h2 : okVc y.v.r y.v.c y.v.h y.v.b y.v.p
    ·have HNO : Hid ((false = true) ↔ SaidOk ls ss) := hide (no_iff fun hp => by
      have := (hp.2 y hmem).2
      unfold okVd at this
      rw [h2] at this
      cases this)
     go_wp2
     go_ret
     exact ⟨false, rfl, HNO.out, HB.out⟩
    ·have HYES := hide (all_next HY.out HSS.out (P := SayOk ls) ⟨by rw [hls]; exact H1.out, h2⟩)
     go_wp2
     go_roundw
     case rel => exact ⟨k + 1, by omega, by go_num, HYES.out, HK.out, HB.out⟩
     case measure => simp [intOf]; omega
  ·have hkn : k = sn := by omega
   rw [List.take_of_length_le (by omega)] at hss
   have HP : Hid (SaidOk ls ss) := hide ⟨by omega, hss⟩
   clear hss
   subst hkn
   go_wp2
   go_ret
   exact ⟨true, rfl, yes_iff HP.out, hb⟩

set_option maxRecDepth 100000 in
set_option maxHeartbeats 4000000 in
theorem implNetOk_any (N : NV) (w : World) (h : NetRow w N) (hm : ∀ x ∈ N.bs, x.fn ≤ 16777216) (hR : ∀ x ∈ N.bs, ∀ r ∈ x.B.v.rows, r.Rng) :
  Calls Tryz.prog 39 #[.agg #[.slice N.ba N.bn N.bc, .slice N.la N.ln N.lc, .slice N.sa N.sn N.sc]] w fun e w' => Says (NetOk N.brs N.ls N.ss) w e w' := by
 generalize hw1 : w.alloc (Obj.cells #[.slice N.ba N.bn N.bc, .slice N.la N.ln N.lc, .slice N.sa N.sn N.sc] 34) = w1
 have b01 : Below w.heap.size w w1 := by rw [← hw1]; exact below_one _ _
 have k1 : w1.heap[w.heap.size]? = some (.cells #[.slice N.ba N.bn N.bc, .slice N.la N.ln N.lc, .slice N.sa N.sn N.sc] 34) := by rw [← hw1]; exact block_last _ _
 obtain ⟨x0, x1, x2⟩ := cells3m k1
 have kNe := k1
 have b := b01
 clear k1 b01
 go_enter Tryz.func39, Tryz.ntmps39
 go_wp2_with fail
 refine (implBridges_any N.ba N.bn N.bc N.bs _ (h.b.below b) (fun x hx => (h.item x hx).below b) hm hR).mono ?_
 rintro e v0 ⟨q0, rfl, hq0, hb0⟩
 have kNe := kept_block kNe hb0
 have b := gr_trans b hb0
 have HQ0 := hide hq0
 clear hq0 hb0 x0 x1 x2
 obtain ⟨x0, x1, x2⟩ := cells3m kNe
 cases q0
 ·have HNO : Hid ((false = true) ↔ NetOk N.brs N.ls N.ss) := hide (no_iff fun hp => by have := HQ0.out.2 hp.1; cases this)
  go_wp2
  go_ret
  exact ⟨false, rfl, HNO.out, b⟩
 ·have HT0 : Hid (BridgesOk N.brs) := hide (HQ0.out.1 rfl)
  clear HQ0
  go_wp2_with fail
  refine (implLinks_any N _ (h.below b)).mono ?_
  rintro e v1 ⟨q1, rfl, hq1, hb1⟩
  have kNe := kept_block kNe hb1
  have b := gr_trans b hb1
  have HQ1 := hide hq1
  clear hq1 hb1 x0 x1 x2
  obtain ⟨x0, x1, x2⟩ := cells3m kNe
  cases q1
  ·have HNO : Hid ((false = true) ↔ NetOk N.brs N.ls N.ss) := hide (no_iff fun hp => by have := HQ1.out.2 hp.2.1; cases this)
   go_wp2
   go_ret
   exact ⟨false, rfl, HNO.out, b⟩
  ·have HT1 : Hid (LinksOk N.brs N.ls) := hide (HQ1.out.1 rfl)
   clear HQ1
   go_wp2_with fail
   refine (implQuiet13_any N _ (h.below b)).mono ?_
   rintro e v2 ⟨q2, rfl, hq2, hb2⟩
   have kNe := kept_block kNe hb2
   have b := gr_trans b hb2
   have HQ2 := hide hq2
   clear hq2 hb2 x0 x1 x2
   obtain ⟨x0, x1, x2⟩ := cells3m kNe
   cases q2
   ·have HNO : Hid ((false = true) ↔ NetOk N.brs N.ls N.ss) := hide (no_iff fun hp => by have := HQ2.out.2 hp.2.2.1; cases this)
    go_wp2
    go_ret
    exact ⟨false, rfl, HNO.out, b⟩
   ·have HT2 : Hid (Quiet N.brs N.ls) := hide (HQ2.out.1 rfl)
    clear HQ2
    go_wp2_with fail
    refine (implSaid_any N _ (h.below b)).mono ?_
    rintro e v3 ⟨q3, rfl, hq3, hb3⟩
    have kNe := kept_block kNe hb3
    have b := gr_trans b hb3
    have HQ3 := hide hq3
    clear hq3 hb3 x0 x1 x2
    obtain ⟨x0, x1, x2⟩ := cells3m kNe
    cases q3
    ·have HNO : Hid ((false = true) ↔ NetOk N.brs N.ls N.ss) := hide (no_iff fun hp => by have := HQ3.out.2 hp.2.2.2; cases this)
     go_wp2
     go_ret
     exact ⟨false, rfl, HNO.out, b⟩
    ·have HP : Hid (NetOk N.brs N.ls N.ss) := hide ⟨HT0.out, HT1.out, HT2.out, HQ3.out.1 rfl⟩
     go_wp2
     go_ret
     exact ⟨true, rfl, yes_iff HP.out, b⟩

def endW (K : Int) (x : BV) : Int := K + 1 + 1 + 8 * x.n + 5 * x.fn + 3 * x.rn + x.on
def markV (K : Int) (x : BV) : BV := { x with B := ⟨K, mtx (K + 1), markPs (K + 1 + 1) x.n, markEs (K + 1 + 1 + 8 * x.n) x.fn, ⟨markRs (K + 1 + 1 + 8 * x.n + 5 * x.fn) x.rn, marksI (K + 1 + 1 + 8 * x.n + 5 * x.fn + 3 * x.rn) x.on⟩, endW K x, endW K x + 1, endW K x + 1 + 1, endW K x + 1 + 1 + 1, endW K x + 1 + 1 + 1 + 1⟩ }
def endV (K : Int) (x : BV) : Int := endW K x + 1 + 1 + 1 + 1 + 1
def markVs : Int → List BV → List BV
 | _, [] => []
 | k, x :: r => markV k x :: markVs (endV k x) r
def endVs : Int → List BV → Int
 | k, [] => k
 | k, x :: r => endVs (endV k x) r

theorem markVs_snoc (a : List BV) (x : BV) : ∀ k, markVs k (a ++ [x]) = markVs k a ++ [markV (endVs k a) x] := by
 induction a with
 | nil => intro k; rfl
 | cons y r ih => intro k; simp only [List.cons_append, markVs, endVs, ih]
theorem endVs_snoc (a : List BV) (x : BV) : ∀ k, endVs k (a ++ [x]) = endV (endVs k a) x := by
 induction a with
 | nil => intro k; rfl
 | cons y r ih => intro k; simp only [List.cons_append, endVs, ih]
theorem markVs_length (a : List BV) : ∀ k, (markVs k a).length = a.length := by
 induction a with
 | nil => intro k; rfl
 | cons y r ih => intro k; simp only [markVs, List.length_cons, ih]
theorem markVs_blks (a : List BV) : ∀ k, (markVs k a).flatMap BV.blks = a.flatMap BV.blks := by
 induction a with
 | nil => intro k; rfl
 | cons y r ih => intro k; simp only [markVs, List.flatMap_cons, ih]; rfl

def BV.Tiny (x : BV) : Prop := x.n ≤ 64 ∧ x.fn ≤ 64 ∧ x.rn ≤ 64 ∧ x.on ≤ 64
theorem endV_le {K : Int} {x : BV} (h : x.Tiny) : K < endV K x ∧ endV K x ≤ K + 2048 := by
 obtain ⟨h1, h2, h3, h4⟩ := h
 unfold endV endW
 omega
theorem endVs_le (a : List BV) : (∀ x ∈ a, x.Tiny) → ∀ K, K ≤ endVs K a ∧ endVs K a ≤ K + 2048 * a.length := by
 induction a with
 | nil => intro _ K; simp [endVs]
 | cons y r ih =>
  intro h K
  have h1 := endV_le (K := K) (h y (by simp))
  have h2 := ih (fun x hx => h x (by simp [hx])) (endV K y)
  simp only [endVs, List.length_cons]
  omega

theorem BOs.cell {w : World} {base g n cap jj a : Nat} {u : Value} {pre post : List BV} {x x' : BV} (h : BOs w base (some ⟨g, 0, none⟩) n cap (pre ++ x :: post)) (hjj : jj < 11) (ha : a = pre.length * 11 + jj) (hc : (brF.cs x).set jj u = brF.cs x') (hb : x'.blks = x.blks) (hx : x.Own w base → x'.Own w base) : BOs (w.setCell ⟨g, a, none⟩ u) base (some ⟨g, 0, none⟩) n cap (pre ++ x' :: post) := by
 subst ha
 have hm : x ∈ pre ++ x :: post := by simp
 have O := Only.set w g (pre.length * 11 + jj) u
 refine h.turn (bs := [g]) (x' := x') (by rw [hb]; exact bapart_mid h.apart) O (fun b hb => .inr (by simpa [blkL] using hb)) (flat_stored (F := brF) h.row jj u hjj hc) ?_
 exact (hx (h.item x hm)).only O (fun b hb' hb2 => BV.Own.row_apart h.row (h.item x hm) b (hb ▸ hb') (by simpa [blkL] using hb2))

theorem BOs.inner {bs : List Nat} {w w' : World} {base : Nat} {ao : Option Addr} {n cap : Nat} {pre post : List BV} {x x' : BV} (h : BOs w base ao n cap (pre ++ x :: post)) (ho : Only bs w w') (hs : ∀ b ∈ bs, b ∈ x.blks) (hcs : brF.cs x' = brF.cs x) (hb : x'.blks = x.blks) (hx : x'.Own w' base) : BOs w' base ao n cap (pre ++ x' :: post) := by
 have hm : x ∈ pre ++ x :: post := by simp
 refine h.turn (x' := x') (by rw [hb]; exact bapart_mid h.apart) ho (fun b hb => .inl (hs b hb)) ?_ hx
 have e : brF.all (pre ++ x' :: post) = brF.all (pre ++ x :: post) := by rw [brF.all_append, brF.all_append, brF.all_cons, brF.all_cons, hcs]
 rw [e]
 exact ho.own h.row (fun k hk hk' => BV.Own.row_apart h.row (h.item x hm) k (hs k hk') (mem_blkL.1 hk))

theorem BOs.mid {w : World} {base : Nat} {ao : Option Addr} {n cap : Nat} {pre post : List BV} {x : BV} (h : BOs w base ao n cap (pre ++ x :: post)) : x.Own w base := h.item x (by simp)

theorem only_in {bs cs : List Nat} {a b c : World} (h : Only cs a b) (k : Only bs b c) (hs : ∀ x ∈ bs, x ∈ cs) : Only cs a c := h.trans (k.wider hs)

theorem markVs_at (a : List BV) (x : BV) (c : List BV) : ∀ k, (markVs k (a ++ x :: c))[a.length]? = some (markV (endVs k a) x) := by
 induction a with
 | nil => intro k; rfl
 | cons y r ih => intro k; simp only [List.cons_append, markVs, endVs, List.length_cons, List.getElem?_cons_succ, ih]

end Go.Proofs.YtpgdahenmpkcnaaGreat
