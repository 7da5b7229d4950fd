/-
  The law file's own helpers on bridges by their contracts: a copy, whether two are the same, their size, the marks that are put and read again.
-/
import Derived.Test.YtfefhilolhdonaaPAFentHelp
import Derived.Test.YtfefhilolhdonaaPAK01
import Derived.Test.YtfefhilolhdonaaPAK06
import Derived.Test.YtfefhilolhdonaaPAK09
namespace Go.Proofs.Ytfefhilolhdonaa
open Go.RowKit

set_option maxRecDepth 100000 in
set_option maxHeartbeats 4000000 in
theorem eqBridge_same (a : Option Addr) (n c : Nat) (fa : Option Addr) (fn fc : Nat) (ra : Option Addr) (rn rc : Nat) (oa : Option Addr) (on oc : Nat) (a2 : Option Addr) (n2 c2 : Nat) (fa2 : Option Addr) (fn2 fc2 : Nat) (ra2 : Option Addr) (rn2 rc2 : Nat) (oa2 : Option Addr) (on2 oc2 : Nat) (B : BR) (w : World) (h : BrRow w a n c fa fn fc ra rn rc oa on oc B) (h2 : BrRow w a2 n2 c2 fa2 fn2 fc2 ra2 rn2 rc2 oa2 on2 oc2 B) :
  Calls Try.prog 7 #[.agg #[.int .i64 B.id, .string B.name, .slice a n c, .slice fa fn fc, .slice ra rn rc, .slice oa on oc, .int .i64 B.ticks, .int .i64 B.parse, .int .i64 B.word, .int .i64 B.drops, .int .i64 B.vers], .agg #[.int .i64 B.id, .string B.name, .slice a2 n2 c2, .slice fa2 fn2 fc2, .slice ra2 rn2 rc2, .slice oa2 on2 oc2, .int .i64 B.ticks, .int .i64 B.parse, .int .i64 B.word, .int .i64 B.drops, .int .i64 B.vers]] w fun e w' => e = .returned (.bool true) ∧ Below w.heap.size w w' := by
 generalize hw1 : w.alloc (Obj.cells #[.int .i64 B.id, .string B.name, .slice a n c, .slice fa fn fc, .slice ra rn rc, .slice oa on oc, .int .i64 B.ticks, .int .i64 B.parse, .int .i64 B.word, .int .i64 B.drops, .int .i64 B.vers] 29) = w1
 generalize hw2 : w1.alloc (Obj.cells #[.int .i64 B.id, .string B.name, .slice a2 n2 c2, .slice fa2 fn2 fc2, .slice ra2 rn2 rc2, .slice oa2 on2 oc2, .int .i64 B.ticks, .int .i64 B.parse, .int .i64 B.word, .int .i64 B.drops, .int .i64 B.vers] 29) = w2
 have b01 : Below w.heap.size w w1 := by rw [← hw1]; exact below_one _ _
 have b12 : Below w1.heap.size w1 w2 := by rw [← hw2]; exact below_one _ _
 have b02 := gr_trans b01 b12
 have k1 : w2.heap[w.heap.size]? = some (.cells #[.int .i64 B.id, .string B.name, .slice a n c, .slice fa fn fc, .slice ra rn rc, .slice oa on oc, .int .i64 B.ticks, .int .i64 B.parse, .int .i64 B.word, .int .i64 B.drops, .int .i64 B.vers] 29) := kept_block (by rw [← hw1]; exact block_last _ _) b12
 have k2 : w2.heap[w1.heap.size]? = some (.cells #[.int .i64 B.id, .string B.name, .slice a2 n2 c2, .slice fa2 fn2 fc2, .slice ra2 rn2 rc2, .slice oa2 on2 oc2, .int .i64 B.ticks, .int .i64 B.parse, .int .i64 B.word, .int .i64 B.drops, .int .i64 B.vers] 29) := by rw [← hw2]; exact block_last _ _
 obtain ⟨x0, x1, x2, x3, x4, x5, x6, x7, x8, x9, x10⟩ := cells11 k1
 obtain ⟨y0, y1, y2, y3, y4, y5, y6, y7, y8, y9, y10⟩ := cells11 k2
 go_enter Try.func7, Try.ntmps7
 go_wp2_with fail
 refine (eqPts_same a n c a2 n2 c2 B.ports _ (h.ports.below b02) (h2.ports.below b02)).mono ?_
 rintro e w3 ⟨rfl, hb3⟩
 have b03 := gr_trans b02 hb3
 have k1 := kept_block k1 hb3
 have k2 := kept_block k2 hb3
 clear x0 x1 x2 x3 x4 x5 x6 x7 x8 x9 x10 y0 y1 y2 y3 y4 y5 y6 y7 y8 y9 y10 hb3
 obtain ⟨x0, x1, x2, x3, x4, x5, x6, x7, x8, x9, x10⟩ := cells11 k1
 obtain ⟨y0, y1, y2, y3, y4, y5, y6, y7, y8, y9, y10⟩ := cells11 k2
 go_wp2_with fail
 refine (eqFents_same fa fn fc fa2 fn2 fc2 B.f _ (h.f.below b03) (h2.f.below b03)).mono ?_
 rintro e w4 ⟨rfl, hb4⟩
 have b04 := gr_trans b03 hb4
 have k1 := kept_block k1 hb4
 have k2 := kept_block k2 hb4
 clear x0 x1 x2 x3 x4 x5 x6 x7 x8 x9 x10 y0 y1 y2 y3 y4 y5 y6 y7 y8 y9 y10 hb4
 obtain ⟨x0, x1, x2, x3, x4, x5, x6, x7, x8, x9, x10⟩ := cells11 k1
 obtain ⟨y0, y1, y2, y3, y4, y5, y6, y7, y8, y9, y10⟩ := cells11 k2
 go_wp2_with fail
 refine (eqVtab_same ra rn rc oa on oc ra2 rn2 rc2 oa2 on2 oc2 B.v _ (h.v.below b04) (h2.v.below b04)).mono ?_
 rintro e w5 ⟨rfl, hb5⟩
 have b05 := gr_trans b04 hb5
 have k1 := kept_block k1 hb5
 have k2 := kept_block k2 hb5
 clear x0 x1 x2 x3 x4 x5 x6 x7 x8 x9 x10 y0 y1 y2 y3 y4 y5 y6 y7 y8 y9 y10 hb5
 obtain ⟨x0, x1, x2, x3, x4, x5, x6, x7, x8, x9, x10⟩ := cells11 k1
 obtain ⟨y0, y1, y2, y3, y4, y5, y6, y7, y8, y9, y10⟩ := cells11 k2
 have HB := hide b05
 clear k1 k2 b05
 go_wp2
 go_ret
 exact ⟨rfl, HB.out⟩

structure BrUnder (E : Nat) (a : Option Addr) (n c : Nat) (fa : Option Addr) (fn fc : Nat) (ra : Option Addr) (rn rc : Nat) (oa : Option Addr) (on oc : Nat) : Prop where
 p : ∀ k, (Value.slice a n c).ownBlock = some k → k < E
 f : ∀ k, (Value.slice fa fn fc).ownBlock = some k → k < E
 r : ∀ k, (Value.slice ra rn rc).ownBlock = some k → k < E
 o : ∀ k, (Value.slice oa on oc).ownBlock = some k → k < E

theorem BrOwn.under {w : World} {base : Nat} {a : Option Addr} {n c : Nat} {fa : Option Addr} {fn fc : Nat} {ra : Option Addr} {rn rc : Nat} {oa : Option Addr} {on oc : Nat} {B : BR} (h : BrOwn w base a n c fa fn fc ra rn rc oa on oc B) : BrUnder w.heap.size a n c fa fn fc ra rn rc oa on oc :=
 ⟨fun k hk => (h.ports.lt k hk).2, fun k hk => (h.f.lt k hk).2, fun k hk => (h.v.rows.lt k hk).2, fun k hk => (h.v.own.lt k hk).2⟩

def markB (K : Int) (n fn rn on : Nat) (B : BR) : BR := { B with ports := markPs K n, f := markEs (K + 8 * n) fn, v := markT (K + 8 * n + 5 * fn) rn on }

theorem boxRow {w : World} {X : Nat} {cs : Array Value} {T : TypeId} (h : w.heap[X]? = some (.cells cs T)) : w.ownsRow 0 T cs.size (.slice (some ⟨X, 0, none⟩) 1 1) 1 cs.toList :=
 ⟨by simp, .inr ⟨X, 1, cs, rfl, Nat.zero_le _, h, Nat.le_refl _, by unfold maxLen; omega, by rw [Nat.one_mul], by rw [Nat.one_mul]; exact List.take_length⟩⟩

theorem rowBox {w : World} {X m : Nat} {xs : List Value} {T : TypeId} (h : w.ownsRow 0 T m (.slice (some ⟨X, 0, none⟩) 1 1) 1 xs) : w.heap[X]? = some (.cells xs.toArray T) := by
 obtain ⟨-, ⟨e, -⟩ | ⟨g, cap, cur, e, -, hh, -, -, hs, ht⟩⟩ := h
 ·cases e
 ·cases e
  rw [hh]
  rw [Nat.one_mul] at ht hs
  have : cur.toList = xs := by rw [← ht, List.take_of_length_le (by simp [hs])]
  rw [← this]

set_option maxRecDepth 100000 in
set_option maxHeartbeats 4000000 in
theorem markBridge_box (K : Int) (hK0 : 0 ≤ K) (hK1 : K ≤ 1000000) (base E : Nat) (a : Option Addr) (n c : Nat) (fa : Option Addr) (fn fc : Nat) (ra : Option Addr) (rn rc : Nat) (oa : Option Addr) (on oc : Nat) (B : BR) (w : World) (h : BrOwn w base a n c fa fn fc ra rn rc oa on oc B) (hB : base ≤ w.heap.size) (hE : BrUnder E a n c fa fn fc ra rn rc oa on oc) (hn : n ≤ 16777216) (hfn : fn ≤ 16777216) (hrn : rn ≤ 16777216) (hon : on ≤ 16777216) :
  Calls Try.prog 8 #[.agg #[.int .i64 B.id, .string B.name, .slice a n c, .slice fa fn fc, .slice ra rn rc, .slice oa on oc, .int .i64 B.ticks, .int .i64 B.parse, .int .i64 B.word, .int .i64 B.drops, .int .i64 B.vers], .int .i64 K] w fun e w' => e = .returned (.int .i64 (K + 8 * n + 5 * fn + 3 * rn + on)) ∧ BrOwn w' base a n c fa fn fc ra rn rc oa on oc (markB K n fn rn on B) ∧ Between base E w w' ∧ (∀ (Y : Nat) (cs : Array Value), w.heap[Y]? = some (.cells cs 29) → w'.heap[Y]? = some (.cells cs 29)) := by
 have lp := h.ports.lt
 have lf := h.f.lt
 generalize hw1 : w.alloc (Obj.cells #[.int .i64 B.id, .string B.name, .slice a n c, .slice fa fn fc, .slice ra rn rc, .slice oa on oc, .int .i64 B.ticks, .int .i64 B.parse, .int .i64 B.word, .int .i64 B.drops, .int .i64 B.vers] 29) = w1
 have b01 : Below w.heap.size w w1 := by rw [← hw1]; exact below_one _ _
 have k1 : w1.heap[w.heap.size]? = some (.cells #[.int .i64 B.id, .string B.name, .slice a n c, .slice fa fn fc, .slice ra rn rc, .slice oa on oc, .int .i64 B.ticks, .int .i64 B.parse, .int .i64 B.word, .int .i64 B.drops, .int .i64 B.vers] 29) := by rw [← hw1]; exact block_last _ _
 have h1 := h.below b01
 have q1 : ∀ (Y : Nat) (cs : Array Value), w.heap[Y]? = some (.cells cs 29) → w1.heap[Y]? = some (.cells cs 29) := fun Y cs hY => kept_block hY b01
 have bt1 : Between base E w w1 := Between.of_below b01 hB
 obtain ⟨x0, x1, x2, x3, x4, x5, x6, x7, x8, x9, x10⟩ := cells11 k1
 go_enter Try.func8, Try.ntmps8
 go_wp2_with fail
 refine (markPts_grown base a n c B.ports K _ h1.ports hn hK0 (by omega)).mono ?_
 rintro e w2 ⟨rfl, o2, hg⟩
 have h2 := h1.newPorts hg o2
 have q2 : ∀ (Y : Nat) (cs : Array Value), w.heap[Y]? = some (.cells cs 29) → w2.heap[Y]? = some (.cells cs 29) := fun Y cs hY => kept_grown (q1 Y cs hY) hg (fun i e => box_ne h1.ports (q1 Y cs hY) (by decide) i e)
 have bt2 := bt1.trans (Between.of_grown hg (Nat.le_trans hB b01.size) (fun k hk => ⟨(lp k hk).1, hE.p k hk⟩))
 have k2 := kept_grown k1 hg (fun i e => box_ne h1.ports k1 (by decide) i e)
 clear x0 x1 x2 x3 x4 x5 x6 x7 x8 x9 x10 hg o2
 obtain ⟨x0, x1, x2, x3, x4, x5, x6, x7, x8, x9, x10⟩ := cells11 k2
 go_wp2_with fail
 refine (markFents_grown base fa fn fc B.f (K + 8 * n) _ h2.f hfn (by omega) (by omega)).mono ?_
 rintro e w3 ⟨rfl, o3, hg⟩
 have h3 := h2.newF hg o3
 have q3 : ∀ (Y : Nat) (cs : Array Value), w.heap[Y]? = some (.cells cs 29) → w3.heap[Y]? = some (.cells cs 29) := fun Y cs hY => kept_grown (q2 Y cs hY) hg (fun i e => box_ne h2.f (q2 Y cs hY) (by decide) i e)
 have bt3 := bt2.trans (Between.of_grown hg (Nat.le_trans hB bt2.below.size) (fun k hk => ⟨(lf k hk).1, hE.f k hk⟩))
 have k3 := kept_grown k2 hg (fun i e => box_ne h2.f k2 (by decide) i e)
 clear x0 x1 x2 x3 x4 x5 x6 x7 x8 x9 x10 hg o3
 obtain ⟨x0, x1, x2, x3, x4, x5, x6, x7, x8, x9, x10⟩ := cells11 k3
 go_wp2_with fail
 refine (markVtab_from (K + 8 * n + 5 * fn) (by omega) (by omega) base E ra rn rc oa on oc B.v _ h3.v (Nat.le_trans hB bt3.below.size) hE.r hE.o hrn hon).mono ?_
 rintro e w4 ⟨rfl, o4, bt, hkeep⟩
 have HO : Hid (BrOwn w4 base a n c fa fn fc ra rn rc oa on oc (markB K n fn rn on B)) := hide ⟨hkeep _ _ _ _ _ _ h3.ports (by decide) (by decide), hkeep _ _ _ _ _ _ h3.f (by decide) (by decide), o4⟩
 have HT := hide (bt3.trans bt)
 have HQ : Hid (∀ (Y : Nat) (cs : Array Value), w.heap[Y]? = some (.cells cs 29) → w4.heap[Y]? = some (.cells cs 29)) := hide (fun Y cs hY => by have := rowBox (hkeep _ _ _ _ _ _ (boxRow (q3 Y cs hY)) (by decide) (by decide)); simpa using this)
 clear x0 x1 x2 x3 x4 x5 x6 x7 x8 x9 x10 bt o4 hkeep h1 h2 h3 q1 q2 q3
 go_wp2
 go_ret
 exact ⟨rfl, HO.out, HT.out, HQ.out⟩

theorem markBridge_from (K : Int) (hK0 : 0 ≤ K) (hK1 : K ≤ 1000000) (base E : Nat) (a : Option Addr) (n c : Nat) (fa : Option Addr) (fn fc : Nat) (ra : Option Addr) (rn rc : Nat) (oa : Option Addr) (on oc : Nat) (B : BR) (w : World) (h : BrOwn w base a n c fa fn fc ra rn rc oa on oc B) (hB : base ≤ w.heap.size) (hE : BrUnder E a n c fa fn fc ra rn rc oa on oc) (hn : n ≤ 16777216) (hfn : fn ≤ 16777216) (hrn : rn ≤ 16777216) (hon : on ≤ 16777216) :
  Calls Try.prog 8 #[.agg #[.int .i64 B.id, .string B.name, .slice a n c, .slice fa fn fc, .slice ra rn rc, .slice oa on oc, .int .i64 B.ticks, .int .i64 B.parse, .int .i64 B.word, .int .i64 B.drops, .int .i64 B.vers], .int .i64 K] w fun e w' => e = .returned (.int .i64 (K + 8 * n + 5 * fn + 3 * rn + on)) ∧ BrOwn w' base a n c fa fn fc ra rn rc oa on oc (markB K n fn rn on B) ∧ Between base E w w' := by
 refine (markBridge_box K hK0 hK1 base E a n c fa fn fc ra rn rc oa on oc B w h hB hE hn hfn hrn hon).mono ?_
 rintro e w' ⟨h1, h2, h3, -⟩
 exact ⟨h1, h2, h3⟩

set_option maxRecDepth 100000 in
set_option maxHeartbeats 4000000 in
theorem heldBridge_from (K : Int) (hK0 : 0 ≤ K) (hK1 : K ≤ 1000000) (a : Option Addr) (n c : Nat) (fa : Option Addr) (fn fc : Nat) (ra : Option Addr) (rn rc : Nat) (oa : Option Addr) (on oc : Nat) (B : BR) (w : World) (h : BrRow w a n c fa fn fc ra rn rc oa on oc (markB K n fn rn on B)) (hn : n ≤ 16777216) (hfn : fn ≤ 16777216) (hrn : rn ≤ 16777216) (hon : on ≤ 16777216) :
  Calls Try.prog 9 #[.agg #[.int .i64 B.id, .string B.name, .slice a n c, .slice fa fn fc, .slice ra rn rc, .slice oa on oc, .int .i64 B.ticks, .int .i64 B.parse, .int .i64 B.word, .int .i64 B.drops, .int .i64 B.vers], .int .i64 K] w fun e w' => e = .returned (.int .i64 (K + 8 * n + 5 * fn + 3 * rn + on)) ∧ Below w.heap.size w w' := by
 generalize hw1 : w.alloc (Obj.cells #[.int .i64 B.id, .string B.name, .slice a n c, .slice fa fn fc, .slice ra rn rc, .slice oa on oc, .int .i64 B.ticks, .int .i64 B.parse, .int .i64 B.word, .int .i64 B.drops, .int .i64 B.vers] 29) = w1
 have b01 : Below w.heap.size w w1 := by rw [← hw1]; exact below_one _ _
 have k1 : w1.heap[w.heap.size]? = some (.cells #[.int .i64 B.id, .string B.name, .slice a n c, .slice fa fn fc, .slice ra rn rc, .slice oa on oc, .int .i64 B.ticks, .int .i64 B.parse, .int .i64 B.word, .int .i64 B.drops, .int .i64 B.vers] 29) := by rw [← hw1]; exact block_last _ _
 obtain ⟨x0, x1, x2, x3, x4, x5, x6, x7, x8, x9, x10⟩ := cells11 k1
 have j1 : ¬ (K + 8 * (n : Int) < 0) := by omega
 have j2 : ¬ (K + 8 * (n : Int) + 5 * (fn : Int) < 0) := by omega
 have j3 : ¬ (K + 8 * (n : Int) + 5 * (fn : Int) + 3 * (rn : Int) + (on : Int) < 0) := by omega
 go_enter Try.func9, Try.ntmps9
 go_wp2_with fail
 refine (heldPts_any a n c K _ (h.ports.below b01) hn hK0 (by omega)).mono ?_
 rintro e w2 ⟨rfl, hb2⟩
 have b02 := gr_trans b01 hb2
 have k2 := kept_block k1 hb2
 clear x0 x1 x2 x3 x4 x5 x6 x7 x8 x9 x10 hb2
 obtain ⟨x0, x1, x2, x3, x4, x5, x6, x7, x8, x9, x10⟩ := cells11 k2
 go_wp2_with fail
 refine (heldFents_any fa fn fc (K + 8 * n) _ (h.f.below b02) hfn (by omega) (by omega)).mono ?_
 rintro e w3 ⟨rfl, hb3⟩
 have b03 := gr_trans b02 hb3
 have k3 := kept_block k2 hb3
 clear x0 x1 x2 x3 x4 x5 x6 x7 x8 x9 x10 hb3
 obtain ⟨x0, x1, x2, x3, x4, x5, x6, x7, x8, x9, x10⟩ := cells11 k3
 go_wp2_with fail
 refine (heldVtab_from (K + 8 * n + 5 * fn) (by omega) (by omega) ra rn rc oa on oc _ (h.v.below b03) hrn hon).mono ?_
 rintro e w4 ⟨rfl, hb4⟩
 have HB := hide (gr_trans b03 hb4)
 clear x0 x1 x2 x3 x4 x5 x6 x7 x8 x9 x10 hb4
 go_wp2
 go_ret
 exact ⟨rfl, HB.out⟩

end Go.Proofs.Ytfefhilolhdonaa
