/-
  Packed: VtabCopy VtabOr VtabSet VtabRowM BrOwn VtabNewS VtabHelp.
-/
import Derived.Test.YtfefhilolhdonaaPAK01
import Derived.Test.YtfefhilolhdonaaPAK02
import Derived.Test.YtfefhilolhdonaaPAVtabOkS
namespace Go.Proofs.Ytfefhilolhdonaa
open Go.RowKit

def intF : Flat Int where
 k := 1
 cs := fun x => [.int .i64 x]
 len := fun _ => rfl
 pos := by decide
 one := fun _ v hv => by
  simp only [List.mem_cons, List.not_mem_nil, or_false] at hv
  subst hv
  rfl

theorem intF_all : ∀ (l : List Int), intF.all l = cI l
 | [] => rfl
 | x :: l => by
  have := intF_all l
  rw [Flat.all_cons, this]
  rfl

theorem gown_type {w w' : World} {base k : Nat} {e : TypeId} {v : Value} {n : Nat} {xs : List Value} (h : w.ownsRow base e k v n xs) {base2 k2 : Nat} {e2 : TypeId} {v2 : Value} {n2 : Nat} {xs2 : List Value} (h2 : w.ownsRow base2 e2 k2 v2 n2 xs2) (hne : (e : Nat) ≠ e2) (hg : w.grownBy w' v2.ownBlock) : w'.ownsRow base e k v n xs := by
 refine h.kept hg ?_
 obtain ⟨-, h | ⟨g, cap, cur, e1, -, hh, -⟩⟩ := h
 ·rw [h.1]; exact .inl rfl
 ·obtain ⟨-, h2 | ⟨g2, cap2, cur2, e2', -, hh2, -⟩⟩ := h2
  ·rw [h2.1]; exact .inr (by rw [e1]; intro hc; cases hc)
  ·refine .inr (fun hc => ?_)
   rw [e1, e2'] at hc
   have hgg : g = g2 := by simpa [Value.ownBlock] using hc
   subst hgg
   rw [hh] at hh2
   cases hh2
   exact hne rfl

structure VOwn (w : World) (base : Nat) (a : Option Addr) (n c : Nat) (o : Option Addr) (p q : Nat) (v : VT) : Prop where
 rows : w.ownsRow base 71 3 (.slice a n c) n (vrowF.all v.rows)
 own : w.ownsRow base 3 1 (.slice o p q) p (cI v.own)
 i64 : I64s v.own

theorem VOwn.tab {w : World} {base : Nat} {a : Option Addr} {n c : Nat} {o : Option Addr} {p q : Nat} {v : VT} (h : VOwn w base a n c o p q v) : VTab w a n c o p q v := ⟨grow_own (F := vrowF) h.rows, irow_own h.own h.i64⟩

theorem VOwn.below {w w' : World} {base : Nat} {a : Option Addr} {n c : Nat} {o : Option Addr} {p q : Nat} {v : VT} (h : VOwn w base a n c o p q v) (hb : Below w.heap.size w w') : VOwn w' base a n c o p q v :=
 ⟨gown_below h.rows hb, gown_below h.own hb, h.i64⟩

theorem VOwn.lt {w : World} {base base' : Nat} {a : Option Addr} {n c : Nat} {o : Option Addr} {p q : Nat} {v : VT} (h : VOwn w base a n c o p q v) (hle : base' ≤ base) : VOwn w base' a n c o p q v :=
 ⟨gown_lt h.rows hle, gown_lt h.own hle, h.i64⟩

theorem VOwn.set2 {w : World} {base : Nat} {a : Option Addr} {n c : Nat} {o : Option Addr} {p q : Nat} {v : VT} (h : VOwn w base a n c o p q v) {g : Nat} (hg : g < base) (u1 u2 : Value) : VOwn ((w.setCell ⟨g, 0, none⟩ u1).setCell ⟨g, 1, none⟩ u2) base a n c o p q v := by
 have hl : ∀ b, some g = some b → b < base := by intro b hb; cases hb; exact hg
 exact ⟨gown_apart (gown_apart h.rows (grown_set (rb := g) 0 u1) hl) (grown_set (rb := g) 1 u2) hl, gown_apart (gown_apart h.own (grown_set (rb := g) 0 u1) hl) (grown_set (rb := g) 1 u2) hl, h.i64⟩

theorem VOwn.len {w : World} {base : Nat} {a : Option Addr} {n c : Nat} {o : Option Addr} {p q : Nat} {v : VT} (h : VOwn w base a n c o p q v) : v.rows.length = n ∧ v.own.length = p := ⟨h.tab.rows.size, h.tab.own.size⟩

theorem box_ne {w : World} {base k : Nat} {e : TypeId} {v : Value} {n : Nat} {xs : List Value} (h : w.ownsRow base e k v n xs) {X : Nat} {cs : Array Value} {T : TypeId} (hX : w.heap[X]? = some (.cells cs T)) (hne : (e : Nat) ≠ T) : ∀ b, v.ownBlock = some b → b ≠ X := by
 obtain ⟨-, h | ⟨g, cap, cur, rfl, -, hh, -⟩⟩ := h
 ·rw [h.1]; intro b hb; cases hb
 ·intro b hb e
  have : g = b := by simpa [Value.ownBlock] using hb
  subst this e
  rw [hh] at hX
  cases hX
  exact hne rfl

structure BrOwn (w : World) (base : Nat) (a : Option Addr) (n c : Nat) (fa : Option Addr) (fn fc : Nat) (ra : Option Addr) (rn rc : Nat) (oa : Option Addr) (on oc : Nat) (B : BR) : Prop where
 ports : w.ownsRow base 50 8 (.slice a n c) n (ptF.all B.ports)
 f : w.ownsRow base 79 5 (.slice fa fn fc) fn (fentF.all B.f)
 v : VOwn w base ra rn rc oa on oc B.v

theorem BrOwn.row {w : World} {base : Nat} {a : Option Addr} {n c : Nat} {fa : Option Addr} {fn fc : Nat} {ra : Option Addr} {rn rc : Nat} {oa : Option Addr} {on oc : Nat} {B : BR} (h : BrOwn w base a n c fa fn fc ra rn rc oa on oc B) : BrRow w a n c fa fn fc ra rn rc oa on oc B :=
 ⟨grow_own (F := ptF) h.ports, grow_own (F := fentF) h.f, h.v.tab⟩

theorem BrOwn.below {w w' : World} {base : Nat} {a : Option Addr} {n c : Nat} {fa : Option Addr} {fn fc : Nat} {ra : Option Addr} {rn rc : Nat} {oa : Option Addr} {on oc : Nat} {B : BR} (h : BrOwn w base a n c fa fn fc ra rn rc oa on oc B) (hb : Below w.heap.size w w') : BrOwn w' base a n c fa fn fc ra rn rc oa on oc B :=
 ⟨gown_below h.ports hb, gown_below h.f hb, h.v.below hb⟩

theorem BrOwn.lt {w : World} {base base' : Nat} {a : Option Addr} {n c : Nat} {fa : Option Addr} {fn fc : Nat} {ra : Option Addr} {rn rc : Nat} {oa : Option Addr} {on oc : Nat} {B : BR} (h : BrOwn w base a n c fa fn fc ra rn rc oa on oc B) (hle : base' ≤ base) : BrOwn w base' a n c fa fn fc ra rn rc oa on oc B :=
 ⟨gown_lt h.ports hle, gown_lt h.f hle, h.v.lt hle⟩

theorem BrOwn.boxed {w : World} {base : Nat} {a : Option Addr} {n c : Nat} {fa : Option Addr} {fn fc : Nat} {ra : Option Addr} {rn rc : Nat} {oa : Option Addr} {on oc : Nat} {B : BR} (h : BrOwn w base a n c fa fn fc ra rn rc oa on oc B) {X : Nat} {cs : Array Value} (hX : w.heap[X]? = some (.cells cs 29)) (j : Nat) (u : Value) : BrOwn (w.setCell ⟨X, j, none⟩ u) base a n c fa fn fc ra rn rc oa on oc B :=
 ⟨gown_other h.ports (grown_set (rb := X) j u) (box_ne h.ports hX (by decide)), gown_other h.f (grown_set (rb := X) j u) (box_ne h.f hX (by decide)),
  ⟨gown_other h.v.rows (grown_set (rb := X) j u) (box_ne h.v.rows hX (by decide)), gown_other h.v.own (grown_set (rb := X) j u) (box_ne h.v.own hX (by decide)), h.v.i64⟩⟩

theorem BrOwn.newPorts {w w' : World} {base : Nat} {a : Option Addr} {n c : Nat} {fa : Option Addr} {fn fc : Nat} {ra : Option Addr} {rn rc : Nat} {oa : Option Addr} {on oc : Nat} {B : BR} (h : BrOwn w base a n c fa fn fc ra rn rc oa on oc B) (hg : w.grownBy w' (Value.slice a n c).ownBlock) {a' : Option Addr} {n' c' : Nat} {l : List PT} (hp : w'.ownsRow base 50 8 (.slice a' n' c') n' (ptF.all l)) :
  BrOwn w' base a' n' c' fa fn fc ra rn rc oa on oc { B with ports := l } :=
 ⟨hp, gown_type h.f h.ports (by decide) hg, ⟨gown_type h.v.rows h.ports (by decide) hg, gown_type h.v.own h.ports (by decide) hg, h.v.i64⟩⟩

theorem BrOwn.newF {w w' : World} {base : Nat} {a : Option Addr} {n c : Nat} {fa : Option Addr} {fn fc : Nat} {ra : Option Addr} {rn rc : Nat} {oa : Option Addr} {on oc : Nat} {B : BR} (h : BrOwn w base a n c fa fn fc ra rn rc oa on oc B) (hg : w.grownBy w' (Value.slice fa fn fc).ownBlock) {fa' : Option Addr} {fn' fc' : Nat} {l : List FE} (hp : w'.ownsRow base 79 5 (.slice fa' fn' fc') fn' (fentF.all l)) :
  BrOwn w' base a n c fa' fn' fc' ra rn rc oa on oc { B with f := l } :=
 ⟨gown_type h.ports h.f (by decide) hg, hp, ⟨gown_type h.v.rows h.f (by decide) hg, gown_type h.v.own h.f (by decide) hg, h.v.i64⟩⟩

theorem box11 {w : World} {g : Nat} {cs : Array Value} {T : TypeId} (h : w.heap[g]? = some (.cells cs T)) (j : Nat) (u : Value) : (w.setCell ⟨g, j, none⟩ u).heap[g]? = some (.cells (cs.setIfInBounds j u) T) := set_block5 (j := j) h u

def vtabNew (ports : Int) : VT := if (decide (1 ≤ ports) && decide (ports ≤ 6)) = true then ⟨[⟨1, allOf ports.toNat, allOf ports.toNat⟩], List.replicate ports.toNat 1⟩ else ⟨[], []⟩

theorem vtabNew_no {ports : Int} (h : (decide (1 ≤ ports) && decide (ports ≤ 6)) = false) : vtabNew ports = ⟨[], []⟩ := by
 unfold vtabNew
 rw [h, if_neg Bool.false_ne_true]
theorem vtabNew_yes {p : Nat} (h : (decide (1 ≤ (p : Int)) && decide ((p : Int) ≤ 6)) = true) : vtabNew p = ⟨[⟨1, allOf p, allOf p⟩], List.replicate p 1⟩ := by
 unfold vtabNew
 rw [if_pos h, Int.toNat_natCast]

theorem ones_i64 (k : Nat) : I64s (List.replicate k 1) := by
 intro z hz
 rw [List.eq_of_mem_replicate hz]
 exact ⟨by decide, by decide⟩

theorem own_one {α : Type} (F : Flat α) {w : World} {g base : Nat} {x : α} {cs : Array Value} {T : TypeId} (h : w.heap[g]? = some (.cells cs T)) (hc : cs.toList = F.cs x) (hb : base ≤ g) : w.ownsRow base T F.k (.slice (some ⟨g, 0, none⟩) 1 1) 1 (F.all [x]) := by
 have hl : cs.toList.length = F.k := by rw [hc, F.len]
 refine ⟨by rw [F.all_length]; rfl, .inr ⟨g, 1, cs, rfl, hb, h, Nat.le_refl _, by unfold maxLen; omega, ?_, ?_⟩⟩
 ·have := hl
  simp at this
  rw [this, Nat.one_mul]
 ·rw [F.all_one, Nat.one_mul, ← hc, ← hl, List.take_length]

theorem vownNone (w : World) (base : Nat) : VOwn w base none 0 0 none 0 0 ⟨[], []⟩ := ⟨World.ownsRow_nil _ _ _ _, World.ownsRow_nil _ _ _ _, (by intro z hz; cases hz)⟩

set_option maxRecDepth 100000 in
set_option maxHeartbeats 4000000 in
theorem specVtabNew_made (ports : Int) (w : World) :
  Calls Try.prog 15 #[.int .i64 ports] w fun e w' => ∃ a n c o p q, e = .returned (.agg #[.slice a n c, .slice o p q]) ∧ VOwn w' w.heap.size a n c o p q (vtabNew ports) ∧ Below w.heap.size w w' := by
 generalize hw1 : w.alloc (Obj.cells #[Value.slice none 0 0, Value.slice none 0 0] 27) = w1
 have b01 : Below w.heap.size w w1 := by subst hw1; exact below_one _ _
 have k0 : w1.heap[w.heap.size]? = some (.cells #[.slice none 0 0, .slice none 0 0] 27) := by rw [← hw1]; exact block_last _ _
 have z1 : Hid (w.heap.size < w1.heap.size) := hide (by rw [← hw1]; simp)
 cases hin : (decide (1 ≤ ports) && decide (ports ≤ 6))
 ·rw [vtabNew_no hin]
  have HIN := hide hin
  clear hin
  obtain ⟨⟨g0, g1⟩, f0, f1⟩ := cells2 k0
  have HB := hide (below_set (below_set b01 (Nat.le_refl _) 0 (.slice none 0 0)) (Nat.le_refl _) 1 (.slice none 0 0))
  go_enter Try.func15, Try.ntmps15
  go_wp2_with (refine (within_any ports 1 6 _).mono ?_; rintro r w2 ⟨rfl, e2⟩; obtain rfl := e2.symm; rw [HIN.out])
  exact bodyPost_ret (v := .agg #[.slice none 0 0, .slice none 0 0]) (by simp [results, Try.results15, go_sem, *]) rfl ⟨_, _, _, _, _, _, rfl, vownNone _ _, HB.out⟩
 ·obtain ⟨p, rfl⟩ : ∃ p : Nat, ports = (p : Int) := ⟨ports.toNat, by simp at hin; omega⟩
  rw [vtabNew_yes hin]
  have HIN := hide hin
  have hp : 1 ≤ (p : Int) ∧ (p : Int) ≤ 6 := by simpa using hin
  clear hin
  generalize hw2 : w1.alloc (Obj.cells #[Value.int .i64 1, Value.int .i64 (allOf p), Value.int .i64 (allOf p)] 71) = w2
  have b12 : Below w1.heap.size w1 w2 := by subst hw2; exact below_one _ _
  have k1 : w2.heap[w1.heap.size]? = some (.cells #[.int .i64 1, .int .i64 (allOf p), .int .i64 (allOf p)] 71) := by rw [← hw2]; exact block_last _ _
  generalize hwz : w2.alloc (Obj.cells #[Value.slice none 0 0, Value.slice none 0 0] 27) = wz
  have b2z : Below w2.heap.size w2 wz := by subst hwz; exact below_one _ _
  have kz : wz.heap[w2.heap.size]? = some (.cells #[.slice none 0 0, .slice none 0 0] 27) := by rw [← hwz]; exact block_last _ _
  obtain ⟨⟨j0, j1⟩, j2, j3⟩ := cells2 kz
  generalize hw3 : (wz.setCell ⟨w2.heap.size, 0, none⟩ (Value.slice (some ⟨w1.heap.size, 0, none⟩) 1 1)).setCell ⟨w2.heap.size, 1, none⟩ (Value.slice none 0 0) = w3
  have b23 : Below w2.heap.size w2 w3 := by subst hw3; exact below_set (below_set b2z (Nat.le_refl _) _ _) (Nat.le_refl _) _ _
  have k2 : w3.heap[w2.heap.size]? = some (.cells #[.slice (some ⟨w1.heap.size, 0, none⟩) 1 1, .slice none 0 0] 27) := by
   have h1 := set_block5 (j := 0) kz (Value.slice (some ⟨w1.heap.size, 0, none⟩) 1 1)
   have h2 := set_block5 (j := 1) h1 (Value.slice none 0 0)
   rw [hw3] at h2
   exact h2
  have hR : w3.ownsRow w1.heap.size 71 3 (.slice (some ⟨w1.heap.size, 0, none⟩) 1 1) 1 (vrowF.all [⟨1, allOf p, allOf p⟩]) := gown_below (own_one vrowF (x := ⟨1, allOf p, allOf p⟩) k1 rfl (Nat.le_refl _)) b23
  have b13 := gr_trans b12 b23
  have hall := vall_is p hp.1 hp.2
  have X2 : Hid (w1.heap.size ≤ w2.heap.size) := hide b12.size
  have hwp : IntKind.u64.wrap (p : Int) = (p : Int) := by rw [IntKind.wrap_u64]; omega
  go_enter Try.func15, Try.ntmps15
  go_wp2_with (refine (within_any (p : Int) 1 6 _).mono ?_; rintro r wy ⟨rfl, ey⟩; obtain rfl := ey.symm; rw [HIN.out])
  go_wp2
  rw [hall]
  clear j0 j1 j2 j3
  go_loopw [5] (fun i wr => ∃ (k : Nat) (o : Option Addr) (q : Nat), k ≤ p ∧ i = .int .i64 k ∧ wr.heap[w2.heap.size]? = some (.cells #[.slice (some ⟨w1.heap.size, 0, none⟩) 1 1, .slice o k q] 27) ∧ wr.ownsRow w1.heap.size 71 3 (.slice (some ⟨w1.heap.size, 0, none⟩) 1 1) 1 (vrowF.all [⟨1, allOf p, allOf p⟩]) ∧ wr.ownsRow w1.heap.size 3 1 (.slice o k q) k (intF.all (List.replicate k 1)) ∧ Below w1.heap.size w1 wr) (fun i _ => p - (intOf i).toNat)
  case atStart => exact ⟨0, none, 0, Nat.zero_le _, rfl, k2, hR, World.ownsRow_nil _ _ _ _, b13⟩
  case round =>
   obtain ⟨k, o, q, hk, rfl, kX, hRr, hI, hb⟩ := hrel
   by_cases hlt : k < p
   ·obtain ⟨⟨x0, x1⟩, -⟩ := cells2 kX
    generalize hwa : wr.alloc (Obj.cells #[Value.int .i64 1] 3) = wa
    have bra : Below wr.heap.size wr wa := by subst hwa; exact below_one _ _
    have ka : wa.heap[wr.heap.size]? = some (.cells #[.int .i64 1] 3) := by rw [← hwa]; exact block_last _ _
    have gone : GRow intF wa (some ⟨wr.heap.size, 0, none⟩) 1 1 [1] := grow_own (F := intF) (own_one intF (x := 1) (base := 0) ka rfl (Nat.zero_le _))
    have hba := gr_trans hb bra
    have HR2 := hide (gown_below hRr bra)
    have hI2 := gown_below hI bra
    have HI0 := hide hI2
    have HKX := hide (kept_block kX bra)
    have HBA := hide hba
    clear hRr hI kX hb hba k2 hR
    go_wp2_with (at_builtin; refine wpList_append_flat (F := intF) _ rfl _ _ 25 3 rfl w1.heap.size Try.underlying25 Try.infoI64 rfl (by decide) _ k (List.replicate k 1) rfl hI2 (some ⟨wr.heap.size, 0, none⟩) 1 1 [1] rfl gone (by omega) HBA.out.size ?_)
    intro a7 c7 w7 how hr hgr hb7
    have hown2 := gown_type HR2.out HI0.out (by decide) hgr
    have kX7 := kept_grown HKX.out hgr (fun j hj => box_ne HI0.out HKX.out (by decide) j hj)
    obtain ⟨⟨y0, y1⟩, f0, f1⟩ := cells2 kX7
    have HO : Hid ((w7.setCell ⟨w2.heap.size, 1, none⟩ (.slice a7 (k + 1) c7)).ownsRow w1.heap.size 3 1 (.slice a7 (k + 1) c7) (k + 1) (intF.all (List.replicate (k + 1) 1))) := hide (by
     rw [List.replicate_succ']
     exact gown_other how (grown_set (rb := w2.heap.size) 1 _) (box_ne how kX7 (by decide)))
    have HR3 := hide (gown_other hown2 (grown_set (rb := w2.heap.size) 1 (.slice a7 (k + 1) c7)) (box_ne hown2 kX7 (by decide)))
    have HK3 : Hid ((w7.setCell ⟨w2.heap.size, 1, none⟩ (.slice a7 (k + 1) c7)).heap[w2.heap.size]? = some (.cells #[.slice (some ⟨w1.heap.size, 0, none⟩) 1 1, .slice a7 (k + 1) c7] 27)) := hide (set_block2 kX7 _)
    have HB3 := hide (below_set (HBA.out.trans hb7) X2.out 1 (.slice a7 (k + 1) c7))
    clear how hr hgr hb7 hown2 hI2 x0 x1 gone ka
    go_wp2
    go_roundw
    case rel => exact ⟨k + 1, a7, c7, by omega, by go_num, HK3.out, HR3.out, HO.out, HB3.out⟩
    case measure => simp [intOf]; omega
   ·have hkp : k = p := by omega
    subst hkp
    obtain ⟨⟨x0, x1⟩, -⟩ := cells2 kX
    obtain ⟨⟨g0, g1⟩, f0, f1⟩ := cells2 (kept_block k0 hb)
    have hV : VOwn wr w1.heap.size (some ⟨w1.heap.size, 0, none⟩) 1 1 o k q ⟨[⟨1, allOf k, allOf k⟩], List.replicate k 1⟩ := ⟨hRr, (by rw [← intF_all]; exact hI), ones_i64 _⟩
    have HO := hide ((hV.set2 (g := w.heap.size) z1.out (.slice (some ⟨w1.heap.size, 0, none⟩) 1 1) (.slice o k q)).lt (base' := w.heap.size) b01.size)
    have HB := hide (below_set (below_set (gr_trans b01 hb) (Nat.le_refl _) 0 (.slice (some ⟨w1.heap.size, 0, none⟩) 1 1)) (Nat.le_refl _) 1 (.slice o k q))
    clear hV hRr hI hb k2 hR
    go_wp2
    exact bodyPost_ret (v := .agg #[.slice (some ⟨w1.heap.size, 0, none⟩) 1 1, .slice o k q]) (by simp [results, Try.results15, go_sem, *]) rfl ⟨_, _, _, _, _, _, rfl, HO.out, HB.out⟩

structure Between (B E : Nat) (w w' : World) : Prop where
 below : Below B w w'
 block : ∀ i, i < w.heap.size → E ≤ i → w'.heap[i]? = w.heap[i]?

theorem Between.of_below {B E : Nat} {w w' : World} (h : Below w.heap.size w w') (hB : B ≤ w.heap.size) : Between B E w w' := ⟨h.mono hB, fun i hi _ => h.block i hi⟩

theorem Between.of_grown {B E : Nat} {w w' : World} {row : Option Nat} (h : w.grownBy w' row) (hB : B ≤ w.heap.size) (hr : ∀ k, row = some k → B ≤ k ∧ k < E) : Between B E w w' :=
 ⟨(Below.refl _ _).grown h hB (fun k hk => (hr k hk).1), fun i hi hE => h.block i hi (fun e => by have := hr i e.symm; omega)⟩

theorem Between.trans {B E : Nat} {w w1 w2 : World} (h : Between B E w w1) (k : Between B E w1 w2) : Between B E w w2 :=
 ⟨h.below.trans k.below, fun i hi hE => (k.block i (Nat.lt_of_lt_of_le hi h.below.size) hE).trans (h.block i hi hE)⟩

theorem Between.own {B E : Nat} {w w' : World} (h : Between B E w w') {base k : Nat} {e : TypeId} {v : Value} {n : Nat} {xs : List Value} (ho : w.ownsRow base e k v n xs) (hE : E ≤ base) : w'.ownsRow base e k v n xs := by
 have hlt := ho.lt
 obtain ⟨hl, ho | ⟨g, cap, cur, rfl, hg, hh, h1, h2, h3, h4⟩⟩ := ho
 ·exact ⟨hl, .inl ho⟩
 ·refine ⟨hl, .inr ⟨g, cap, cur, rfl, hg, ?_, h1, h2, h3, h4⟩⟩
  rw [h.block g (hlt g rfl).2 (by omega)]
  exact hh

set_option maxRecDepth 100000 in
set_option maxHeartbeats 1000000 in
theorem eqVtab_same (a : Option Addr) (n c : Nat) (o : Option Addr) (p q : Nat) (a2 : Option Addr) (n2 c2 : Nat) (o2 : Option Addr) (p2 q2 : Nat) (v : VT) (w : World) (h : VTab w a n c o p q v) (h2 : VTab w a2 n2 c2 o2 p2 q2 v) :
  Calls Try.prog 21 #[.agg #[.slice a n c, .slice o p q], .agg #[.slice a2 n2 c2, .slice o2 p2 q2]] w fun e w' => e = .returned (.bool true) ∧ Below w.heap.size w w' := by
 generalize hw1 : w.alloc (Obj.cells #[Value.slice a n c, Value.slice o p q] 27) = w1
 generalize hw2 : w1.alloc (Obj.cells #[Value.slice a2 n2 c2, Value.slice o2 p2 q2] 27) = w2
 have b01 : Below w.heap.size w w1 := by subst hw1; exact below_one _ _
 have b12 : Below w1.heap.size w1 w2 := by subst hw2; exact below_one _ _
 have b02 := gr_trans b01 b12
 obtain ⟨x0, x1⟩ := box_two hw1 b12
 obtain ⟨x2, x3⟩ := box_two hw2 (Below.refl _ w2)
 go_enter Try.func21, Try.ntmps21
 go_wp2_with fail
 refine (eqVrows_same a n c a2 n2 c2 v.rows _ (h.rows.below b02) (h2.rows.below b02)).mono ?_
 rintro e w3 ⟨rfl, hb3⟩
 obtain ⟨y0, y1⟩ := box_two hw1 (gr_trans b12 hb3)
 obtain ⟨y2, y3⟩ := box_two hw2 hb3
 have b03 := gr_trans b02 hb3
 clear x0 x1 x2 x3
 go_wp2_with fail
 refine (eqI_same o p q o2 p2 q2 v.own _ (h.own.below b03) (h2.own.below b03)).mono ?_
 rintro e w4 ⟨rfl, m, rfl⟩
 have HB := hide (gr_drewN b03 m)
 clear y0 y1 y2 y3
 go_wp2
 go_ret
 exact ⟨rfl, HB.out⟩

def markT (k : Int) (n p : Nat) : VT := ⟨markRs k n, marksI (k + 3 * n) p⟩

set_option maxRecDepth 100000 in
set_option maxHeartbeats 1000000 in
theorem markVtab_from (K : Int) (hK0 : 0 ≤ K) (hK1 : K ≤ 549755813888) (B E : Nat) (a : Option Addr) (n c : Nat) (o : Option Addr) (p q : Nat) (v : VT) (w : World) (h : VOwn w B a n c o p q v) (hB : B ≤ w.heap.size) (hE1 : ∀ k, (Value.slice a n c).ownBlock = some k → k < E) (hE2 : ∀ k, (Value.slice o p q).ownBlock = some k → k < E) (hn : n ≤ 16777216) (hp : p ≤ 16777216) :
  Calls Try.prog 24 #[.agg #[.slice a n c, .slice o p q], .int .i64 K] w fun e w' => e = .returned (.int .i64 (K + 3 * n + p)) ∧ VOwn w' B a n c o p q (markT K n p) ∧ Between B E w w' ∧ (∀ (b2 k2 : Nat) (e2 : TypeId) (v2 : Value) (n2 : Nat) (xs2 : List Value), w.ownsRow b2 e2 k2 v2 n2 xs2 → (e2 : Nat) ≠ 71 → (e2 : Nat) ≠ 3 → w'.ownsRow b2 e2 k2 v2 n2 xs2) := by
 have l1 := h.rows.lt
 have l2 := h.own.lt
 generalize hw1 : w.alloc (Obj.cells #[Value.slice a n c, Value.slice o p q] 27) = w1
 have b01 : Below w.heap.size w w1 := by subst hw1; exact below_one _ _
 have kb : w1.heap[w.heap.size]? = some (.cells #[.slice a n c, .slice o p q] 27) := by rw [← hw1]; exact block_last _ _
 obtain ⟨⟨x0, x1⟩, -⟩ := cells2 kb
 have h1 := h.below b01
 have bt1 : Between B E w w1 := Between.of_below b01 hB
 go_enter Try.func24, Try.ntmps24
 go_wp2_with fail
 refine (markVrows_grown B a n c v.rows K _ h1.rows hn (by omega) (by omega)).mono ?_
 rintro e w2 ⟨rfl, hR, hg⟩
 have bt2 := bt1.trans (Between.of_grown hg (Nat.le_trans hB b01.size) (fun k hk => ⟨(l1 k hk).1, hE1 k hk⟩))
 have hI := gown_type h1.own h1.rows (by decide) hg
 have kb2 := kept_grown kb hg (fun k hk => by have := (l1 k hk).2; omega)
 obtain ⟨⟨y0, y1⟩, -⟩ := cells2 kb2
 have hg2 := hg
 clear x0 x1 hg
 go_wp2_with fail
 refine (markI_grown B o p q v.own (K + 3 * n) _ hI hp (by omega) (by omega)).mono ?_
 rintro e w3 ⟨rfl, hI3, hg⟩
 have bt3 := bt2.trans (Between.of_grown hg (Nat.le_trans hB bt2.below.size) (fun k hk => ⟨(l2 k hk).1, hE2 k hk⟩))
 have hR3 := gown_type hR hI (by decide) hg
 have HO : Hid (VOwn w3 B a n c o p q (markT K n p)) := hide ⟨hR3, hI3, marksI_byte _ _ (by omega) (by omega) hp⟩
 have HT := hide bt3
 have HK : Hid ((∀ (b2 k2 : Nat) (e2 : TypeId) (v2 : Value) (n2 : Nat) (xs2 : List Value), w.ownsRow b2 e2 k2 v2 n2 xs2 → (e2 : Nat) ≠ 71 → (e2 : Nat) ≠ 3 → w3.ownsRow b2 e2 k2 v2 n2 xs2)) := hide (fun b2 k2 e2 v2 n2 xs2 ho hn1 hn2 => gown_type (gown_type (gown_below ho b01) h1.rows hn1 hg2) hI hn2 hg)
 clear hR hI hR3 hI3 hg hg2 y0 y1 bt2 bt3
 go_wp2
 go_ret
 exact ⟨rfl, HO.out, HT.out, HK.out⟩

set_option maxRecDepth 100000 in
set_option maxHeartbeats 1000000 in
theorem heldVtab_from (K : Int) (hK0 : 0 ≤ K) (hK1 : K ≤ 549755813888) (a : Option Addr) (n c : Nat) (o : Option Addr) (p q : Nat) (w : World) (h : VTab w a n c o p q (markT K n p)) (hn : n ≤ 16777216) (hp : p ≤ 16777216) :
  Calls Try.prog 27 #[.agg #[.slice a n c, .slice o p q], .int .i64 K] w fun e w' => e = .returned (.int .i64 (K + 3 * n + p)) ∧ Below w.heap.size w w' := by
 generalize hw1 : w.alloc (Obj.cells #[Value.slice a n c, Value.slice o p q] 27) = w1
 have b01 : Below w.heap.size w w1 := by subst hw1; exact below_one _ _
 obtain ⟨x0, x1⟩ := box_two hw1 (Below.refl _ w1)
 have j1 : ¬ (K + 3 * (n : Int) < 0) := by omega
 have j2 : ¬ (K + 3 * (n : Int) + (p : Int) < 0) := by omega
 go_enter Try.func27, Try.ntmps27
 go_wp2_with fail
 refine (heldVrows_any a n c K _ (h.rows.below b01) hn (by omega) (by omega)).mono ?_
 rintro e w2 ⟨rfl, hb2⟩
 obtain ⟨y0, y1⟩ := box_two hw1 hb2
 have b02 := gr_trans b01 hb2
 clear x0 x1 hb2
 go_wp2_with fail
 refine (heldI_any o p q (K + 3 * n) _ (h.own.below b02) hp (by omega) (by omega)).mono ?_
 rintro e w3 ⟨rfl, e3⟩
 obtain rfl := e3.symm
 have HB := hide b02
 clear y0 y1 b02
 go_wp2
 go_ret
 exact ⟨rfl, HB.out⟩

end Go.Proofs.Ytfefhilolhdonaa
