/-
  Who grows older, who is flushed: the program's own, by a range over its map from which those that go are deleted.
-/
import Derived.Test.YtmcikcpkggonfaaMapWalk
import Derived.Test.YtmcikcpkggonfaaFdbList
namespace Go.Proofs.Ytmcikcpkggonfaa
open Go.RowKit

theorem ne_cells {w : World} {b i : Nat} {cs : Array Value} {T : TypeId} (hk : ∀ cs T, w.heap[b]? ≠ some (.cells cs T)) (h : w.heap[i]? = some (.cells cs T)) : b ≠ i := by
  intro e
  subst e
  exact hk _ _ h

/-- A row of cells stays while a block turns that is none. -/
theorem own_kind {w w' : World} {base k : Nat} {e : TypeId} {v : Value} {n : Nat} {xs : List Value} (h : w.ownsRow base e k v n xs) {b : Nat} (hg : w.grownBy w' (some b)) (hk : ∀ cs T, w.heap[b]? ≠ some (.cells cs T)) : w'.ownsRow base e k v n xs := by
  refine gown_other h hg ?_
  intro i hi e1
  subst e1
  rcases h.2 with ⟨rfl, _⟩ | ⟨g, cap, cur, rfl, _, hh, _⟩
  · cases hi
  · cases hi
    exact hk _ _ hh

theorem Ranging.iter {P : Program} {α β : Type} {M : MK P α β} {w : World} {b r n : Nat} {g : α → Option β} {left : α → Bool} {cnt : Nat} (h : Ranging M w b r n g left cnt) : ∀ cs T, w.heap[r]? ≠ some (.cells cs T) := by
  obtain ⟨es, clock, since, seen, c0, hb, he, hr, -⟩ := h
  intro cs T e
  rw [hr] at e
  cases e

theorem Ranging.mapk {P : Program} {α β : Type} {M : MK P α β} {w : World} {b r n : Nat} {g : α → Option β} {left : α → Bool} {cnt : Nat} (h : Ranging M w b r n g left cnt) : ∀ cs T, w.heap[b]? ≠ some (.cells cs T) := by
  obtain ⟨es, clock, since, seen, c0, hb, -⟩ := h
  intro cs T e
  rw [hb] at e
  cases e

/-- The state while the range goes on. -/
structure RSt (w : World) (it : Nat) (wr : World) (p bm : Nat) (aq : Option Addr) (cq : Nat) (l : List FE) (f : FE → Option FE) (left : FK → Bool) (cnt : Nat) : Prop where
  rg : Ranging mE wr bm it 16777216 (midF f (entsOf l) left) left cnt
  box : wr.heap[p]? = some (.cells #[.slice aq (keysOf l).length cq, .map (some bm)] 58)
  own : wr.ownsRow w.heap.size 60 3 (.slice aq (keysOf l).length cq) (keysOf l).length (fkF.all (keysOf l))
  bel : Below w.heap.size w wr

theorem RSt.turned {w : World} {it : Nat} {wr w' : World} {p bm : Nat} {aq : Option Addr} {cq : Nat} {l : List FE} {f : FE → Option FE} {left : FK → Bool} {cnt j : Nat} (h : RSt w it wr p bm aq cq l f left cnt) (hg : wr.grownBy w' (some j)) (hk : ∀ cs T, wr.heap[j]? ≠ some (.cells cs T)) (hj : w.heap.size ≤ j) :
    w'.heap[p]? = some (.cells #[.slice aq (keysOf l).length cq, .map (some bm)] 58) ∧ w'.ownsRow w.heap.size 60 3 (.slice aq (keysOf l).length cq) (keysOf l).length (fkF.all (keysOf l)) ∧ Below w.heap.size w w' :=
  ⟨kept_grown h.box hg (fun i hi => by cases hi; exact ne_cells hk h.box), own_kind h.own hg hk, h.bel.grown hg h.bel.size (fun i hi => by cases hi; exact hj)⟩

theorem RSt.tab {w : World} {it : Nat} {wr : World} {p bm : Nat} {aq : Option Addr} {cq : Nat} {l : List FE} {f : FE → Option FE} {left : FK → Bool} {cnt : Nat} (h : RSt w it wr p bm aq cq l f left cnt) (hl : ∀ k, left k = false) (h1 : w.heap.size ≤ p) (h2 : w.heap.size ≤ bm) (h3 : ∀ k ∈ keysOf l, FKok k) (h4 : (keysOf l).length ≤ 16777216) :
    Tab wr w.heap.size p bm (keysOf l) (fun k => (entsOf l k).bind f) :=
  ⟨⟨aq, cq, h.box, h.own⟩, by have := h.rg.is; rw [mid_end f (entsOf l) hl] at this; exact this, h1, h2, h3, h4⟩

/-- Who stays when a port is flushed. -/
def flushE (p : Int) (e : FE) : Option FE := if (e.s || (e.p != p)) = true then some e else none

theorem flush_is (l : List FE) (p : Int) : flushF l p = l.filterMap (flushE p) := by
  induction l with
  | nil => rfl
  | cons x r ih =>
    unfold flushF at *
    unfold flushE at *
    rw [List.filter_cons, List.filterMap_cons, ih]
    cases (x.s || (x.p != p)) <;> rfl

set_option maxRecDepth 100000 in
set_option maxHeartbeats 8000000 in
theorem implAge_made (ao : Option Addr) (n cap : Nat) (l : List FE) (w : World) (h : GRow fentF w ao n cap l) (hn : n ≤ 16777216) (hR : ∀ x ∈ l, x.Rng) :
    Calls Try.prog 17 #[.slice ao n cap] w fun r w' => ∃ ao' cap', r = .returned (.slice ao' (ageF l).length cap') ∧ w'.ownsRow w.heap.size 30 5 (.slice ao' (ageF l).length cap') (ageF l).length (fentF.all (ageF l)) ∧ GRow fentF w' ao' (ageF l).length cap' (ageF l) ∧ Below w.heap.size w w' := by
  rw [show ageF l = l.filterMap ageE from rfl]
  go_enter Try.func17, Try.ntmps17
  go_wp2_with fail
  refine (tableOf_any ao n cap l _ h hn hR).mono ?_
  rintro r w1 ⟨p, bm, rfl, tab, hb1⟩
  obtain ⟨aq, cq, hbox, hown⟩ := tab.box
  obtain ⟨⟨pq0, pq1⟩, -⟩ := cells2 hbox
  have hmap := tab.map
  have HLP := hide tab.lp
  have HLB := hide tab.lb
  have HOK := hide tab.oks
  have HFW := hide tab.few
  have hs1 := hb1.size
  clear tab
  go_wp2_with (first | (at_range; refine wpList_range_fe _ rfl _ rfl bm 16777216 (entsOf l) rfl hmap ?_; intro w2 cnt2 hrg2 hb2 hs2) | go_in)
  go_frame
  have st2 : RSt w w1.heap.size w2 p bm aq cq l ageE (fun k => (entsOf l k).isSome) cnt2 := ⟨by rw [mid_start]; exact hrg2, kept_block hbox hb2, gown_below hown hb2, gr_trans hb1 hb2⟩
  have HS2 := hide st2
  clear st2 hrg2 hb2 hown hbox hmap pq0 pq1 hb1
  go_loopw [13] (fun _ wr => ∃ left cnt, RSt w w1.heap.size wr p bm aq cq l ageE left cnt) (fun _ wr => wr.rangeLeft bm w1.heap.size)
  case atStart => exact ⟨_, _, HS2.out⟩
  case round =>
    obtain ⟨left, cnt, st⟩ := hrel
    clear HS2
    have hrg := st.rg
    have HST := hide st
    go_wp2_with (first | (at_next; refine wpList_next_fe _ rfl _ rfl bm w1.heap.size 16777216 _ left cnt rfl hrg ?_ ?_) | go_in)
    · intro hl0
      have hT : Tab wr w.heap.size p bm (keysOf l) (fun k => (entsOf l k).bind ageE) := st.tab hl0 HLP.out HLB.out HOK.out HFW.out
      have HB := hide st.bel
      clear hrg st HST
      go_wp2_with fail
      refine (list_any _ _ p bm _ _ hT).mono ?_
      rintro r w9 ⟨ao9, cap9, rfl, ho9, hr9, hb9⟩
      rw [out_bind (ents_map l) ageE] at ho9 hr9
      have HO := hide (gown_lt ho9 (base' := w.heap.size) HB.out.size)
      have HR := hide hr9
      have HB9 := hide (gr_trans HB.out hb9)
      clear ho9 hr9 hb9 hT
      go_wp2
      go_ret
      exact ⟨_, _, (by rw [out_bind (ents_map l) ageE]; rfl), HO.out, HR.out, HB9.out⟩
    · intro s hs
      rcases s with ⟨y, v, w3, cnt3⟩
      obtain ⟨hyk, hly, hgy, hrg3, hlt3, hg3, hen⟩ := hs
      dsimp only at hyk hly hgy hrg3 hlt3 hg3 hen ⊢
      have hv := hR v (ents_mem (mid_at hly hgy))
      have HN := hide (mid_next hly hgy)
      have hls : upd left y false y = false := upd_same _ _ _
      have st3 := st.turned hg3 (st.rg.iter) (by omega)
      have HLE := hide hrg.left_eq
      clear hrg st HST
      cases hvs : v.s
      · have HVS := hide hvs
        by_cases hva : v.a < 4
        · have hfv : ageE v = some (⟨v.t, v.m, v.p, v.a + 1, v.s⟩ : FE) := by unfold ageE; rw [hvs]; simp [hva]
          rw [hvs] at hen
          clear hvs
          have hw : IntKind.i64.wrap (v.a + 1) = v.a + 1 := wrap_at _ (by have := hv.2.2.2; omega)
          have b4 := below_two w3 (.cells #[.int .i64 y.1, .int .i64 y.2.1, .int .i64 y.2.2] 60) (.cells #[.int .i64 v.t, .int .i64 v.m, .int .i64 v.p, .int .i64 (v.a + 1), .bool false] 30)
          have q1 := kept_block st3.1 b4
          have q2 := gown_below st3.2.1 b4
          have q3 := gr_trans st3.2.2 b4
          have q4 := hrg3.below b4
          have kk := kept_block (block_last w3 (.cells #[.int .i64 y.1, .int .i64 y.2.1, .int .i64 y.2.2] 60)) (below_one _ (.cells #[.int .i64 v.t, .int .i64 v.m, .int .i64 v.p, .int .i64 (v.a + 1), .bool false] 30))
          have ke := block_last (w3.alloc (.cells #[.int .i64 y.1, .int .i64 y.2.1, .int .i64 y.2.2] 60)) (.cells #[.int .i64 v.t, .int .i64 v.m, .int .i64 v.p, .int .i64 (v.a + 1), .bool false] 30)
          rw [show (w3.alloc (.cells #[.int .i64 y.1, .int .i64 y.2.1, .int .i64 y.2.2] 60)).heap.size = w3.heap.size + 1 by simp] at ke
          have hfe : upd (midF ageE (entsOf l) left) y (some (⟨v.t, v.m, v.p, v.a + 1, v.s⟩ : FE)) = midF ageE (entsOf l) (upd left y false) := by rw [← HN.out, hfv]
          have HFE := hide hfe
          clear hfe
          go_wp2_with fail
          clear hen
          generalize hw4 : (w3.alloc (.cells #[.int .i64 y.1, .int .i64 y.2.1, .int .i64 y.2.2] 60)).alloc (.cells #[.int .i64 v.t, .int .i64 v.m, .int .i64 v.p, .int .i64 (v.a + 1), .bool false] 30) = w4 at *
          obtain ⟨w5, hr5, hrg5, hg5, -⟩ := Ranging.store (w := w4.drew) (q4.kept rfl rfl) (by unfold maxLen; omega) hyk (by rw [hgy]; rfl) (⟨v.t, v.m, v.p, v.a + 1, v.s⟩ : FE)
          have hr5 : (Instr.mapUpdate 56 (.map (some bm)) (.agg #[.int .i64 y.1, .int .i64 y.2.1, .int .i64 y.2.2]) (.agg #[.int .i64 v.t, .int .i64 v.m, .int .i64 v.p, .int .i64 (v.a + 1), .bool v.s])).run Try.prog w4.drew = .ok () w5 := hr5
          rw [HVS.out] at hr5
          have hg5 : w4.grownBy w5 (some bm) := ⟨hg5.os, hg5.tape, hg5.output, hg5.size, hg5.block⟩
          rw [HFE.out] at hrg5
          have hk4 := q4.mapk
          have n5 := ne_cells hk4 q1
          have m5 := ne_cells hk4 kk
          have o5 := ne_cells hk4 ke
          have q5 := kept_grown q1 hg5 (fun i hi => by cases hi; exact n5)
          have kk5 := kept_grown kk hg5 (fun i hi => by cases hi; exact m5)
          have ke5 := kept_grown ke hg5 (fun i hi => by cases hi; exact o5)
          have HS5 := hide (show RSt w w1.heap.size w5 p bm aq cq l ageE (upd left y false) cnt3 from ⟨hrg5, q5, own_kind q2 hg5 hk4, q3.grown hg5 q3.size (fun i hi => by cases hi; exact HLB.out)⟩)
          have hS0 : w4.drew.cell? ⟨p, 1, none⟩ = some (.map (some bm)) ∧ _ ∧ _ := ⟨(cells2 (w := w4.drew) q1).1.2, (cells3 (w := w4.drew) kk).1, (cells5 (w := w4.drew) ke).1⟩
          have hS1 : w5.cell? ⟨p, 1, none⟩ = some (.map (some bm)) ∧ _ ∧ _ := ⟨(cells2 q5).1.2, (cells3 kk5).1, (cells5 ke5).1⟩
          clear q1 q2 q3 q4 hrg3 st3 b4 hk4 n5 m5 o5 q5 kk5 ke5 hrg5 kk ke
          refine wp_region_held_drew (S := (fun W => W.cell? ⟨p, 1, none⟩ = some (.map (some bm)) ∧ (W.cell? ⟨w3.heap.size, 0, none⟩ = some (.int .i64 y.1) ∧ W.cell? ⟨w3.heap.size, 1, none⟩ = some (.int .i64 y.2.1) ∧ W.cell? ⟨w3.heap.size, 2, none⟩ = some (.int .i64 y.2.2)) ∧ (W.cell? ⟨w3.heap.size + 1, 0, none⟩ = some (.int .i64 v.t) ∧ W.cell? ⟨w3.heap.size + 1, 1, none⟩ = some (.int .i64 v.m) ∧ W.cell? ⟨w3.heap.size + 1, 2, none⟩ = some (.int .i64 v.p) ∧ W.cell? ⟨w3.heap.size + 1, 3, none⟩ = some (.int .i64 (v.a + 1)) ∧ W.cell? ⟨w3.heap.size + 1, 4, none⟩ = some (.bool false)))) (by kernel_rfl) (by first | exact hS0 | exact hS1) (fun hHeld => ?_)
          refine wpAnyH_take (i := 0) (oi := { dst := some 22, op := Op.move (Operand.tmp 3), type := 53, pos := "l08_fdb.go:67", after := #[], guard := none }) (v := ?_) rfl (by kernel_rfl) (by kernel_rfl) (by kernel_rfl) (fun _ _ _ h => h) (Or.inl ⟨by rfl, ?_⟩) (by assumption) ?_
          rotate_left
          · (intro wY hSw; (try dsimp only at hSw); go_simp; try with_reducible rfl)
          simp only [Act.put, List.setIfInBounds_toArray, List.set_cons_zero, List.set_cons_succ]
          refine wpAnyH_take (i := 1) (oi := { dst := some 23, op := Op.nilCheck (Operand.tmp 22), type := 0, pos := "l08_fdb.go:67", after := #[{ on := 0, ground := Ground.data }], guard := none }) (v := ?_) rfl (by kernel_rfl) (by kernel_rfl) (by kernel_rfl) (fun _ _ _ h => h) (Or.inl ⟨by rfl, ?_⟩) (by assumption) ?_
          rotate_left
          · (intro wY hSw; (try dsimp only at hSw); go_simp; try with_reducible rfl)
          simp only [Act.put, List.setIfInBounds_toArray, List.set_cons_zero, List.set_cons_succ]
          refine wpAnyH_take (i := 2) (oi := { dst := some 24, op := Op.fieldAddr 58 (Operand.tmp 23) 1, type := 0, pos := "l08_fdb.go:67", after := #[{ on := 1, ground := Ground.data }], guard := none }) (v := ?_) rfl (by kernel_rfl) (by kernel_rfl) (by kernel_rfl) (fun _ _ _ h => h) (Or.inl ⟨by rfl, ?_⟩) (by assumption) ?_
          rotate_left
          · (intro wY hSw; (try dsimp only at hSw); go_simp; try with_reducible rfl)
          simp only [Act.put, List.setIfInBounds_toArray, List.set_cons_zero, List.set_cons_succ]
          refine wpAnyH_take (i := 3) (oi := { dst := some 25, op := Op.load 56 (Operand.tmp 24), type := 56, pos := "l08_fdb.go:67", after := #[{ on := 2, ground := Ground.data }], guard := none }) (v := ?_) rfl (by kernel_rfl) (by kernel_rfl) (by kernel_rfl) (fun _ _ _ h => h) (Or.inl ⟨by rfl, ?_⟩) (by assumption) ?_
          rotate_left
          · (intro wY hSw; (try dsimp only at hSw); go_simp; try with_reducible rfl)
          simp only [Act.put, List.setIfInBounds_toArray, List.set_cons_zero, List.set_cons_succ]
          refine wpAnyH_take (i := 4) (oi := { dst := some 26, op := Op.load 60 (Operand.tmp 4), type := 60, pos := "l08_fdb.go:67", after := #[], guard := none }) (v := ?_) rfl (by kernel_rfl) (by kernel_rfl) (by kernel_rfl) (fun _ _ _ h => h) (Or.inl ⟨by rfl, ?_⟩) (by assumption) ?_
          rotate_left
          · (intro wY hSw; (try dsimp only at hSw); go_simp; try with_reducible rfl)
          simp only [Act.put, List.setIfInBounds_toArray, List.set_cons_zero, List.set_cons_succ]
          refine wpAnyH_take (i := 5) (oi := { dst := some 27, op := Op.load 30 (Operand.tmp 5), type := 30, pos := "l08_fdb.go:67", after := #[], guard := none }) (v := ?_) rfl (by kernel_rfl) (by kernel_rfl) (by kernel_rfl) (fun _ _ _ h => h) (Or.inl ⟨by rfl, ?_⟩) (by assumption) ?_
          rotate_left
          · (intro wY hSw; (try dsimp only at hSw); go_simp; try with_reducible rfl)
          simp only [Act.put, List.setIfInBounds_toArray, List.set_cons_zero, List.set_cons_succ]
          refine wpAnyH_ready (rs := [6]) (by kernel_rfl) (by simp) ?_
          refine AllReadyH.cons (o := { dst := none, op := Op.mapUpdate 56 (Operand.tmp 25) (Operand.tmp 26) (Operand.tmp 27), type := 0, pos := "l08_fdb.go:67", after := #[{ on := 3, ground := Ground.data }, { on := 4, ground := Ground.data }, { on := 5, ground := Ground.data }, { on := 0, ground := Ground.phase }, { on := 1, ground := Ground.phase }, { on := 2, ground := Ground.phase }, { on := 3, ground := Ground.phase }, { on := 4, ground := Ground.phase }, { on := 5, ground := Ground.phase }], guard := none }) rfl (fun K hK => ?_) ?_
          · go_simp
            refine hK.out _ _ (by first | exact hS0 | exact hS1) (fun hHeld => ?_)
            clear hK K
            try simp only [Act.put, List.setIfInBounds_toArray, List.set_cons_zero, List.set_cons_succ]
            refine wpAnyH_done (by kernel_rfl) ?_ _
            clear hS0 hS1 hr5 hHeld
            go_wp2
            go_roundw
            case rel => exact ⟨_, _, HS5.out⟩
            case measure => rw [HS5.out.rg.left_eq, HLE.out]; exact hlt3
          exact AllReadyH.nil
        · have hfv : ageE v = none := by unfold ageE; rw [hvs]; simp [hva]
          have hva2 : (4 : Int) ≤ v.a := by omega
          rw [hvs] at hen
          clear hvs
          have b4 := below_two w3 (.cells #[.int .i64 y.1, .int .i64 y.2.1, .int .i64 y.2.2] 60) (.cells #[.int .i64 v.t, .int .i64 v.m, .int .i64 v.p, .int .i64 v.a, .bool false] 30)
          have q1 := kept_block st3.1 b4
          have q2 := gown_below st3.2.1 b4
          have q3 := gr_trans st3.2.2 b4
          have q4 := hrg3.below b4
          have kk := kept_block (block_last w3 (.cells #[.int .i64 y.1, .int .i64 y.2.1, .int .i64 y.2.2] 60)) (below_one _ (.cells #[.int .i64 v.t, .int .i64 v.m, .int .i64 v.p, .int .i64 v.a, .bool false] 30))
          have ke := block_last (w3.alloc (.cells #[.int .i64 y.1, .int .i64 y.2.1, .int .i64 y.2.2] 60)) (.cells #[.int .i64 v.t, .int .i64 v.m, .int .i64 v.p, .int .i64 v.a, .bool false] 30)
          rw [show (w3.alloc (.cells #[.int .i64 y.1, .int .i64 y.2.1, .int .i64 y.2.2] 60)).heap.size = w3.heap.size + 1 by simp] at ke
          go_wp2_with fail
          clear hen
          generalize hw4 : (w3.alloc (.cells #[.int .i64 y.1, .int .i64 y.2.1, .int .i64 y.2.2] 60)).alloc (.cells #[.int .i64 v.t, .int .i64 v.m, .int .i64 v.p, .int .i64 v.a, .bool false] 30) = w4 at *
          obtain ⟨w5, cnt5, hr5, hrg5, hle5, hg5, -⟩ := Ranging.drop (w := w4.drew) (q4.kept rfl rfl) hyk hls 0
          have hr5 : (Builtin.delete_ #[56, 60] 0 #[.map (some bm), .agg #[.int .i64 y.1, .int .i64 y.2.1, .int .i64 y.2.2]]).run Try.prog w4.drew = .ok (.tuple #[]) w5 := hr5
          have hg5 : w4.grownBy w5 (some bm) := ⟨hg5.os, hg5.tape, hg5.output, hg5.size, hg5.block⟩
          have hfe : upd (midF ageE (entsOf l) left) y none = midF ageE (entsOf l) (upd left y false) := by rw [← HN.out, hfv]
          rw [hfe] at hrg5
          have hk4 := q4.mapk
          have n5 := ne_cells hk4 q1
          have m5 := ne_cells hk4 kk
          have q5 := kept_grown q1 hg5 (fun i hi => by cases hi; exact n5)
          have kk5 := kept_grown kk hg5 (fun i hi => by cases hi; exact m5)
          have HS5 := hide (show RSt w w1.heap.size w5 p bm aq cq l ageE (upd left y false) cnt5 from ⟨hrg5, q5, own_kind q2 hg5 hk4, q3.grown hg5 q3.size (fun i hi => by cases hi; exact HLB.out)⟩)
          have hS0 : w4.drew.cell? ⟨p, 1, none⟩ = some (.map (some bm)) ∧ _ := ⟨(cells2 (w := w4.drew) q1).1.2, (cells3 (w := w4.drew) kk).1⟩
          have hS1 : w5.cell? ⟨p, 1, none⟩ = some (.map (some bm)) ∧ _ := ⟨(cells2 q5).1.2, (cells3 kk5).1⟩
          clear q1 kk ke q2 q3 q4 hrg3 st3 hfe b4 hk4 n5 m5 q5 kk5 hrg5
          refine wp_region_held_drew (S := (fun W => W.cell? ⟨p, 1, none⟩ = some (.map (some bm)) ∧ (W.cell? ⟨w3.heap.size, 0, none⟩ = some (.int .i64 y.1) ∧ W.cell? ⟨w3.heap.size, 1, none⟩ = some (.int .i64 y.2.1) ∧ W.cell? ⟨w3.heap.size, 2, none⟩ = some (.int .i64 y.2.2)))) (by kernel_rfl) (by first | exact hS0 | exact hS1) (fun hHeld => ?_)
          refine wpAnyH_take (i := 0) (oi := { dst := some 35, op := Op.move (Operand.tmp 3), type := 53, pos := "l08_fdb.go:64", after := #[], guard := none }) (v := ?_) rfl (by kernel_rfl) (by kernel_rfl) (by kernel_rfl) (fun _ _ _ h => h) (Or.inl ⟨by rfl, ?_⟩) (by assumption) ?_
          rotate_left
          · (intro wY hSw; (try dsimp only at hSw); go_simp; try with_reducible rfl)
          simp only [Act.put, List.setIfInBounds_toArray, List.set_cons_zero, List.set_cons_succ]
          refine wpAnyH_take (i := 1) (oi := { dst := some 36, op := Op.nilCheck (Operand.tmp 35), type := 0, pos := "l08_fdb.go:64", after := #[{ on := 0, ground := Ground.data }], guard := none }) (v := ?_) rfl (by kernel_rfl) (by kernel_rfl) (by kernel_rfl) (fun _ _ _ h => h) (Or.inl ⟨by rfl, ?_⟩) (by assumption) ?_
          rotate_left
          · (intro wY hSw; (try dsimp only at hSw); go_simp; try with_reducible rfl)
          simp only [Act.put, List.setIfInBounds_toArray, List.set_cons_zero, List.set_cons_succ]
          refine wpAnyH_take (i := 2) (oi := { dst := some 37, op := Op.fieldAddr 58 (Operand.tmp 36) 1, type := 0, pos := "l08_fdb.go:64", after := #[{ on := 1, ground := Ground.data }], guard := none }) (v := ?_) rfl (by kernel_rfl) (by kernel_rfl) (by kernel_rfl) (fun _ _ _ h => h) (Or.inl ⟨by rfl, ?_⟩) (by assumption) ?_
          rotate_left
          · (intro wY hSw; (try dsimp only at hSw); go_simp; try with_reducible rfl)
          simp only [Act.put, List.setIfInBounds_toArray, List.set_cons_zero, List.set_cons_succ]
          refine wpAnyH_take (i := 3) (oi := { dst := some 38, op := Op.load 56 (Operand.tmp 37), type := 56, pos := "l08_fdb.go:64", after := #[{ on := 2, ground := Ground.data }], guard := none }) (v := ?_) rfl (by kernel_rfl) (by kernel_rfl) (by kernel_rfl) (fun _ _ _ h => h) (Or.inl ⟨by rfl, ?_⟩) (by assumption) ?_
          rotate_left
          · (intro wY hSw; (try dsimp only at hSw); go_simp; try with_reducible rfl)
          simp only [Act.put, List.setIfInBounds_toArray, List.set_cons_zero, List.set_cons_succ]
          refine wpAnyH_take (i := 4) (oi := { dst := some 39, op := Op.load 60 (Operand.tmp 4), type := 60, pos := "l08_fdb.go:64", after := #[], guard := none }) (v := ?_) rfl (by kernel_rfl) (by kernel_rfl) (by kernel_rfl) (fun _ _ _ h => h) (Or.inl ⟨by rfl, ?_⟩) (by assumption) ?_
          rotate_left
          · (intro wY hSw; (try dsimp only at hSw); go_simp; try with_reducible rfl)
          simp only [Act.put, List.setIfInBounds_toArray, List.set_cons_zero, List.set_cons_succ]
          refine wpAnyH_ready (rs := [5]) (by kernel_rfl) (by simp) ?_
          refine AllReadyH.cons (o := { dst := none, op := Op.call { callee := Callee.builtin Builtin.delete, args := #[Operand.tmp 38, Operand.tmp 39], argTypes := #[56, 60] }, type := 0, pos := "l08_fdb.go:64", after := #[{ on := 3, ground := Ground.data }, { on := 4, ground := Ground.data }], guard := none }) rfl (fun K hK => ?_) ?_
          · go_simp
            refine hK.out _ _ (by first | exact hS0 | exact hS1) (fun hHeld => ?_)
            clear hK K
            try simp only [Act.put, List.setIfInBounds_toArray, List.set_cons_zero, List.set_cons_succ]
            refine wpAnyH_done (by kernel_rfl) ?_ _
            clear hS0 hS1 hr5 hHeld
            go_wp2
            go_roundw
            case rel => exact ⟨_, _, HS5.out⟩
            case measure => rw [HS5.out.rg.left_eq, HLE.out]; omega
          exact AllReadyH.nil
      · have hfv : ageE v = some v := by unfold ageE; rw [hvs]; rfl
        rw [hvs] at hen
        clear hvs
        have b4 := below_two w3 (.cells #[.int .i64 y.1, .int .i64 y.2.1, .int .i64 y.2.2] 60) (.cells #[.int .i64 v.t, .int .i64 v.m, .int .i64 v.p, .int .i64 v.a, .bool true] 30)
        have q1 := kept_block st3.1 b4
        have q2 := gown_below st3.2.1 b4
        have q3 := gr_trans st3.2.2 b4
        have q4 := hrg3.below b4
        have kk := kept_block (block_last w3 (.cells #[.int .i64 y.1, .int .i64 y.2.1, .int .i64 y.2.2] 60)) (below_one _ (.cells #[.int .i64 v.t, .int .i64 v.m, .int .i64 v.p, .int .i64 v.a, .bool true] 30))
        have ke := block_last (w3.alloc (.cells #[.int .i64 y.1, .int .i64 y.2.1, .int .i64 y.2.2] 60)) (.cells #[.int .i64 v.t, .int .i64 v.m, .int .i64 v.p, .int .i64 v.a, .bool true] 30)
        rw [show (w3.alloc (.cells #[.int .i64 y.1, .int .i64 y.2.1, .int .i64 y.2.2] 60)).heap.size = w3.heap.size + 1 by simp] at ke
        have hfe : midF ageE (entsOf l) left = midF ageE (entsOf l) (upd left y false) := by rw [← HN.out, hfv, upd_self hgy]
        rw [hfe] at q4
        have HS4 := hide (show RSt w w1.heap.size ((w3.alloc (.cells #[.int .i64 y.1, .int .i64 y.2.1, .int .i64 y.2.2] 60)).alloc (.cells #[.int .i64 v.t, .int .i64 v.m, .int .i64 v.p, .int .i64 v.a, .bool true] 30)) p bm aq cq l ageE (upd left y false) cnt3 from ⟨q4, q1, q2, q3⟩)
        clear q1 q2 q3 q4 kk ke hrg3 st3 hfe b4
        go_wp2
        go_roundw
        case rel => exact ⟨_, _, HS4.out⟩
        case measure => rw [HS4.out.rg.left_eq, HLE.out]; exact hlt3

set_option maxRecDepth 100000 in
set_option maxHeartbeats 8000000 in
theorem implFlush_rng (ao : Option Addr) (n cap : Nat) (l : List FE) (p0 : Int) (w : World) (h : GRow fentF w ao n cap l) (hn : n ≤ 16777216) (hR : ∀ x ∈ l, x.Rng) :
    Calls Try.prog 16 #[.slice ao n cap, .int .i64 p0] w fun r w' => ∃ ao' cap', r = .returned (.slice ao' (flushF l p0).length cap') ∧ w'.ownsRow w.heap.size 30 5 (.slice ao' (flushF l p0).length cap') (flushF l p0).length (fentF.all (flushF l p0)) ∧ GRow fentF w' ao' (flushF l p0).length cap' (flushF l p0) ∧ Below w.heap.size w w' := by
  rw [flush_is l p0]
  go_enter Try.func16, Try.ntmps16
  go_wp2_with fail
  refine (tableOf_any ao n cap l _ h hn hR).mono ?_
  rintro r w1 ⟨p, bm, rfl, tab, hb1⟩
  obtain ⟨aq, cq, hbox, hown⟩ := tab.box
  obtain ⟨⟨pq0, pq1⟩, -⟩ := cells2 hbox
  have hmap := tab.map
  have HLP := hide tab.lp
  have HLB := hide tab.lb
  have HOK := hide tab.oks
  have HFW := hide tab.few
  have hs1 := hb1.size
  clear tab
  go_wp2_with (first | (at_range; refine wpList_range_fe _ rfl _ rfl bm 16777216 (entsOf l) rfl hmap ?_; intro w2 cnt2 hrg2 hb2 hs2) | go_in)
  go_frame
  have st2 : RSt w w1.heap.size w2 p bm aq cq l (flushE p0) (fun k => (entsOf l k).isSome) cnt2 := ⟨by rw [mid_start]; exact hrg2, kept_block hbox hb2, gown_below hown hb2, gr_trans hb1 hb2⟩
  have HS2 := hide st2
  clear st2 hrg2 hb2 hown hbox hmap pq0 pq1 hb1
  go_loopw [15] (fun _ wr => ∃ left cnt, RSt w w1.heap.size wr p bm aq cq l (flushE p0) left cnt) (fun _ wr => wr.rangeLeft bm w1.heap.size)
  case atStart => exact ⟨_, _, HS2.out⟩
  case round =>
    obtain ⟨left, cnt, st⟩ := hrel
    clear HS2
    have hrg := st.rg
    have HST := hide st
    go_wp2_with (first | (at_next; refine wpList_next_fe _ rfl _ rfl bm w1.heap.size 16777216 _ left cnt rfl hrg ?_ ?_) | go_in)
    · intro hl0
      have hT : Tab wr w.heap.size p bm (keysOf l) (fun k => (entsOf l k).bind (flushE p0)) := st.tab hl0 HLP.out HLB.out HOK.out HFW.out
      have HB := hide st.bel
      clear hrg st HST
      go_wp2_with fail
      refine (list_any _ _ p bm _ _ hT).mono ?_
      rintro r w9 ⟨ao9, cap9, rfl, ho9, hr9, hb9⟩
      rw [out_bind (ents_map l) (flushE p0)] at ho9 hr9
      have HO := hide (gown_lt ho9 (base' := w.heap.size) HB.out.size)
      have HR := hide hr9
      have HB9 := hide (gr_trans HB.out hb9)
      clear ho9 hr9 hb9 hT
      go_wp2
      go_ret
      exact ⟨_, _, (by rw [out_bind (ents_map l) (flushE p0)]; rfl), HO.out, HR.out, HB9.out⟩
    · intro s hs
      rcases s with ⟨y, v, w3, cnt3⟩
      obtain ⟨hyk, hly, hgy, hrg3, hlt3, hg3, hen⟩ := hs
      dsimp only at hyk hly hgy hrg3 hlt3 hg3 hen ⊢
      have hv := hR v (ents_mem (mid_at hly hgy))
      have HN := hide (mid_next hly hgy)
      have hls : upd left y false y = false := upd_same _ _ _
      have st3 := st.turned hg3 (st.rg.iter) (by omega)
      have HLE := hide hrg.left_eq
      clear hrg st HST
      cases hvs : v.s
      · cases hvp : (v.p == p0)
        · have hfv : flushE p0 v = some v := by unfold flushE; rw [hvs]; simp at hvp; simp [hvp]
          rw [hvs] at hen
          clear hvs
          have b4 := below_two w3 (.cells #[.int .i64 y.1, .int .i64 y.2.1, .int .i64 y.2.2] 60) (.cells #[.int .i64 v.t, .int .i64 v.m, .int .i64 v.p, .int .i64 v.a, .bool false] 30)
          have q1 := kept_block st3.1 b4
          have q2 := gown_below st3.2.1 b4
          have q3 := gr_trans st3.2.2 b4
          have q4 := hrg3.below b4
          have kk := kept_block (block_last w3 (.cells #[.int .i64 y.1, .int .i64 y.2.1, .int .i64 y.2.2] 60)) (below_one _ (.cells #[.int .i64 v.t, .int .i64 v.m, .int .i64 v.p, .int .i64 v.a, .bool false] 30))
          have ke := block_last (w3.alloc (.cells #[.int .i64 y.1, .int .i64 y.2.1, .int .i64 y.2.2] 60)) (.cells #[.int .i64 v.t, .int .i64 v.m, .int .i64 v.p, .int .i64 v.a, .bool false] 30)
          rw [show (w3.alloc (.cells #[.int .i64 y.1, .int .i64 y.2.1, .int .i64 y.2.2] 60)).heap.size = w3.heap.size + 1 by simp] at ke
          have hfe : midF (flushE p0) (entsOf l) left = midF (flushE p0) (entsOf l) (upd left y false) := by rw [← HN.out, hfv, upd_self hgy]
          rw [hfe] at q4
          have HS4 := hide (show RSt w w1.heap.size ((w3.alloc (.cells #[.int .i64 y.1, .int .i64 y.2.1, .int .i64 y.2.2] 60)).alloc (.cells #[.int .i64 v.t, .int .i64 v.m, .int .i64 v.p, .int .i64 v.a, .bool false] 30)) p bm aq cq l (flushE p0) (upd left y false) cnt3 from ⟨q4, q1, q2, q3⟩)
          clear q1 q2 q3 q4 kk ke hrg3 st3 hfe b4
          go_wp2
          go_roundw
          case rel => exact ⟨_, _, HS4.out⟩
          case measure => rw [HS4.out.rg.left_eq, HLE.out]; exact hlt3
        · have hfv : flushE p0 v = none := by unfold flushE; rw [hvs]; simp at hvp; simp [hvp]
          rw [hvs] at hen
          clear hvs
          have b4 := below_two w3 (.cells #[.int .i64 y.1, .int .i64 y.2.1, .int .i64 y.2.2] 60) (.cells #[.int .i64 v.t, .int .i64 v.m, .int .i64 v.p, .int .i64 v.a, .bool false] 30)
          have q1 := kept_block st3.1 b4
          have q2 := gown_below st3.2.1 b4
          have q3 := gr_trans st3.2.2 b4
          have q4 := hrg3.below b4
          have kk := kept_block (block_last w3 (.cells #[.int .i64 y.1, .int .i64 y.2.1, .int .i64 y.2.2] 60)) (below_one _ (.cells #[.int .i64 v.t, .int .i64 v.m, .int .i64 v.p, .int .i64 v.a, .bool false] 30))
          have ke := block_last (w3.alloc (.cells #[.int .i64 y.1, .int .i64 y.2.1, .int .i64 y.2.2] 60)) (.cells #[.int .i64 v.t, .int .i64 v.m, .int .i64 v.p, .int .i64 v.a, .bool false] 30)
          rw [show (w3.alloc (.cells #[.int .i64 y.1, .int .i64 y.2.1, .int .i64 y.2.2] 60)).heap.size = w3.heap.size + 1 by simp] at ke
          go_wp2_with fail
          clear hen
          generalize hw4 : (w3.alloc (.cells #[.int .i64 y.1, .int .i64 y.2.1, .int .i64 y.2.2] 60)).alloc (.cells #[.int .i64 v.t, .int .i64 v.m, .int .i64 v.p, .int .i64 v.a, .bool false] 30) = w4 at *
          obtain ⟨w5, cnt5, hr5, hrg5, hle5, hg5, -⟩ := Ranging.drop (w := w4.drew) (q4.kept rfl rfl) hyk hls 0
          have hr5 : (Builtin.delete_ #[56, 60] 0 #[.map (some bm), .agg #[.int .i64 y.1, .int .i64 y.2.1, .int .i64 y.2.2]]).run Try.prog w4.drew = .ok (.tuple #[]) w5 := hr5
          have hg5 : w4.grownBy w5 (some bm) := ⟨hg5.os, hg5.tape, hg5.output, hg5.size, hg5.block⟩
          have hfe : upd (midF (flushE p0) (entsOf l) left) y none = midF (flushE p0) (entsOf l) (upd left y false) := by rw [← HN.out, hfv]
          rw [hfe] at hrg5
          have hk4 := q4.mapk
          have n5 := ne_cells hk4 q1
          have m5 := ne_cells hk4 kk
          have q5 := kept_grown q1 hg5 (fun i hi => by cases hi; exact n5)
          have kk5 := kept_grown kk hg5 (fun i hi => by cases hi; exact m5)
          have HS5 := hide (show RSt w w1.heap.size w5 p bm aq cq l (flushE p0) (upd left y false) cnt5 from ⟨hrg5, q5, own_kind q2 hg5 hk4, q3.grown hg5 q3.size (fun i hi => by cases hi; exact HLB.out)⟩)
          have hS0 : w4.drew.cell? ⟨p, 1, none⟩ = some (.map (some bm)) ∧ _ := ⟨(cells2 (w := w4.drew) q1).1.2, (cells3 (w := w4.drew) kk).1⟩
          have hS1 : w5.cell? ⟨p, 1, none⟩ = some (.map (some bm)) ∧ _ := ⟨(cells2 q5).1.2, (cells3 kk5).1⟩
          clear q1 kk ke q2 q3 q4 hrg3 st3 hfe b4 hk4 n5 m5 q5 kk5 hrg5
          refine wp_region_held_drew (S := (fun W => W.cell? ⟨p, 1, none⟩ = some (.map (some bm)) ∧ (W.cell? ⟨w3.heap.size, 0, none⟩ = some (.int .i64 y.1) ∧ W.cell? ⟨w3.heap.size, 1, none⟩ = some (.int .i64 y.2.1) ∧ W.cell? ⟨w3.heap.size, 2, none⟩ = some (.int .i64 y.2.2)))) (by kernel_rfl) (by first | exact hS0 | exact hS1) (fun hHeld => ?_)
          refine wpAnyH_take (i := 0) (oi := { dst := some 29, op := Op.move (Operand.tmp 5), type := 53, pos := "l08_fdb.go:77", after := #[], guard := none }) (v := ?_) rfl (by kernel_rfl) (by kernel_rfl) (by kernel_rfl) (fun _ _ _ h => h) (Or.inl ⟨by rfl, ?_⟩) (by assumption) ?_
          rotate_left
          · (intro wY hSw; (try dsimp only at hSw); go_simp; try with_reducible rfl)
          simp only [Act.put, List.setIfInBounds_toArray, List.set_cons_zero, List.set_cons_succ]
          refine wpAnyH_take (i := 1) (oi := { dst := some 30, op := Op.nilCheck (Operand.tmp 29), type := 0, pos := "l08_fdb.go:77", after := #[{ on := 0, ground := Ground.data }], guard := none }) (v := ?_) rfl (by kernel_rfl) (by kernel_rfl) (by kernel_rfl) (fun _ _ _ h => h) (Or.inl ⟨by rfl, ?_⟩) (by assumption) ?_
          rotate_left
          · (intro wY hSw; (try dsimp only at hSw); go_simp; try with_reducible rfl)
          simp only [Act.put, List.setIfInBounds_toArray, List.set_cons_zero, List.set_cons_succ]
          refine wpAnyH_take (i := 2) (oi := { dst := some 31, op := Op.fieldAddr 58 (Operand.tmp 30) 1, type := 0, pos := "l08_fdb.go:77", after := #[{ on := 1, ground := Ground.data }], guard := none }) (v := ?_) rfl (by kernel_rfl) (by kernel_rfl) (by kernel_rfl) (fun _ _ _ h => h) (Or.inl ⟨by rfl, ?_⟩) (by assumption) ?_
          rotate_left
          · (intro wY hSw; (try dsimp only at hSw); go_simp; try with_reducible rfl)
          simp only [Act.put, List.setIfInBounds_toArray, List.set_cons_zero, List.set_cons_succ]
          refine wpAnyH_take (i := 3) (oi := { dst := some 32, op := Op.load 56 (Operand.tmp 31), type := 56, pos := "l08_fdb.go:77", after := #[{ on := 2, ground := Ground.data }], guard := none }) (v := ?_) rfl (by kernel_rfl) (by kernel_rfl) (by kernel_rfl) (fun _ _ _ h => h) (Or.inl ⟨by rfl, ?_⟩) (by assumption) ?_
          rotate_left
          · (intro wY hSw; (try dsimp only at hSw); go_simp; try with_reducible rfl)
          simp only [Act.put, List.setIfInBounds_toArray, List.set_cons_zero, List.set_cons_succ]
          refine wpAnyH_take (i := 4) (oi := { dst := some 33, op := Op.load 60 (Operand.tmp 6), type := 60, pos := "l08_fdb.go:77", after := #[], guard := none }) (v := ?_) rfl (by kernel_rfl) (by kernel_rfl) (by kernel_rfl) (fun _ _ _ h => h) (Or.inl ⟨by rfl, ?_⟩) (by assumption) ?_
          rotate_left
          · (intro wY hSw; (try dsimp only at hSw); go_simp; try with_reducible rfl)
          simp only [Act.put, List.setIfInBounds_toArray, List.set_cons_zero, List.set_cons_succ]
          refine wpAnyH_ready (rs := [5]) (by kernel_rfl) (by simp) ?_
          refine AllReadyH.cons (o := { dst := none, op := Op.call { callee := Callee.builtin Builtin.delete, args := #[Operand.tmp 32, Operand.tmp 33], argTypes := #[56, 60] }, type := 0, pos := "l08_fdb.go:77", after := #[{ on := 3, ground := Ground.data }, { on := 4, ground := Ground.data }], guard := none }) rfl (fun K hK => ?_) ?_
          · go_simp
            refine hK.out _ _ (by first | exact hS0 | exact hS1) (fun hHeld => ?_)
            clear hK K
            try simp only [Act.put, List.setIfInBounds_toArray, List.set_cons_zero, List.set_cons_succ]
            refine wpAnyH_done (by kernel_rfl) ?_ _
            clear hS0 hS1 hr5 hHeld
            go_wp2
            go_roundw
            case rel => exact ⟨_, _, HS5.out⟩
            case measure => rw [HS5.out.rg.left_eq, HLE.out]; omega
          exact AllReadyH.nil
      · have hfv : flushE p0 v = some v := by unfold flushE; rw [hvs]; rfl
        rw [hvs] at hen
        clear hvs
        have b4 := below_two w3 (.cells #[.int .i64 y.1, .int .i64 y.2.1, .int .i64 y.2.2] 60) (.cells #[.int .i64 v.t, .int .i64 v.m, .int .i64 v.p, .int .i64 v.a, .bool true] 30)
        have q1 := kept_block st3.1 b4
        have q2 := gown_below st3.2.1 b4
        have q3 := gr_trans st3.2.2 b4
        have q4 := hrg3.below b4
        have kk := kept_block (block_last w3 (.cells #[.int .i64 y.1, .int .i64 y.2.1, .int .i64 y.2.2] 60)) (below_one _ (.cells #[.int .i64 v.t, .int .i64 v.m, .int .i64 v.p, .int .i64 v.a, .bool true] 30))
        have ke := block_last (w3.alloc (.cells #[.int .i64 y.1, .int .i64 y.2.1, .int .i64 y.2.2] 60)) (.cells #[.int .i64 v.t, .int .i64 v.m, .int .i64 v.p, .int .i64 v.a, .bool true] 30)
        rw [show (w3.alloc (.cells #[.int .i64 y.1, .int .i64 y.2.1, .int .i64 y.2.2] 60)).heap.size = w3.heap.size + 1 by simp] at ke
        have hfe : midF (flushE p0) (entsOf l) left = midF (flushE p0) (entsOf l) (upd left y false) := by rw [← HN.out, hfv, upd_self hgy]
        rw [hfe] at q4
        have HS4 := hide (show RSt w w1.heap.size ((w3.alloc (.cells #[.int .i64 y.1, .int .i64 y.2.1, .int .i64 y.2.2] 60)).alloc (.cells #[.int .i64 v.t, .int .i64 v.m, .int .i64 v.p, .int .i64 v.a, .bool true] 30)) p bm aq cq l (flushE p0) (upd left y false) cnt3 from ⟨q4, q1, q2, q3⟩)
        clear q1 q2 q3 q4 kk ke hrg3 st3 hfe b4
        go_wp2
        go_roundw
        case rel => exact ⟨_, _, HS4.out⟩
        case measure => rw [HS4.out.rg.left_eq, HLE.out]; exact hlt3

end Go.Proofs.Ytmcikcpkggonfaa
