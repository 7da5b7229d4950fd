/-
  An entry is put into the program's table.
-/
import Derived.Test.YtmcikcpkggonfaaFdbPutM
import Derived.Test.YtmcikcpkggonfaaFdbInsert
import Derived.Test.YtmcikcpkggonfaaFdbImplR
namespace Go.Proofs.Ytmcikcpkggonfaa
open Go.RowKit

theorem map_kind {P : Program} {α β : Type} {M : MK P α β} {w : World} {b n : Nat} {g : α → Option β} (h : MapIs M w b n g) : ∀ cs T, w.heap[b]? ≠ some (.cells cs T) := by
  obtain ⟨es, clock, hb, -⟩ := h
  intro cs T e
  rw [hb] at e
  cases e

/-- A row of one type lies in no block of another. -/
theorem own_type {w : World} {base k : Nat} {e : TypeId} {v : Value} {n : Nat} {xs : List Value} (h : w.ownsRow base e k v n xs) {p : Nat} {cs : Array Value} {T : TypeId} (hp : w.heap[p]? = some (.cells cs T)) (hT : e ≠ T) : ∀ i, v.ownBlock = some i → i ≠ p := by
  intro i hi e1
  subst e1
  rcases h.2 with ⟨rfl, _⟩ | ⟨g, cap, cur, rfl, _, hh, _⟩
  · cases hi
  · cases hi
    rw [hh] at hp
    cases hp
    exact hT rfl

theorem own_map {P : Program} {α β : Type} {M : MK P α β} {w : World} {b N : Nat} {g : α → Option β} {base k : Nat} {e : TypeId} {v : Value} {n : Nat} {xs : List Value} (h : w.ownsRow base e k v n xs) (hm : MapIs M w b N g) : ¬ v.ownBlock = some b := by
  intro hi
  rcases h.2 with ⟨rfl, _⟩ | ⟨q, cap, cur, rfl, _, hh, _⟩
  · cases hi
  · cases hi
    exact map_kind hm _ _ hh

set_option maxRecDepth 100000 in
set_option maxHeartbeats 16000000 in
theorem put_any (w : World) (base p bm : Nat) (l : List FE) (e : FE) (h : Tab w base p bm (keysOf l) (entsOf l)) (hs : Sorted l) (h12 : l.length ≤ 12) (he : e.Rng) (hbase : base ≤ w.heap.size) :
    Calls Try.prog 43 #[.pointer (some ⟨p, 0, none⟩), .agg #[.int .i64 e.t, .int .i64 e.m, .int .i64 e.p, .int .i64 e.a, .bool e.s]] w fun r w' => ∃ ok ks' g', r = .returned (.bool ok) ∧ ok = ((lookE l e.t e.m).isSome || decide (l.length < 12)) ∧ TabN 16777217 w' base p bm ks' g' ∧ ks'.filterMap g' = (if ok = true then insF e l else l) ∧ Below base w w' := by
  obtain ⟨aq, cq, hbox, hown⟩ := h.box
  have hmap := h.map
  have hlp := h.lp
  have hlb := h.lb
  have hoks := h.oks
  have HLEN := hide (keys_length l)
  have hn12 : (keysOf l).length ≤ 12 := by rw [HLEN.out]; exact h12
  have howlt := hown.lt
  have hpw : p < w.heap.size := (Array.getElem?_eq_some_iff.1 hbox).1
  have hok0 : FKok (key0 e) := ⟨he.1, he.2.1, by show _ ∧ _; unfold key0; simp⟩
  have HM := hide (rise_mono hs e)
  clear h
  go_enter Try.func43, Try.ntmps43
  go_wp2_with fail
  refine (firstKey_any e _).mono ?_
  rintro r w1 ⟨rfl, hb1⟩
  have v1 := gr_trans (below_one w (.cells #[.int .i64 e.t, .int .i64 e.m, .int .i64 e.p, .int .i64 e.a, .bool e.s] 30)) hb1
  have ke1 := kept_block (block_last w (.cells #[.int .i64 e.t, .int .i64 e.m, .int .i64 e.p, .int .i64 e.a, .bool e.s] 30)) hb1
  have s1 := hb1.size
  have s1 : w.heap.size + 1 ≤ w1.heap.size := by simpa using s1
  have v2 := gr_trans v1 (below_one w1 (.cells #[.int .i64 e.t, .int .i64 e.m, .int .i64 0] 60))
  have ke2 := kept_block ke1 (below_one w1 (.cells #[.int .i64 e.t, .int .i64 e.m, .int .i64 0] 60))
  have kk2 := block_last w1 (.cells #[.int .i64 e.t, .int .i64 e.m, .int .i64 0] 60)
  have p2 := kept_block hbox v2
  have o2 := gown_below hown v2
  have m2 := hmap.kept v2
  have s2 : w1.heap.size + 1 ≤ (w1.alloc (.cells #[.int .i64 e.t, .int .i64 e.m, .int .i64 0] 60)).heap.size := by simp
  have be2 : Below base w (w1.alloc (.cells #[.int .i64 e.t, .int .i64 e.m, .int .i64 0] 60)) := v2.mono hbase
  clear hbox hown hmap ke1 hb1 v1
  go_wp2_with fail
  generalize hwb : w1.alloc (.cells #[.int .i64 e.t, .int .i64 e.m, .int .i64 0] 60) = wb at *
  clear hwb
  have hrow := grow_own (F := fkF) o2
  have hS : ∀ W, Below wb.heap.size wb W → (W.cell? ⟨p, 0, none⟩ = some (.slice aq (keysOf l).length cq) ∧ (W.cell? ⟨w1.heap.size, 0, none⟩ = some (.int .i64 e.t) ∧ W.cell? ⟨w1.heap.size, 1, none⟩ = some (.int .i64 e.m) ∧ W.cell? ⟨w1.heap.size, 2, none⟩ = some (.int .i64 0))) := fun W hW => ⟨(cells2 (kept_block p2 hW)).1.1, (cells3 (kept_block kk2 hW)).1⟩
  have HSS := hide hS
  have vv : Below wb.heap.size wb wb.drew := gr_drew (Below.refl _ _)
  clear hS
  refine wp_region_held_drew (S := (fun W => W.cell? ⟨p, 0, none⟩ = some (.slice aq (keysOf l).length cq) ∧ (W.cell? ⟨w1.heap.size, 0, none⟩ = some (.int .i64 e.t) ∧ W.cell? ⟨w1.heap.size, 1, none⟩ = some (.int .i64 e.m) ∧ W.cell? ⟨w1.heap.size, 2, none⟩ = some (.int .i64 0)))) (by kernel_rfl) (HSS.out _ vv) (fun hHeld => ?_)
  refine wpAnyH_take (i := 0) (oi := { dst := some 11, op := Op.move (Operand.tmp 0), type := 53, pos := "l08_fdb.go:159", after := #[], guard := none }) (v := ?_) rfl (by kernel_rfl) (by kernel_rfl) (by kernel_rfl) (fun _ _ _ h => h) (Or.inl ⟨by rfl, ?_⟩) (by assumption) ?_
  rotate_left
  · (intro wY hSw; (try dsimp only at hSw); go_simp; try with_reducible rfl)
  simp only [Act.put, List.setIfInBounds_toArray, List.set_cons_zero, List.set_cons_succ]
  refine wpAnyH_take (i := 1) (oi := { dst := some 12, op := Op.nilCheck (Operand.tmp 11), type := 0, pos := "l08_fdb.go:159", after := #[{ on := 0, ground := Ground.data }], guard := none }) (v := ?_) rfl (by kernel_rfl) (by kernel_rfl) (by kernel_rfl) (fun _ _ _ h => h) (Or.inl ⟨by rfl, ?_⟩) (by assumption) ?_
  rotate_left
  · (intro wY hSw; (try dsimp only at hSw); go_simp; try with_reducible rfl)
  simp only [Act.put, List.setIfInBounds_toArray, List.set_cons_zero, List.set_cons_succ]
  refine wpAnyH_take (i := 2) (oi := { dst := some 13, op := Op.fieldAddr 58 (Operand.tmp 12) 0, type := 0, pos := "l08_fdb.go:159", after := #[{ on := 1, ground := Ground.data }], guard := none }) (v := ?_) rfl (by kernel_rfl) (by kernel_rfl) (by kernel_rfl) (fun _ _ _ h => h) (Or.inl ⟨by rfl, ?_⟩) (by assumption) ?_
  rotate_left
  · (intro wY hSw; (try dsimp only at hSw); go_simp; try with_reducible rfl)
  simp only [Act.put, List.setIfInBounds_toArray, List.set_cons_zero, List.set_cons_succ]
  refine wpAnyH_take (i := 3) (oi := { dst := some 14, op := Op.load 55 (Operand.tmp 13), type := 55, pos := "l08_fdb.go:159", after := #[{ on := 2, ground := Ground.data }], guard := none }) (v := ?_) rfl (by kernel_rfl) (by kernel_rfl) (by kernel_rfl) (fun _ _ _ h => h) (Or.inl ⟨by rfl, ?_⟩) (by assumption) ?_
  rotate_left
  · (intro wY hSw; (try dsimp only at hSw); go_simp; try with_reducible rfl)
  simp only [Act.put, List.setIfInBounds_toArray, List.set_cons_zero, List.set_cons_succ]
  refine wpAnyH_take (i := 4) (oi := { dst := some 15, op := Op.load 60 (Operand.tmp 5), type := 60, pos := "l08_fdb.go:159", after := #[], guard := none }) (v := ?_) rfl (by kernel_rfl) (by kernel_rfl) (by kernel_rfl) (fun _ _ _ h => h) (Or.inl ⟨by rfl, ?_⟩) (by assumption) ?_
  rotate_left
  · (intro wY hSw; (try dsimp only at hSw); go_simp; try with_reducible rfl)
  simp only [Act.put, List.setIfInBounds_toArray, List.set_cons_zero, List.set_cons_succ]
  refine wpAnyH_ready (rs := [5]) (by kernel_rfl) (by simp) ?_
  refine AllReadyH.cons (o := { dst := some 16, op := Op.call { callee := Callee.value (Operand.func 60), args := #[Operand.tmp 14, Operand.tmp 15, Operand.func 61], argTypes := #[55, 60, 77] }, type := 75, pos := "l08_fdb.go:159", after := #[{ on := 3, ground := Ground.data }, { on := 4, ground := Ground.data }], guard := none }) rfl (fun K hK => ?_) ?_
  · go_simp
    refine (search_any aq _ cq (keysOf l) (key0 e) _ (hrow.below vv) (by omega) HM.out).mono ?_
    rintro r w2 ⟨pos, there, rfl, HFD, hb2⟩
    have vv := gr_trans vv hb2
    go_wp2_with fail
    refine hK.out _ _ (HSS.out _ vv) (fun hHeld => ?_)
    clear hK K
    try simp only [Act.put, List.setIfInBounds_toArray, List.set_cons_zero, List.set_cons_succ]
    refine wpAnyH_take (i := 6) (oi := { dst := some 10, op := Op.move (Operand.tmp 16), type := 75, pos := "l08_fdb.go:159", after := #[{ on := 5, ground := Ground.data }], guard := none }) (v := ?_) rfl (by kernel_rfl) (by kernel_rfl) (by kernel_rfl) (fun _ _ _ h => h) (Or.inl ⟨by rfl, ?_⟩) (by assumption) ?_
    rotate_left
    · (intro wY hSw; (try dsimp only at hSw); go_simp; try with_reducible rfl)
    simp only [Act.put, List.setIfInBounds_toArray, List.set_cons_zero, List.set_cons_succ]
    refine wpAnyH_take (i := 7) (oi := { dst := some 17, op := Op.extract (Operand.tmp 10) 0, type := 3, pos := "l08_fdb.go:159", after := #[{ on := 6, ground := Ground.data }], guard := none }) (v := ?_) rfl (by kernel_rfl) (by kernel_rfl) (by kernel_rfl) (fun _ _ _ h => h) (Or.inl ⟨by rfl, ?_⟩) (by assumption) ?_
    rotate_left
    · (intro wY hSw; (try dsimp only at hSw); go_simp; try with_reducible rfl)
    simp only [Act.put, List.setIfInBounds_toArray, List.set_cons_zero, List.set_cons_succ]
    refine wpAnyH_take (i := 8) (oi := { dst := some 18, op := Op.extract (Operand.tmp 10) 1, type := 4, pos := "l08_fdb.go:159", after := #[{ on := 6, ground := Ground.data }, { on := 9, ground := Ground.gcOnly Departure.lateStores }], guard := none }) (v := ?_) rfl (by kernel_rfl) (by kernel_rfl) (by kernel_rfl) (fun _ _ _ h => h) (Or.inl ⟨by rfl, ?_⟩) (by assumption) ?_
    rotate_left
    · (intro wY hSw; (try dsimp only at hSw); go_simp; try with_reducible rfl)
    simp only [Act.put, List.setIfInBounds_toArray, List.set_cons_zero, List.set_cons_succ]
    refine wpAnyH_take (i := 9) (oi := { dst := some 6, op := Op.assign (Operand.tmp 17), type := 3, pos := "l08_fdb.go:159", after := #[{ on := 7, ground := Ground.data }, { on := 5, ground := Ground.chain }, { on := 0, ground := Ground.phase }, { on := 1, ground := Ground.phase }, { on := 2, ground := Ground.phase }, { on := 3, ground := Ground.phase }, { on := 4, ground := Ground.phase }, { on := 5, ground := Ground.phase }, { on := 6, ground := Ground.phase }, { on := 7, ground := Ground.phase }, { on := 8, ground := Ground.textOnly Departure.lateStores }], guard := none }) (v := ?_) rfl (by kernel_rfl) (by kernel_rfl) (by kernel_rfl) (fun _ _ _ h => h) (Or.inl ⟨by rfl, ?_⟩) (by assumption) ?_
    rotate_left
    · (intro wY hSw; (try dsimp only at hSw); go_simp; try with_reducible rfl)
    simp only [Act.put, List.setIfInBounds_toArray, List.set_cons_zero, List.set_cons_succ]
    refine wpAnyH_take (i := 10) (oi := { dst := some 7, op := Op.assign (Operand.tmp 18), type := 4, pos := "l08_fdb.go:159", after := #[{ on := 8, ground := Ground.data }, { on := 9, ground := Ground.chain }, { on := 0, ground := Ground.phase }, { on := 1, ground := Ground.phase }, { on := 2, ground := Ground.phase }, { on := 3, ground := Ground.phase }, { on := 4, ground := Ground.phase }, { on := 5, ground := Ground.phase }, { on := 6, ground := Ground.phase }, { on := 7, ground := Ground.phase }, { on := 8, ground := Ground.phase }, { on := 9, ground := Ground.phase }], guard := none }) (v := ?_) rfl (by kernel_rfl) (by kernel_rfl) (by kernel_rfl) (fun _ _ _ h => h) (Or.inl ⟨by rfl, ?_⟩) (by assumption) ?_
    rotate_left
    · (intro wY hSw; (try dsimp only at hSw); go_simp; try with_reducible rfl)
    simp only [Act.put, List.setIfInBounds_toArray, List.set_cons_zero, List.set_cons_succ]
    refine wpAnyH_done (by kernel_rfl) ?_ _
    clear HSS hHeld
    have p2 := kept_block p2 vv
    have o2 := gown_below o2 vv
    have m2 := m2.kept vv
    have ke2 := kept_block ke2 vv
    have kk2 := kept_block kk2 vv
    have be2 := be2.trans (vv.mono (Nat.le_trans hbase v2.size))
    have s2 := Nat.le_trans s2 vv.size
    have hbase2 : base ≤ w2.heap.size := by omega
    obtain ⟨hpos, hth, hyes, hnot⟩ := found_says hs HFD
    have hpos : pos ≤ (keysOf l).length := by rw [HLEN.out]; exact hpos
    clear vv hb2 hrow HM HFD v2
    cases there with
    | true =>
      obtain ⟨x, hx, hkx, hins⟩ := hyes rfl
      have HOK : Hid (true = ((lookE l e.t e.m).isSome || decide (l.length < 12))) := by rw [hth]; rfl
      have HOUT : Hid ((keysOf l).filterMap (upd (entsOf l) (key0 e) (some e)) = (if true = true then insF e l else l)) := by rw [if_pos rfl, hins]; exact out_set hkx
      have hoks7 := hoks
      have p7 := p2
      have o7 := o2
      have m7 := m2
      have kk7 := kk2
      have ke7 := ke2
      have be7 := be2
      have hbase7 := hbase2
      clear hyes hnot hth hx hkx hins p2 o2 m2 kk2 ke2 be2
      go_wp2_with fail
      obtain ⟨w8, hr8, m8, g8, -⟩ := (MapIs.block (w' := w2.drew) m7 rfl).store (by unfold maxLen; omega) hok0 e
      have hr8 : (Instr.mapUpdate 56 (.map (some bm)) (.agg #[.int .i64 e.t, .int .i64 e.m, .int .i64 0]) (.agg #[.int .i64 e.t, .int .i64 e.m, .int .i64 e.p, .int .i64 e.a, .bool e.s])).run Try.prog w2.drew = .ok () w8 := hr8
      have g8 : w2.grownBy w8 (some bm) := ⟨g8.os, g8.tape, g8.output, g8.size, g8.block⟩
      have hk7 : ∀ cs T, w2.heap[bm]? ≠ some (.cells cs T) := map_kind m7
      have n8 := ne_cells hk7 p7
      have m8k := ne_cells hk7 kk7
      have m8e := ne_cells hk7 ke7
      have p8 := kept_grown p7 g8 (fun i hi => by cases hi; exact n8)
      have kk8 := kept_grown kk7 g8 (fun i hi => by cases hi; exact m8k)
      have ke8 := kept_grown ke7 g8 (fun i hi => by cases hi; exact m8e)
      have HT : Hid (TabN 16777217 w8 base p bm (keysOf l) (upd (entsOf l) (key0 e) (some e))) := ⟨⟨aq, cq, p8, own_kind o7 g8 hk7⟩, m8, hlp, hlb, hoks7, by omega⟩
      have HB := hide (be7.grown g8 hbase7 (fun i hi => by cases hi; exact hlb))
      have hS0 : w2.drew.cell? ⟨p, 1, none⟩ = some (.map (some bm)) ∧ _ ∧ _ := ⟨(cells2 (w := w2.drew) p7).1.2, (cells3 (w := w2.drew) kk7).1, (cells5 (w := w2.drew) ke7).1⟩
      have hS1 : w8.cell? ⟨p, 1, none⟩ = some (.map (some bm)) ∧ _ ∧ _ := ⟨(cells2 p8).1.2, (cells3 kk8).1, (cells5 ke8).1⟩
      clear p7 o7 m7 kk7 ke7 be7 p8 kk8 ke8 n8 m8k m8e hk7 m8 g8
      refine wp_region_held_drew (S := (fun W => W.cell? ⟨p, 1, none⟩ = some (.map (some bm)) ∧ (W.cell? ⟨w1.heap.size, 0, none⟩ = some (.int .i64 e.t) ∧ W.cell? ⟨w1.heap.size, 1, none⟩ = some (.int .i64 e.m) ∧ W.cell? ⟨w1.heap.size, 2, none⟩ = some (.int .i64 0)) ∧ (W.cell? ⟨w.heap.size, 0, none⟩ = some (.int .i64 e.t) ∧ W.cell? ⟨w.heap.size, 1, none⟩ = some (.int .i64 e.m) ∧ W.cell? ⟨w.heap.size, 2, none⟩ = some (.int .i64 e.p) ∧ W.cell? ⟨w.heap.size, 3, none⟩ = some (.int .i64 e.a) ∧ W.cell? ⟨w.heap.size, 4, none⟩ = some (.bool e.s)))) (by kernel_rfl) (by first | exact hS0 | exact hS1) (fun hHeld => ?_)
      refine wpAnyH_take (i := 0) (oi := { dst := some 38, op := Op.move (Operand.tmp 0), type := 53, pos := "l08_fdb.go:166", after := #[], guard := none }) (v := ?_) rfl (by kernel_rfl) (by kernel_rfl) (by kernel_rfl) (fun _ _ _ h => h) (Or.inl ⟨by rfl, ?_⟩) (by assumption) ?_
      rotate_left
      · (intro wY hSw; (try dsimp only at hSw); go_simp; try with_reducible rfl)
      simp only [Act.put, List.setIfInBounds_toArray, List.set_cons_zero, List.set_cons_succ]
      refine wpAnyH_take (i := 1) (oi := { dst := some 39, op := Op.nilCheck (Operand.tmp 38), type := 0, pos := "l08_fdb.go:166", after := #[{ on := 0, ground := Ground.data }], guard := none }) (v := ?_) rfl (by kernel_rfl) (by kernel_rfl) (by kernel_rfl) (fun _ _ _ h => h) (Or.inl ⟨by rfl, ?_⟩) (by assumption) ?_
      rotate_left
      · (intro wY hSw; (try dsimp only at hSw); go_simp; try with_reducible rfl)
      simp only [Act.put, List.setIfInBounds_toArray, List.set_cons_zero, List.set_cons_succ]
      refine wpAnyH_take (i := 2) (oi := { dst := some 40, op := Op.fieldAddr 58 (Operand.tmp 39) 1, type := 0, pos := "l08_fdb.go:166", after := #[{ on := 1, ground := Ground.data }], guard := none }) (v := ?_) rfl (by kernel_rfl) (by kernel_rfl) (by kernel_rfl) (fun _ _ _ h => h) (Or.inl ⟨by rfl, ?_⟩) (by assumption) ?_
      rotate_left
      · (intro wY hSw; (try dsimp only at hSw); go_simp; try with_reducible rfl)
      simp only [Act.put, List.setIfInBounds_toArray, List.set_cons_zero, List.set_cons_succ]
      refine wpAnyH_take (i := 3) (oi := { dst := some 41, op := Op.load 56 (Operand.tmp 40), type := 56, pos := "l08_fdb.go:166", after := #[{ on := 2, ground := Ground.data }], guard := none }) (v := ?_) rfl (by kernel_rfl) (by kernel_rfl) (by kernel_rfl) (fun _ _ _ h => h) (Or.inl ⟨by rfl, ?_⟩) (by assumption) ?_
      rotate_left
      · (intro wY hSw; (try dsimp only at hSw); go_simp; try with_reducible rfl)
      simp only [Act.put, List.setIfInBounds_toArray, List.set_cons_zero, List.set_cons_succ]
      refine wpAnyH_take (i := 4) (oi := { dst := some 42, op := Op.load 60 (Operand.tmp 5), type := 60, pos := "l08_fdb.go:166", after := #[], guard := none }) (v := ?_) rfl (by kernel_rfl) (by kernel_rfl) (by kernel_rfl) (fun _ _ _ h => h) (Or.inl ⟨by rfl, ?_⟩) (by assumption) ?_
      rotate_left
      · (intro wY hSw; (try dsimp only at hSw); go_simp; try with_reducible rfl)
      simp only [Act.put, List.setIfInBounds_toArray, List.set_cons_zero, List.set_cons_succ]
      refine wpAnyH_take (i := 5) (oi := { dst := some 43, op := Op.load 30 (Operand.tmp 3), type := 30, pos := "l08_fdb.go:166", after := #[], guard := none }) (v := ?_) rfl (by kernel_rfl) (by kernel_rfl) (by kernel_rfl) (fun _ _ _ h => h) (Or.inl ⟨by rfl, ?_⟩) (by assumption) ?_
      rotate_left
      · (intro wY hSw; (try dsimp only at hSw); go_simp; try with_reducible rfl)
      simp only [Act.put, List.setIfInBounds_toArray, List.set_cons_zero, List.set_cons_succ]
      refine wpAnyH_ready (rs := [6]) (by kernel_rfl) (by simp) ?_
      refine AllReadyH.cons (o := { dst := none, op := Op.mapUpdate 56 (Operand.tmp 41) (Operand.tmp 42) (Operand.tmp 43), type := 0, pos := "l08_fdb.go:166", after := #[{ on := 3, ground := Ground.data }, { on := 4, ground := Ground.data }, { on := 5, ground := Ground.data }, { on := 0, ground := Ground.phase }, { on := 1, ground := Ground.phase }, { on := 2, ground := Ground.phase }, { on := 3, ground := Ground.phase }, { on := 4, ground := Ground.phase }, { on := 5, ground := Ground.phase }], guard := none }) rfl (fun K hK => ?_) ?_
      · go_simp
        refine hK.out _ _ (by first | exact hS0 | exact hS1) (fun hHeld => ?_)
        clear hK K
        try simp only [Act.put, List.setIfInBounds_toArray, List.set_cons_zero, List.set_cons_succ]
        refine wpAnyH_done (by kernel_rfl) ?_ _
        clear hS0 hS1 hr8 hHeld
        go_wp2
        go_ret
        exact ⟨true, _, _, rfl, HOK.out, HT.out, HOUT.out, HB.out⟩
      exact AllReadyH.nil
    | false =>
      obtain ⟨hnk, hins⟩ := hnot rfl
      obtain ⟨⟨pp0, pp1⟩, -⟩ := cells2 p2
      by_cases hf : l.length = 12
      · have HOK : Hid (false = ((lookE l e.t e.m).isSome || decide (l.length < 12))) := by rw [hth, decide_eq_false (show ¬ l.length < 12 by omega)]; rfl
        have HT : Hid (TabN 16777217 w2 base p bm (keysOf l) (entsOf l)) := ⟨⟨aq, cq, p2, o2⟩, m2.mono (by omega), hlp, hlb, hoks, by omega⟩
        have HB := hide be2
        have HOUT : Hid ((keysOf l).filterMap (entsOf l) = (if false = true then insF e l else l)) := by rw [if_neg Bool.false_ne_true]; exact out_all (ents_map l)
        have hf2 : (((keysOf l).length : Int) == 12) = true := by rw [HLEN.out, hf]; rfl
        clear hyes hnot hth hnk hins p2 o2 m2 kk2 ke2 be2
        go_wp2
        go_ret
        exact ⟨false, _, _, rfl, HOK.out, HT.out, HOUT.out, HB.out⟩
      · have hf2 : (((keysOf l).length : Int) == 12) = false := by rw [HLEN.out, beq_eq_false_iff_ne]; omega
        have HOK : Hid (true = ((lookE l e.t e.m).isSome || decide (l.length < 12))) := by rw [hth, decide_eq_true (show l.length < 12 by omega)]; rfl
        have HOUT : Hid (((keysOf l).take pos ++ key0 e :: (keysOf l).drop pos).filterMap (upd (entsOf l) (key0 e) (some e)) = (if true = true then insF e l else l)) := by rw [if_pos rfl, hins]; exact out_new hnk
        have hoks7 : ∀ k ∈ (keysOf l).take pos ++ key0 e :: (keysOf l).drop pos, FKok k := by
          intro k hk
          rcases List.mem_append.1 hk with hk | hk
          · exact hoks k (List.mem_of_mem_take hk)
          · rcases List.mem_cons.1 hk with rfl | hk
            · exact hok0
            · exact hoks k (List.mem_of_mem_drop hk)
        have HN7 : Hid (((keysOf l).take pos ++ key0 e :: (keysOf l).drop pos).length = (keysOf l).length + 1) := by show _ = _; simp; omega
        have b10 : Below w2.heap.size w2 ((w2.alloc (.cells #[.int .i64 e.t, .int .i64 e.m, .int .i64 0] 60)).drew) := gr_drew (below_one w2 (.cells #[.int .i64 e.t, .int .i64 e.m, .int .i64 0] 60))
        have own10 := gown_below o2 b10
        have hv10 : ((w2.alloc (.cells #[.int .i64 e.t, .int .i64 e.m, .int .i64 0] 60)).drew).heap[w2.heap.size]? = some (.cells #[.int .i64 e.t, .int .i64 e.m, .int .i64 0] 60) := block_last w2 (.cells #[.int .i64 e.t, .int .i64 e.m, .int .i64 0] 60)
        have hne10 : ∀ b, (Value.slice aq (keysOf l).length cq).ownBlock = some b → b ≠ w2.heap.size := fun b hb => by have := howlt b hb; omega
        have hbase10 : base ≤ ((w2.alloc (.cells #[.int .i64 e.t, .int .i64 e.m, .int .i64 0] 60)).drew).heap.size := Nat.le_trans hbase2 b10.size
        have p10 := kept_block p2 b10
        obtain ⟨⟨pd0, -⟩, -⟩ := cells2 (w := w2) p2
        obtain ⟨⟨pe0, -⟩, -⟩ := cells2 (w := w2.alloc (.cells #[.int .i64 e.t, .int .i64 e.m, .int .i64 0] 60)) p10
        have hS0 := (cells3 (w := w2.drew) kk2).1
        have hS1 := (cells3 (kept_block kk2 b10)).1
        clear hyes hnot hth hnk hins pp0 pp1 p10
        go_wp2_with fail
        refine wp_region_held_drew (S := (fun W => (W.cell? ⟨w1.heap.size, 0, none⟩ = some (.int .i64 e.t) ∧ W.cell? ⟨w1.heap.size, 1, none⟩ = some (.int .i64 e.m) ∧ W.cell? ⟨w1.heap.size, 2, none⟩ = some (.int .i64 0)))) (by kernel_rfl) (by first | exact hS0 | exact hS1 | exact hS2 | exact hS3) (fun hHeld => ?_)
        refine wpAnyH_take (i := 0) (oi := { dst := some 27, op := Op.move (Operand.tmp 0), type := 53, pos := "l08_fdb.go:164", after := #[], guard := none }) (v := ?_) rfl (by kernel_rfl) (by kernel_rfl) (by kernel_rfl) (fun _ _ _ h => h) (Or.inl ⟨by rfl, ?_⟩) (by assumption) ?_
        rotate_left
        · (intro wY hSw; (try dsimp only at hSw); go_simp; try with_reducible rfl)
        simp only [Act.put, List.setIfInBounds_toArray, List.set_cons_zero, List.set_cons_succ]
        refine wpAnyH_take (i := 1) (oi := { dst := some 28, op := Op.move (Operand.tmp 0), type := 53, pos := "l08_fdb.go:164", after := #[], guard := none }) (v := ?_) rfl (by kernel_rfl) (by kernel_rfl) (by kernel_rfl) (fun _ _ _ h => h) (Or.inl ⟨by rfl, ?_⟩) (by assumption) ?_
        rotate_left
        · (intro wY hSw; (try dsimp only at hSw); go_simp; try with_reducible rfl)
        simp only [Act.put, List.setIfInBounds_toArray, List.set_cons_zero, List.set_cons_succ]
        refine wpAnyH_take (i := 2) (oi := { dst := some 29, op := Op.nilCheck (Operand.tmp 28), type := 0, pos := "l08_fdb.go:164", after := #[{ on := 1, ground := Ground.data }], guard := none }) (v := ?_) rfl (by kernel_rfl) (by kernel_rfl) (by kernel_rfl) (fun _ _ _ h => h) (Or.inl ⟨by rfl, ?_⟩) (by assumption) ?_
        rotate_left
        · (intro wY hSw; (try dsimp only at hSw); go_simp; try with_reducible rfl)
        simp only [Act.put, List.setIfInBounds_toArray, List.set_cons_zero, List.set_cons_succ]
        refine wpAnyH_take (i := 3) (oi := { dst := some 30, op := Op.fieldAddr 58 (Operand.tmp 29) 0, type := 0, pos := "l08_fdb.go:164", after := #[{ on := 2, ground := Ground.data }], guard := none }) (v := ?_) rfl (by kernel_rfl) (by kernel_rfl) (by kernel_rfl) (fun _ _ _ h => h) (Or.inl ⟨by rfl, ?_⟩) (by assumption) ?_
        rotate_left
        · (intro wY hSw; (try dsimp only at hSw); go_simp; try with_reducible rfl)
        simp only [Act.put, List.setIfInBounds_toArray, List.set_cons_zero, List.set_cons_succ]
        refine wpAnyH_take (i := 5) (oi := { dst := some 32, op := Op.move (Operand.tmp 6), type := 3, pos := "l08_fdb.go:164", after := #[], guard := none }) (v := ?_) rfl (by kernel_rfl) (by kernel_rfl) (by kernel_rfl) (fun _ _ _ h => h) (Or.inl ⟨by rfl, ?_⟩) (by assumption) ?_
        rotate_left
        · (intro wY hSw; (try dsimp only at hSw); go_simp; try with_reducible rfl)
        simp only [Act.put, List.setIfInBounds_toArray, List.set_cons_zero, List.set_cons_succ]
        refine wpAnyH_take (i := 6) (oi := { dst := some 33, op := Op.load 60 (Operand.tmp 5), type := 60, pos := "l08_fdb.go:164", after := #[], guard := none }) (v := ?_) rfl (by kernel_rfl) (by kernel_rfl) (by kernel_rfl) (fun _ _ _ h => h) (Or.inl ⟨by rfl, ?_⟩) (by assumption) ?_
        rotate_left
        · (intro wY hSw; (try dsimp only at hSw); go_simp; try with_reducible rfl)
        simp only [Act.put, List.setIfInBounds_toArray, List.set_cons_zero, List.set_cons_succ]
        refine wpAnyH_ready (rs := [4, 7]) (by kernel_rfl) (by simp) ?_
        refine AllReadyH.cons (o := { dst := some 31, op := Op.load 55 (Operand.tmp 30), type := 55, pos := "l08_fdb.go:164", after := #[{ on := 3, ground := Ground.data }], guard := none }) rfl (fun K hK => ?_) ?_
        · go_simp
          refine hK.out _ _ (by first | exact hS0 | exact hS1 | exact hS2 | exact hS3) (fun hHeld => ?_)
          clear hK K
          try simp only [Act.put, List.setIfInBounds_toArray, List.set_cons_zero, List.set_cons_succ]
          refine wpAnyH_ready (rs := [7]) (by kernel_rfl) (by simp) ?_
          refine AllReadyH.cons (o := { dst := some 34, op := Op.buildSlice 55 1 #[(0, Operand.tmp 33)], type := 55, pos := "l08_fdb.go:164", after := #[{ on := 6, ground := Ground.data }], guard := none }) rfl (fun K hK => ?_) ?_
          · go_simp
            refine hK.out _ _ (by first | exact hS0 | exact hS1 | exact hS2 | exact hS3) (fun hHeld => ?_)
            clear hK K
            try simp only [Act.put, List.setIfInBounds_toArray, List.set_cons_zero, List.set_cons_succ]
            refine wpAnyH_ready (rs := [8]) (by kernel_rfl) (by simp) ?_
            refine AllReadyH.cons (o := { dst := some 35, op := Op.call { callee := Callee.value (Operand.func 62), args := #[Operand.tmp 31, Operand.tmp 32, Operand.tmp 34], argTypes := #[55, 3, 55] }, type := 55, pos := "l08_fdb.go:164", after := #[{ on := 4, ground := Ground.data }, { on := 5, ground := Ground.data }, { on := 7, ground := Ground.data }], guard := none }) rfl (fun K hK => ?_) ?_
            · go_simp
              refine (insert_any base aq (keysOf l).length cq (keysOf l) pos (key0 e) w2.heap.size _ own10 hv10 hne10 (by omega) hbase10 hpos).mono ?_
              rintro r w5 ⟨aq2, cq2, rfl, how5, hg5⟩
              have g5 : w2.grownBy w5 (Value.slice aq (keysOf l).length cq).ownBlock := grownTr (grownOf b10) hg5
              have p5 := kept_grown p2 g5 (fun i hi => own_type o2 p2 (by decide) i hi)
              have kk5 := kept_grown kk2 g5 (fun i hi => by have := howlt i hi; omega)
              have ke5 := kept_grown ke2 g5 (fun i hi => by have := howlt i hi; omega)
              have m5 := m2.grown g5 (fun e1 => own_map o2 m2 e1)
              have be5 := be2.grown g5 hbase2 (fun i hi => (howlt i hi).1)
              obtain ⟨⟨pf0, pf1⟩, pz0, pz1⟩ := cells2 p5
              have hS2 := (cells3 kk5).1
              have g6 := grown_set (w := w5) (rb := p) 0 (.slice aq2 ((keysOf l).length + 1) cq2)
              have kk6 := kept_grown kk5 g6 (fun i hi => by cases hi; omega)
              have hS3 := (cells3 kk6).1
              go_wp2_with fail
              refine hK.out _ _ (by first | exact hS0 | exact hS1 | exact hS2 | exact hS3) (fun hHeld => ?_)
              clear hK K
              try simp only [Act.put, List.setIfInBounds_toArray, List.set_cons_zero, List.set_cons_succ]
              refine wpAnyH_take (i := 9) (oi := { dst := some 36, op := Op.nilCheck (Operand.tmp 27), type := 0, pos := "l08_fdb.go:164", after := #[{ on := 0, ground := Ground.data }, { on := 0, ground := Ground.phase }, { on := 1, ground := Ground.phase }, { on := 2, ground := Ground.phase }, { on := 3, ground := Ground.phase }, { on := 4, ground := Ground.phase }, { on := 5, ground := Ground.phase }, { on := 6, ground := Ground.phase }, { on := 7, ground := Ground.phase }, { on := 8, ground := Ground.phase }], guard := none }) (v := ?_) rfl (by kernel_rfl) (by kernel_rfl) (by kernel_rfl) (fun _ _ _ h => h) (Or.inl ⟨by rfl, ?_⟩) (by assumption) ?_
              rotate_left
              · (intro wY hSw; (try dsimp only at hSw); go_simp; try with_reducible rfl)
              simp only [Act.put, List.setIfInBounds_toArray, List.set_cons_zero, List.set_cons_succ]
              refine wpAnyH_take (i := 10) (oi := { dst := some 37, op := Op.fieldAddr 58 (Operand.tmp 36) 0, type := 0, pos := "l08_fdb.go:164", after := #[{ on := 9, ground := Ground.data }, { on := 0, ground := Ground.phase }, { on := 1, ground := Ground.phase }, { on := 2, ground := Ground.phase }, { on := 3, ground := Ground.phase }, { on := 4, ground := Ground.phase }, { on := 5, ground := Ground.phase }, { on := 6, ground := Ground.phase }, { on := 7, ground := Ground.phase }, { on := 8, ground := Ground.phase }], guard := none }) (v := ?_) rfl (by kernel_rfl) (by kernel_rfl) (by kernel_rfl) (fun _ _ _ h => h) (Or.inl ⟨by rfl, ?_⟩) (by assumption) ?_
              rotate_left
              · (intro wY hSw; (try dsimp only at hSw); go_simp; try with_reducible rfl)
              simp only [Act.put, List.setIfInBounds_toArray, List.set_cons_zero, List.set_cons_succ]
              refine wpAnyH_ready (rs := [11]) (by kernel_rfl) (by simp) ?_
              refine AllReadyH.cons (o := { dst := none, op := Op.store 55 (Operand.tmp 37) (Operand.tmp 35), type := 0, pos := "l08_fdb.go:164", after := #[{ on := 10, ground := Ground.data }, { on := 8, ground := Ground.data }, { on := 8, ground := Ground.chain }, { on := 0, ground := Ground.phase }, { on := 1, ground := Ground.phase }, { on := 2, ground := Ground.phase }, { on := 3, ground := Ground.phase }, { on := 4, ground := Ground.phase }, { on := 5, ground := Ground.phase }, { on := 6, ground := Ground.phase }, { on := 7, ground := Ground.phase }, { on := 8, ground := Ground.phase }], guard := none }) rfl (fun K hK => ?_) ?_
              · go_simp
                refine hK.out _ _ (by first | exact hS0 | exact hS1 | exact hS2 | exact hS3) (fun hHeld => ?_)
                clear hK K
                try simp only [Act.put, List.setIfInBounds_toArray, List.set_cons_zero, List.set_cons_succ]
                refine wpAnyH_done (by kernel_rfl) ?_ _
                have p7 : (w5.setCell ⟨p, 0, none⟩ (.slice aq2 ((keysOf l).length + 1) cq2)).heap[p]? = some (.cells #[.slice aq2 ((keysOf l).length + 1) cq2, .map (some bm)] 58) := set_box0 p5 _
                have o7 := gown_other how5 g6 (fun i hi => own_type how5 p5 (by decide) i hi)
                have ke7 := kept_grown ke5 g6 (fun i hi => by cases hi; omega)
                have m7 := m5.grown g6 (fun e1 => by have := Option.some.inj e1; exact ne_cells (map_kind m5) p5 this.symm)
                have be7 := be5.grown g6 (Nat.le_trans hbase2 g5.size) (fun i hi => by cases hi; exact hlp)
                have hbase7 : base ≤ (w5.setCell ⟨p, 0, none⟩ (.slice aq2 ((keysOf l).length + 1) cq2)).heap.size := Nat.le_trans (Nat.le_trans hbase2 g5.size) g6.size
                have kk7 := kk6
                clear hS0 hS1 hS2 hS3 pd0 pe0 hHeld own10 hv10 hne10 b10 p5 kk5 ke5 m5 be5 g5 hg5 g6 how5 p2 o2 kk2 ke2 m2 be2 pf0 pf1 pz0 pz1 kk6
                generalize hw6 : w5.setCell ⟨p, 0, none⟩ (.slice aq2 ((keysOf l).length + 1) cq2) = w6 at *
                clear hw6
                go_wp2_with fail
                obtain ⟨w8, hr8, m8, g8, -⟩ := (MapIs.block (w' := w6.drew) m7 rfl).store (by unfold maxLen; omega) hok0 e
                have hr8 : (Instr.mapUpdate 56 (.map (some bm)) (.agg #[.int .i64 e.t, .int .i64 e.m, .int .i64 0]) (.agg #[.int .i64 e.t, .int .i64 e.m, .int .i64 e.p, .int .i64 e.a, .bool e.s])).run Try.prog w6.drew = .ok () w8 := hr8
                have g8 : w6.grownBy w8 (some bm) := ⟨g8.os, g8.tape, g8.output, g8.size, g8.block⟩
                have hk7 : ∀ cs T, w6.heap[bm]? ≠ some (.cells cs T) := map_kind m7
                have n8 := ne_cells hk7 p7
                have m8k := ne_cells hk7 kk7
                have m8e := ne_cells hk7 ke7
                have p8 := kept_grown p7 g8 (fun i hi => by cases hi; exact n8)
                have kk8 := kept_grown kk7 g8 (fun i hi => by cases hi; exact m8k)
                have ke8 := kept_grown ke7 g8 (fun i hi => by cases hi; exact m8e)
                have HT : Hid (TabN 16777217 w8 base p bm ((keysOf l).take pos ++ key0 e :: (keysOf l).drop pos) (upd (entsOf l) (key0 e) (some e))) := ⟨⟨aq2, cq2, by rw [HN7.out]; exact p8, by rw [HN7.out]; exact own_kind o7 g8 hk7⟩, m8, hlp, hlb, hoks7, by rw [HN7.out]; omega⟩
                have HB := hide (be7.grown g8 hbase7 (fun i hi => by cases hi; exact hlb))
                have hS0 : w6.drew.cell? ⟨p, 1, none⟩ = some (.map (some bm)) ∧ _ ∧ _ := ⟨(cells2 (w := w6.drew) p7).1.2, (cells3 (w := w6.drew) kk7).1, (cells5 (w := w6.drew) ke7).1⟩
                have hS1 : w8.cell? ⟨p, 1, none⟩ = some (.map (some bm)) ∧ _ ∧ _ := ⟨(cells2 p8).1.2, (cells3 kk8).1, (cells5 ke8).1⟩
                clear p7 o7 m7 kk7 ke7 be7 p8 kk8 ke8 n8 m8k m8e hk7 m8 g8
                refine wp_region_held_drew (S := (fun W => W.cell? ⟨p, 1, none⟩ = some (.map (some bm)) ∧ (W.cell? ⟨w1.heap.size, 0, none⟩ = some (.int .i64 e.t) ∧ W.cell? ⟨w1.heap.size, 1, none⟩ = some (.int .i64 e.m) ∧ W.cell? ⟨w1.heap.size, 2, none⟩ = some (.int .i64 0)) ∧ (W.cell? ⟨w.heap.size, 0, none⟩ = some (.int .i64 e.t) ∧ W.cell? ⟨w.heap.size, 1, none⟩ = some (.int .i64 e.m) ∧ W.cell? ⟨w.heap.size, 2, none⟩ = some (.int .i64 e.p) ∧ W.cell? ⟨w.heap.size, 3, none⟩ = some (.int .i64 e.a) ∧ W.cell? ⟨w.heap.size, 4, none⟩ = some (.bool e.s)))) (by kernel_rfl) (by first | exact hS0 | exact hS1) (fun hHeld => ?_)
                refine wpAnyH_take (i := 0) (oi := { dst := some 38, op := Op.move (Operand.tmp 0), type := 53, pos := "l08_fdb.go:166", after := #[], guard := none }) (v := ?_) rfl (by kernel_rfl) (by kernel_rfl) (by kernel_rfl) (fun _ _ _ h => h) (Or.inl ⟨by rfl, ?_⟩) (by assumption) ?_
                rotate_left
                · (intro wY hSw; (try dsimp only at hSw); go_simp; try with_reducible rfl)
                simp only [Act.put, List.setIfInBounds_toArray, List.set_cons_zero, List.set_cons_succ]
                refine wpAnyH_take (i := 1) (oi := { dst := some 39, op := Op.nilCheck (Operand.tmp 38), type := 0, pos := "l08_fdb.go:166", after := #[{ on := 0, ground := Ground.data }], guard := none }) (v := ?_) rfl (by kernel_rfl) (by kernel_rfl) (by kernel_rfl) (fun _ _ _ h => h) (Or.inl ⟨by rfl, ?_⟩) (by assumption) ?_
                rotate_left
                · (intro wY hSw; (try dsimp only at hSw); go_simp; try with_reducible rfl)
                simp only [Act.put, List.setIfInBounds_toArray, List.set_cons_zero, List.set_cons_succ]
                refine wpAnyH_take (i := 2) (oi := { dst := some 40, op := Op.fieldAddr 58 (Operand.tmp 39) 1, type := 0, pos := "l08_fdb.go:166", after := #[{ on := 1, ground := Ground.data }], guard := none }) (v := ?_) rfl (by kernel_rfl) (by kernel_rfl) (by kernel_rfl) (fun _ _ _ h => h) (Or.inl ⟨by rfl, ?_⟩) (by assumption) ?_
                rotate_left
                · (intro wY hSw; (try dsimp only at hSw); go_simp; try with_reducible rfl)
                simp only [Act.put, List.setIfInBounds_toArray, List.set_cons_zero, List.set_cons_succ]
                refine wpAnyH_take (i := 3) (oi := { dst := some 41, op := Op.load 56 (Operand.tmp 40), type := 56, pos := "l08_fdb.go:166", after := #[{ on := 2, ground := Ground.data }], guard := none }) (v := ?_) rfl (by kernel_rfl) (by kernel_rfl) (by kernel_rfl) (fun _ _ _ h => h) (Or.inl ⟨by rfl, ?_⟩) (by assumption) ?_
                rotate_left
                · (intro wY hSw; (try dsimp only at hSw); go_simp; try with_reducible rfl)
                simp only [Act.put, List.setIfInBounds_toArray, List.set_cons_zero, List.set_cons_succ]
                refine wpAnyH_take (i := 4) (oi := { dst := some 42, op := Op.load 60 (Operand.tmp 5), type := 60, pos := "l08_fdb.go:166", after := #[], guard := none }) (v := ?_) rfl (by kernel_rfl) (by kernel_rfl) (by kernel_rfl) (fun _ _ _ h => h) (Or.inl ⟨by rfl, ?_⟩) (by assumption) ?_
                rotate_left
                · (intro wY hSw; (try dsimp only at hSw); go_simp; try with_reducible rfl)
                simp only [Act.put, List.setIfInBounds_toArray, List.set_cons_zero, List.set_cons_succ]
                refine wpAnyH_take (i := 5) (oi := { dst := some 43, op := Op.load 30 (Operand.tmp 3), type := 30, pos := "l08_fdb.go:166", after := #[], guard := none }) (v := ?_) rfl (by kernel_rfl) (by kernel_rfl) (by kernel_rfl) (fun _ _ _ h => h) (Or.inl ⟨by rfl, ?_⟩) (by assumption) ?_
                rotate_left
                · (intro wY hSw; (try dsimp only at hSw); go_simp; try with_reducible rfl)
                simp only [Act.put, List.setIfInBounds_toArray, List.set_cons_zero, List.set_cons_succ]
                refine wpAnyH_ready (rs := [6]) (by kernel_rfl) (by simp) ?_
                refine AllReadyH.cons (o := { dst := none, op := Op.mapUpdate 56 (Operand.tmp 41) (Operand.tmp 42) (Operand.tmp 43), type := 0, pos := "l08_fdb.go:166", after := #[{ on := 3, ground := Ground.data }, { on := 4, ground := Ground.data }, { on := 5, ground := Ground.data }, { on := 0, ground := Ground.phase }, { on := 1, ground := Ground.phase }, { on := 2, ground := Ground.phase }, { on := 3, ground := Ground.phase }, { on := 4, ground := Ground.phase }, { on := 5, ground := Ground.phase }], guard := none }) rfl (fun K hK => ?_) ?_
                · go_simp
                  refine hK.out _ _ (by first | exact hS0 | exact hS1) (fun hHeld => ?_)
                  clear hK K
                  try simp only [Act.put, List.setIfInBounds_toArray, List.set_cons_zero, List.set_cons_succ]
                  refine wpAnyH_done (by kernel_rfl) ?_ _
                  clear hS0 hS1 hr8 hHeld
                  go_wp2
                  go_ret
                  exact ⟨true, _, _, rfl, HOK.out, HT.out, HOUT.out, HB.out⟩
                exact AllReadyH.nil
              exact AllReadyH.nil
            exact AllReadyH.nil
          exact AllReadyH.nil
        refine AllReadyH.cons (o := { dst := some 34, op := Op.buildSlice 55 1 #[(0, Operand.tmp 33)], type := 55, pos := "l08_fdb.go:164", after := #[{ on := 6, ground := Ground.data }], guard := none }) rfl (fun K hK => ?_) ?_
        · go_simp
          refine hK.out _ _ (by first | exact hS0 | exact hS1 | exact hS2 | exact hS3) (fun hHeld => ?_)
          clear hK K
          try simp only [Act.put, List.setIfInBounds_toArray, List.set_cons_zero, List.set_cons_succ]
          refine wpAnyH_ready (rs := [4]) (by kernel_rfl) (by simp) ?_
          refine AllReadyH.cons (o := { dst := some 31, op := Op.load 55 (Operand.tmp 30), type := 55, pos := "l08_fdb.go:164", after := #[{ on := 3, ground := Ground.data }], guard := none }) rfl (fun K hK => ?_) ?_
          · go_simp
            refine hK.out _ _ (by first | exact hS0 | exact hS1 | exact hS2 | exact hS3) (fun hHeld => ?_)
            clear hK K
            try simp only [Act.put, List.setIfInBounds_toArray, List.set_cons_zero, List.set_cons_succ]
            refine wpAnyH_ready (rs := [8]) (by kernel_rfl) (by simp) ?_
            refine AllReadyH.cons (o := { dst := some 35, op := Op.call { callee := Callee.value (Operand.func 62), args := #[Operand.tmp 31, Operand.tmp 32, Operand.tmp 34], argTypes := #[55, 3, 55] }, type := 55, pos := "l08_fdb.go:164", after := #[{ on := 4, ground := Ground.data }, { on := 5, ground := Ground.data }, { on := 7, ground := Ground.data }], guard := none }) rfl (fun K hK => ?_) ?_
            · go_simp
              refine (insert_any base aq (keysOf l).length cq (keysOf l) pos (key0 e) w2.heap.size _ own10 hv10 hne10 (by omega) hbase10 hpos).mono ?_
              rintro r w5 ⟨aq2, cq2, rfl, how5, hg5⟩
              have g5 : w2.grownBy w5 (Value.slice aq (keysOf l).length cq).ownBlock := grownTr (grownOf b10) hg5
              have p5 := kept_grown p2 g5 (fun i hi => own_type o2 p2 (by decide) i hi)
              have kk5 := kept_grown kk2 g5 (fun i hi => by have := howlt i hi; omega)
              have ke5 := kept_grown ke2 g5 (fun i hi => by have := howlt i hi; omega)
              have m5 := m2.grown g5 (fun e1 => own_map o2 m2 e1)
              have be5 := be2.grown g5 hbase2 (fun i hi => (howlt i hi).1)
              obtain ⟨⟨pf0, pf1⟩, pz0, pz1⟩ := cells2 p5
              have hS2 := (cells3 kk5).1
              have g6 := grown_set (w := w5) (rb := p) 0 (.slice aq2 ((keysOf l).length + 1) cq2)
              have kk6 := kept_grown kk5 g6 (fun i hi => by cases hi; omega)
              have hS3 := (cells3 kk6).1
              go_wp2_with fail
              refine hK.out _ _ (by first | exact hS0 | exact hS1 | exact hS2 | exact hS3) (fun hHeld => ?_)
              clear hK K
              try simp only [Act.put, List.setIfInBounds_toArray, List.set_cons_zero, List.set_cons_succ]
              refine wpAnyH_take (i := 9) (oi := { dst := some 36, op := Op.nilCheck (Operand.tmp 27), type := 0, pos := "l08_fdb.go:164", after := #[{ on := 0, ground := Ground.data }, { on := 0, ground := Ground.phase }, { on := 1, ground := Ground.phase }, { on := 2, ground := Ground.phase }, { on := 3, ground := Ground.phase }, { on := 4, ground := Ground.phase }, { on := 5, ground := Ground.phase }, { on := 6, ground := Ground.phase }, { on := 7, ground := Ground.phase }, { on := 8, ground := Ground.phase }], guard := none }) (v := ?_) rfl (by kernel_rfl) (by kernel_rfl) (by kernel_rfl) (fun _ _ _ h => h) (Or.inl ⟨by rfl, ?_⟩) (by assumption) ?_
              rotate_left
              · (intro wY hSw; (try dsimp only at hSw); go_simp; try with_reducible rfl)
              simp only [Act.put, List.setIfInBounds_toArray, List.set_cons_zero, List.set_cons_succ]
              refine wpAnyH_take (i := 10) (oi := { dst := some 37, op := Op.fieldAddr 58 (Operand.tmp 36) 0, type := 0, pos := "l08_fdb.go:164", after := #[{ on := 9, ground := Ground.data }, { on := 0, ground := Ground.phase }, { on := 1, ground := Ground.phase }, { on := 2, ground := Ground.phase }, { on := 3, ground := Ground.phase }, { on := 4, ground := Ground.phase }, { on := 5, ground := Ground.phase }, { on := 6, ground := Ground.phase }, { on := 7, ground := Ground.phase }, { on := 8, ground := Ground.phase }], guard := none }) (v := ?_) rfl (by kernel_rfl) (by kernel_rfl) (by kernel_rfl) (fun _ _ _ h => h) (Or.inl ⟨by rfl, ?_⟩) (by assumption) ?_
              rotate_left
              · (intro wY hSw; (try dsimp only at hSw); go_simp; try with_reducible rfl)
              simp only [Act.put, List.setIfInBounds_toArray, List.set_cons_zero, List.set_cons_succ]
              refine wpAnyH_ready (rs := [11]) (by kernel_rfl) (by simp) ?_
              refine AllReadyH.cons (o := { dst := none, op := Op.store 55 (Operand.tmp 37) (Operand.tmp 35), type := 0, pos := "l08_fdb.go:164", after := #[{ on := 10, ground := Ground.data }, { on := 8, ground := Ground.data }, { on := 8, ground := Ground.chain }, { on := 0, ground := Ground.phase }, { on := 1, ground := Ground.phase }, { on := 2, ground := Ground.phase }, { on := 3, ground := Ground.phase }, { on := 4, ground := Ground.phase }, { on := 5, ground := Ground.phase }, { on := 6, ground := Ground.phase }, { on := 7, ground := Ground.phase }, { on := 8, ground := Ground.phase }], guard := none }) rfl (fun K hK => ?_) ?_
              · go_simp
                refine hK.out _ _ (by first | exact hS0 | exact hS1 | exact hS2 | exact hS3) (fun hHeld => ?_)
                clear hK K
                try simp only [Act.put, List.setIfInBounds_toArray, List.set_cons_zero, List.set_cons_succ]
                refine wpAnyH_done (by kernel_rfl) ?_ _
                have p7 : (w5.setCell ⟨p, 0, none⟩ (.slice aq2 ((keysOf l).length + 1) cq2)).heap[p]? = some (.cells #[.slice aq2 ((keysOf l).length + 1) cq2, .map (some bm)] 58) := set_box0 p5 _
                have o7 := gown_other how5 g6 (fun i hi => own_type how5 p5 (by decide) i hi)
                have ke7 := kept_grown ke5 g6 (fun i hi => by cases hi; omega)
                have m7 := m5.grown g6 (fun e1 => by have := Option.some.inj e1; exact ne_cells (map_kind m5) p5 this.symm)
                have be7 := be5.grown g6 (Nat.le_trans hbase2 g5.size) (fun i hi => by cases hi; exact hlp)
                have hbase7 : base ≤ (w5.setCell ⟨p, 0, none⟩ (.slice aq2 ((keysOf l).length + 1) cq2)).heap.size := Nat.le_trans (Nat.le_trans hbase2 g5.size) g6.size
                have kk7 := kk6
                clear hS0 hS1 hS2 hS3 pd0 pe0 hHeld own10 hv10 hne10 b10 p5 kk5 ke5 m5 be5 g5 hg5 g6 how5 p2 o2 kk2 ke2 m2 be2 pf0 pf1 pz0 pz1 kk6
                generalize hw6 : w5.setCell ⟨p, 0, none⟩ (.slice aq2 ((keysOf l).length + 1) cq2) = w6 at *
                clear hw6
                go_wp2_with fail
                obtain ⟨w8, hr8, m8, g8, -⟩ := (MapIs.block (w' := w6.drew) m7 rfl).store (by unfold maxLen; omega) hok0 e
                have hr8 : (Instr.mapUpdate 56 (.map (some bm)) (.agg #[.int .i64 e.t, .int .i64 e.m, .int .i64 0]) (.agg #[.int .i64 e.t, .int .i64 e.m, .int .i64 e.p, .int .i64 e.a, .bool e.s])).run Try.prog w6.drew = .ok () w8 := hr8
                have g8 : w6.grownBy w8 (some bm) := ⟨g8.os, g8.tape, g8.output, g8.size, g8.block⟩
                have hk7 : ∀ cs T, w6.heap[bm]? ≠ some (.cells cs T) := map_kind m7
                have n8 := ne_cells hk7 p7
                have m8k := ne_cells hk7 kk7
                have m8e := ne_cells hk7 ke7
                have p8 := kept_grown p7 g8 (fun i hi => by cases hi; exact n8)
                have kk8 := kept_grown kk7 g8 (fun i hi => by cases hi; exact m8k)
                have ke8 := kept_grown ke7 g8 (fun i hi => by cases hi; exact m8e)
                have HT : Hid (TabN 16777217 w8 base p bm ((keysOf l).take pos ++ key0 e :: (keysOf l).drop pos) (upd (entsOf l) (key0 e) (some e))) := ⟨⟨aq2, cq2, by rw [HN7.out]; exact p8, by rw [HN7.out]; exact own_kind o7 g8 hk7⟩, m8, hlp, hlb, hoks7, by rw [HN7.out]; omega⟩
                have HB := hide (be7.grown g8 hbase7 (fun i hi => by cases hi; exact hlb))
                have hS0 : w6.drew.cell? ⟨p, 1, none⟩ = some (.map (some bm)) ∧ _ ∧ _ := ⟨(cells2 (w := w6.drew) p7).1.2, (cells3 (w := w6.drew) kk7).1, (cells5 (w := w6.drew) ke7).1⟩
                have hS1 : w8.cell? ⟨p, 1, none⟩ = some (.map (some bm)) ∧ _ ∧ _ := ⟨(cells2 p8).1.2, (cells3 kk8).1, (cells5 ke8).1⟩
                clear p7 o7 m7 kk7 ke7 be7 p8 kk8 ke8 n8 m8k m8e hk7 m8 g8
                refine wp_region_held_drew (S := (fun W => W.cell? ⟨p, 1, none⟩ = some (.map (some bm)) ∧ (W.cell? ⟨w1.heap.size, 0, none⟩ = some (.int .i64 e.t) ∧ W.cell? ⟨w1.heap.size, 1, none⟩ = some (.int .i64 e.m) ∧ W.cell? ⟨w1.heap.size, 2, none⟩ = some (.int .i64 0)) ∧ (W.cell? ⟨w.heap.size, 0, none⟩ = some (.int .i64 e.t) ∧ W.cell? ⟨w.heap.size, 1, none⟩ = some (.int .i64 e.m) ∧ W.cell? ⟨w.heap.size, 2, none⟩ = some (.int .i64 e.p) ∧ W.cell? ⟨w.heap.size, 3, none⟩ = some (.int .i64 e.a) ∧ W.cell? ⟨w.heap.size, 4, none⟩ = some (.bool e.s)))) (by kernel_rfl) (by first | exact hS0 | exact hS1) (fun hHeld => ?_)
                refine wpAnyH_take (i := 0) (oi := { dst := some 38, op := Op.move (Operand.tmp 0), type := 53, pos := "l08_fdb.go:166", after := #[], guard := none }) (v := ?_) rfl (by kernel_rfl) (by kernel_rfl) (by kernel_rfl) (fun _ _ _ h => h) (Or.inl ⟨by rfl, ?_⟩) (by assumption) ?_
                rotate_left
                · (intro wY hSw; (try dsimp only at hSw); go_simp; try with_reducible rfl)
                simp only [Act.put, List.setIfInBounds_toArray, List.set_cons_zero, List.set_cons_succ]
                refine wpAnyH_take (i := 1) (oi := { dst := some 39, op := Op.nilCheck (Operand.tmp 38), type := 0, pos := "l08_fdb.go:166", after := #[{ on := 0, ground := Ground.data }], guard := none }) (v := ?_) rfl (by kernel_rfl) (by kernel_rfl) (by kernel_rfl) (fun _ _ _ h => h) (Or.inl ⟨by rfl, ?_⟩) (by assumption) ?_
                rotate_left
                · (intro wY hSw; (try dsimp only at hSw); go_simp; try with_reducible rfl)
                simp only [Act.put, List.setIfInBounds_toArray, List.set_cons_zero, List.set_cons_succ]
                refine wpAnyH_take (i := 2) (oi := { dst := some 40, op := Op.fieldAddr 58 (Operand.tmp 39) 1, type := 0, pos := "l08_fdb.go:166", after := #[{ on := 1, ground := Ground.data }], guard := none }) (v := ?_) rfl (by kernel_rfl) (by kernel_rfl) (by kernel_rfl) (fun _ _ _ h => h) (Or.inl ⟨by rfl, ?_⟩) (by assumption) ?_
                rotate_left
                · (intro wY hSw; (try dsimp only at hSw); go_simp; try with_reducible rfl)
                simp only [Act.put, List.setIfInBounds_toArray, List.set_cons_zero, List.set_cons_succ]
                refine wpAnyH_take (i := 3) (oi := { dst := some 41, op := Op.load 56 (Operand.tmp 40), type := 56, pos := "l08_fdb.go:166", after := #[{ on := 2, ground := Ground.data }], guard := none }) (v := ?_) rfl (by kernel_rfl) (by kernel_rfl) (by kernel_rfl) (fun _ _ _ h => h) (Or.inl ⟨by rfl, ?_⟩) (by assumption) ?_
                rotate_left
                · (intro wY hSw; (try dsimp only at hSw); go_simp; try with_reducible rfl)
                simp only [Act.put, List.setIfInBounds_toArray, List.set_cons_zero, List.set_cons_succ]
                refine wpAnyH_take (i := 4) (oi := { dst := some 42, op := Op.load 60 (Operand.tmp 5), type := 60, pos := "l08_fdb.go:166", after := #[], guard := none }) (v := ?_) rfl (by kernel_rfl) (by kernel_rfl) (by kernel_rfl) (fun _ _ _ h => h) (Or.inl ⟨by rfl, ?_⟩) (by assumption) ?_
                rotate_left
                · (intro wY hSw; (try dsimp only at hSw); go_simp; try with_reducible rfl)
                simp only [Act.put, List.setIfInBounds_toArray, List.set_cons_zero, List.set_cons_succ]
                refine wpAnyH_take (i := 5) (oi := { dst := some 43, op := Op.load 30 (Operand.tmp 3), type := 30, pos := "l08_fdb.go:166", after := #[], guard := none }) (v := ?_) rfl (by kernel_rfl) (by kernel_rfl) (by kernel_rfl) (fun _ _ _ h => h) (Or.inl ⟨by rfl, ?_⟩) (by assumption) ?_
                rotate_left
                · (intro wY hSw; (try dsimp only at hSw); go_simp; try with_reducible rfl)
                simp only [Act.put, List.setIfInBounds_toArray, List.set_cons_zero, List.set_cons_succ]
                refine wpAnyH_ready (rs := [6]) (by kernel_rfl) (by simp) ?_
                refine AllReadyH.cons (o := { dst := none, op := Op.mapUpdate 56 (Operand.tmp 41) (Operand.tmp 42) (Operand.tmp 43), type := 0, pos := "l08_fdb.go:166", after := #[{ on := 3, ground := Ground.data }, { on := 4, ground := Ground.data }, { on := 5, ground := Ground.data }, { on := 0, ground := Ground.phase }, { on := 1, ground := Ground.phase }, { on := 2, ground := Ground.phase }, { on := 3, ground := Ground.phase }, { on := 4, ground := Ground.phase }, { on := 5, ground := Ground.phase }], guard := none }) rfl (fun K hK => ?_) ?_
                · go_simp
                  refine hK.out _ _ (by first | exact hS0 | exact hS1) (fun hHeld => ?_)
                  clear hK K
                  try simp only [Act.put, List.setIfInBounds_toArray, List.set_cons_zero, List.set_cons_succ]
                  refine wpAnyH_done (by kernel_rfl) ?_ _
                  clear hS0 hS1 hr8 hHeld
                  go_wp2
                  go_ret
                  exact ⟨true, _, _, rfl, HOK.out, HT.out, HOUT.out, HB.out⟩
                exact AllReadyH.nil
              exact AllReadyH.nil
            exact AllReadyH.nil
          exact AllReadyH.nil
        exact AllReadyH.nil
  exact AllReadyH.nil

end Go.Proofs.Ytmcikcpkggonfaa
