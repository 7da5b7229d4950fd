/-
  Rows without those of a number, the program's own: slices.Clone, then slices.DeleteFunc in place.
-/
import Derived.Test.YtafonmfgeecopaaVlanCopy
import Derived.Test.YtafonmfgeecopaaVtabRowM
import Derived.Laws.CopyRow
namespace Go.Proofs.Ytafonmfgeecopaa
open Go.RowKit

/-- A row that is owned, cut behind. -/
theorem gown_take {w : World} {base k : Nat} {e : TypeId} {a : Option Addr} {n cap : Nat} {xs : List Value} (h : w.ownsRow base e k (.slice a n cap) n xs) {i : Nat} (hi : i ≤ n) : w.ownsRow base e k (.slice a i cap) i (xs.take (i * k)) := by
  have hik : i * k ≤ n * k := Nat.mul_le_mul_right _ hi
  obtain ⟨hl, ⟨hv, h0⟩ | ⟨g, cap', cur, hv, hg, hh, h1, h2, h3, h4⟩⟩ := h
  · cases hv
    have : i = 0 := by omega
    subst this
    exact ⟨by simp, .inl ⟨rfl, rfl⟩⟩
  · cases hv
    refine ⟨by rw [List.length_take, hl]; omega, .inr ⟨g, cap, cur, rfl, hg, hh, by omega, h2, h3, ?_⟩⟩
    rw [← h4, List.take_take, Nat.min_eq_left hik]

theorem vall_take (l : List VR) (i : Nat) : (vrowF.all l).take (i * 3) = vrowF.all (l.take i) := by
  induction l generalizing i with
  | nil => simp [Flat.all]
  | cons x l ih =>
    cases i with
    | zero => simp [Flat.all]
    | succ i =>
      rw [vrowF.all_cons, List.take_succ_cons, vrowF.all_cons, ← ih i]
      have h3 : (vrowF.cs x).length = 3 := rfl
      rw [List.take_append, h3, show (i + 1) * 3 - 3 = i * 3 by omega, List.take_of_length_le (by rw [h3]; omega)]

/-- While rows are taken out: the first i are those of the first j that stay, from j on all is as it was. -/
def DelSt (l L : List VR) (id : Int) (i j : Nat) : Prop := L.length = l.length ∧ i < j ∧ j ≤ l.length ∧ L.take i = (l.take j).filter (fun r => r.i != id) ∧ L.drop j = l.drop j

theorem delSt_first {l : List VR} {id : Int} {k : Nat} (h : rowIdx l id = some k) : DelSt l l id k (k + 1) := by
  obtain ⟨hk, he, hno⟩ := List.findIdx?_eq_some_iff_getElem.1 h
  refine ⟨rfl, by omega, by omega, ?_, rfl⟩
  rw [List.take_add_one, List.filter_append, List.getElem?_eq_getElem hk]
  have h1 : (l.take k).filter (fun r => r.i != id) = l.take k := by
    refine List.filter_eq_self.2 fun x hx => ?_
    obtain ⟨j, hj, rfl⟩ := List.getElem_of_mem hx
    have hjk : j < k := by simp at hj; omega
    have := hno j hjk
    simpa using this
  rw [h1]
  simp only [Option.toList_some]
  have he : (l[k].i == id) = true := he
  simp at he
  simp [he]

theorem delSt_keep {l L : List VR} {id : Int} {i j : Nat} {x : VR} (h : DelSt l L id i j) (hx : l[j]? = some x) (hn : (x.i == id) = false) : DelSt l (L.set i x) id (i + 1) (j + 1) := by
  obtain ⟨h1, h2, h3, h4, h5⟩ := h
  have hj := (List.getElem?_eq_some_iff.1 hx).1
  refine ⟨by simpa using h1, by omega, by omega, ?_, ?_⟩
  · rw [List.take_add_one (l := l), hx, List.filter_append, ← h4]
    have hi : i < L.length := by omega
    rw [List.take_add_one, List.getElem?_set_self hi, List.take_set_of_le (Nat.le_refl i)]
    simp at hn
    simp [hn]
  · rw [List.drop_set_of_lt (by omega), ← List.drop_drop, ← List.drop_drop, h5]

theorem delSt_drop {l L : List VR} {id : Int} {i j : Nat} {x : VR} (h : DelSt l L id i j) (hx : l[j]? = some x) (hn : (x.i == id) = true) : DelSt l L id i (j + 1) := by
  obtain ⟨h1, h2, h3, h4, h5⟩ := h
  have hj := (List.getElem?_eq_some_iff.1 hx).1
  refine ⟨h1, by omega, by omega, ?_, ?_⟩
  · rw [List.take_add_one (l := l), hx, List.filter_append, ← h4]
    simp at hn
    simp [hn]
  · rw [← List.drop_drop, ← List.drop_drop, h5]

theorem delSt_end {l L : List VR} {id : Int} {i j : Nat} (h : DelSt l L id i j) (hj : ¬ j < l.length) : L.take i = l.filter (fun r => r.i != id) := by
  obtain ⟨h1, h2, h3, h4, h5⟩ := h
  rw [h4, List.take_of_length_le (by omega)]

theorem delSt_at {l L : List VR} {id : Int} {i j : Nat} (h : DelSt l L id i j) : L[j]? = l[j]? := by
  obtain ⟨h1, h2, h3, h4, h5⟩ := h
  have := congrArg (fun z => z[0]?) h5
  simpa using this

/-- A row of an owned list is written over. -/
theorem own_row {w : World} {base g n cap : Nat} {L : List VR} (h : w.ownsRow base 29 3 (.slice (some ⟨g, 0, none⟩) n cap) n (vrowF.all L)) {i : Nat} (hi : i < n) (x : VR) :
    ((∃ u, w.cell? ⟨g, i * 3, none⟩ = some u) ∧ (∃ u, w.cell? ⟨g, i * 3 + 1, none⟩ = some u) ∧ (∃ u, w.cell? ⟨g, i * 3 + 2, none⟩ = some u)) ∧
    (w.frozen? ⟨g, i * 3, none⟩ = false ∧ w.frozen? ⟨g, i * 3 + 1, none⟩ = false ∧ w.frozen? ⟨g, i * 3 + 2, none⟩ = false) ∧
    (((w.setCell ⟨g, i * 3, none⟩ (.int .i64 x.i)).setCell ⟨g, i * 3 + 1, none⟩ (.int .i64 x.m)).setCell ⟨g, i * 3 + 2, none⟩ (.int .i64 x.b)).ownsRow base 29 3 (.slice (some ⟨g, 0, none⟩) n cap) n (vrowF.all (L.set i x)) := by
  have hl : L.length = n := (grow_own (F := vrowF) h).size
  have hy : L[i]? = some (L[i]'(by omega)) := List.getElem?_eq_getElem (by omega)
  generalize L[i]'(by omega) = y at hy
  have f0 := flat_cells (F := vrowF) h hy (j := 0) (v := .int .i64 y.i) rfl
  have f1 := flat_cells (F := vrowF) h hy (j := 1) (v := .int .i64 y.m) rfl
  have f2 := flat_cells (F := vrowF) h hy (j := 2) (v := .int .i64 y.b) rfl
  refine ⟨⟨⟨_, f0.1⟩, ⟨_, f1.1⟩, ⟨_, f2.1⟩⟩, ⟨f0.2, f1.2, f2.2⟩, ?_⟩
  have hL : L = L.take i ++ y :: L.drop (i + 1) := by
    obtain ⟨hi', rfl⟩ := List.getElem?_eq_some_iff.1 hy
    rw [List.getElem_cons_drop, List.take_append_drop]
  have hp : (L.take i).length = i := by rw [List.length_take]; omega
  have hS : L.set i x = L.take i ++ x :: L.drop (i + 1) := by rw [List.set_eq_take_append_cons_drop, if_pos (by omega)]
  rw [hS]
  rw [hL] at h
  have g0 := flat_stored (F := vrowF) (pre := L.take i) (x := y) (x' := ⟨x.i, y.m, y.b⟩) h 0 (.int .i64 x.i) (by decide) rfl
  have g1 := flat_stored (F := vrowF) (pre := L.take i) (x := ⟨x.i, y.m, y.b⟩) (x' := ⟨x.i, x.m, y.b⟩) g0 1 (.int .i64 x.m) (by decide) rfl
  have g2 := flat_stored (F := vrowF) (pre := L.take i) (x := ⟨x.i, x.m, y.b⟩) (x' := x) g1 2 (.int .i64 x.b) (by decide) rfl
  rw [hp] at g2
  exact g2

/-- Go's clear of the last rows. -/
theorem run_clear_rows {w : World} {base g n cap i : Nat} {L : List VR} (h : w.ownsRow base 29 3 (.slice (some ⟨g, 0, none⟩) n cap) n (vrowF.all L)) (hi : i < n) (ty : TypeId) :
    ∃ w', (∀ c, (Builtin.clear_ #[65] ty #[.slice (some ⟨g, i * 3, none⟩) (n - i) c]).run Try.prog w = .ok (.tuple #[]) w') ∧ w'.ownsRow base 29 3 (.slice (some ⟨g, 0, none⟩) i cap) i (vrowF.all (L.take i)) ∧ w.grownBy w' (some g) := by
  have hl : L.length = n := (grow_own (F := vrowF) h).size
  have hsh := gown_take h (Nat.le_of_lt hi)
  rw [vall_take] at hsh
  obtain ⟨hlen, ⟨hv, h0⟩ | ⟨g', cap', cur, hv, hg, hh, h1, h2, h3, h4⟩⟩ := h
  · omega
  · cases hv
    have hz : ∀ w, (zeroValue 29).run Try.prog w = .ok (.agg #[.int .i64 0, .int .i64 0, .int .i64 0]) w := fun w => by kernel_rfl
    let Z := (Builtin.zeroCells #[Value.int .i64 0, Value.int .i64 0, Value.int .i64 0] (n - i)).toList
    have hZl : Z.length = (n - i) * 3 := by simp [Z, size_zeroCells]
    have hZ1 : ∀ v ∈ Z, v.oneCell' = true := by
      intro v hv
      simp only [Z, Builtin.zeroCells, Array.toList_map, List.mem_map] at hv
      obtain ⟨j, -, rfl⟩ := hv
      rcases (show j % 3 = 0 ∨ j % 3 = 1 ∨ j % 3 = 2 by omega) with e | e | e <;> simp [e] <;> rfl
    have hfit : i * 3 + 0 + Z.length ≤ cur.size := by rw [hZl, h3]; omega
    have hst := run_storeCells_at (P := Try.prog) g (i * 3) 29 Z 0 cur w hh hfit hZ1
    refine ⟨w.setRow g (cur.toList.take (i * 3 + 0) ++ Z ++ cur.toList.drop (i * 3 + 0 + Z.length)).toArray, fun c => ?_, ?_, ?_⟩
    · obtain ⟨m, hm⟩ : ∃ m, n - i = m + 1 := ⟨n - i - 1, by omega⟩
      have hst' := hst
      simp only [Z] at hst'
      rw [hm] at hst' ⊢
      simp [Builtin.clear_, run_underlying Try.underlying65, hz, Value.cells, hst', Z, hm]
    · refine ⟨hsh.1, .inr ⟨g, cap, _, rfl, hg, setRow_heap w g cur _ 29 _ hh, by omega, h2, ?_, ?_⟩⟩
      · simp
        rw [hZl]
        have : cur.toList.length = cap * 3 := by simpa using h3
        simp at this ⊢
        omega
      · have hcs : cur.toList.length = cap * 3 := by simpa using h3
        have e1 : (cur.toList.take (i * 3 + 0)).length = i * 3 := by rw [List.length_take]; omega
        rw [List.append_assoc, List.take_append_of_le_length (by omega), List.take_of_length_le (by omega), ← vall_take, ← h4, List.take_take, Nat.add_zero, Nat.min_eq_left (by omega)]
    · refine ⟨rfl, rfl, rfl, ?_, ?_⟩
      · simp [World.setRow]
      · intro k hk hkg
        rw [setRow_other _ _ _ _ (fun e => hkg (by rw [e]))]

set_option maxRecDepth 100000 in
set_option maxHeartbeats 4000000 in
theorem deleteFunc_made (B g n cap : Nat) (l : List VR) (id : Int) (k gi : Nat) (w : World) (how : w.ownsRow B 29 3 (.slice (some ⟨g, 0, none⟩) n cap) n (vrowF.all l)) (cg : w.heap[gi]? = some (.cells #[.int .i64 id] 3)) (hk : rowIdx l id = some k) (hB : B ≤ w.heap.size) :
    Calls Try.prog 90 #[.slice (some ⟨g, 0, none⟩) n cap, .func (.func 92) #[] #[.pointer (some ⟨gi, 0, none⟩)]] w fun e w' => ∃ n', n' ≤ n ∧ e = .returned (.slice (some ⟨g, 0, none⟩) n' cap) ∧ w'.ownsRow B 29 3 (.slice (some ⟨g, 0, none⟩) n' cap) n' (vrowF.all (l.filter (fun r => r.i != id))) ∧ Below B w w' := by
  have hrow := grow_own (F := vrowF) how
  have hle := hrow.le
  have htop := hrow.top
  unfold maxLen at htop
  have hsz := hide hrow.size
  have hBg : B ≤ g := (how.lt g rfl).1
  have hgi : gi ≠ g := by
    intro e
    subst e
    exact box_ne how cg (by decide) gi rfl rfl
  have hat := hide (rowAt_yes hk)
  have hkn : k < n := by have := (List.findIdx?_eq_some_iff_getElem.1 hk).1; have := hsz.out; omega
  have hneg : ¬ ((k : Int) = -1) := by omega
  have HK := hide hk
  go_enter Try.func90, Try.ntmps90
  go_wp2_with fail
  refine (rowIndexW_any (some ⟨g, 0, none⟩) n cap l id gi _ hrow cg).mono ?_
  rintro r w1 ⟨rfl, hb1⟩
  rw [hat.out]
  have how := gown_below how hb1
  have cg := kept_block cg hb1
  have HB := hide (hb1.mono hB)
  clear hb1 hrow hk
  go_wp2
  go_loopw [5, 6] (fun s5 s6 wr => ∃ (i j : Nat) (L : List VR), s5 = .int .i64 i ∧ s6 = .int .i64 j ∧ DelSt l L id i j ∧ wr.ownsRow B 29 3 (.slice (some ⟨g, 0, none⟩) n cap) n (vrowF.all L) ∧ wr.heap[gi]? = some (.cells #[.int .i64 id] 3) ∧ Below B w wr) (fun _ s6 _ => n - (intOf s6).toNat)
  case atStart => exact ⟨k, k + 1, l, rfl, by go_num, delSt_first HK.out, how, cg, HB.out⟩
  case round =>
    obtain ⟨i, j, L, rfl, rfl, hst, ho, cgr, hb⟩ := hrel
    have hij := hst.2.1
    have hjn : j ≤ n := by have := hst.2.2.1; have := hsz.out; omega
    have hBr : B ≤ wr.heap.size := Nat.le_trans hB hb.size
    by_cases hlt : j < n
    · have hjl : j < l.length := by have := hsz.out; omega
      have hx : l[j]? = some (l[j]'hjl) := List.getElem?_eq_getElem hjl
      generalize l[j]'hjl = x at hx
      have hxL : L[j]? = some x := by rw [delSt_at hst, hx]
      have a0 : wr.cell? ⟨g, j * 3, none⟩ = some (.int .i64 x.i) := (flat_cells (F := vrowF) ho hxL (j := 0) (v := .int .i64 x.i) rfl).1
      have a1 : wr.cell? ⟨g, j * 3 + 1, none⟩ = some (.int .i64 x.m) := (flat_cells (F := vrowF) ho hxL (j := 1) (v := .int .i64 x.m) rfl).1
      have a2 : wr.cell? ⟨g, j * 3 + 2, none⟩ = some (.int .i64 x.b) := (flat_cells (F := vrowF) ho hxL (j := 2) (v := .int .i64 x.b) rfl).1
      generalize hwa : wr.alloc (Obj.cells #[Value.int .i64 x.i, Value.int .i64 x.m, Value.int .i64 x.b] 29) = wa
      have bra : Below wr.heap.size wr wa := by subst hwa; exact below_one _ _
      have ka : wa.heap[wr.heap.size]? = some (.cells #[.int .i64 x.i, .int .i64 x.m, .int .i64 x.b] 29) := by rw [← hwa]; exact block_last _ _
      obtain ⟨⟨x0, x1, x2⟩, -⟩ := cells3 ka
      cases t1 : (x.i == id)
      · have HS := hide (delSt_keep hst hx t1)
        have T1 := hide t1
        have HB1 := hide hb
        clear t1 hx hxL hst hb
        go_wp2_with fail
        refine (implWithout1_any x id gi _ (kept_block cgr bra)).mono ?_
        rintro r wb ⟨rfl, hbb⟩
        rw [T1.out]
        have brb := gr_trans bra hbb
        obtain ⟨⟨y0, y1, y2⟩, -⟩ := cells3 (kept_block ka hbb)
        obtain ⟨⟨⟨u0, v0⟩, ⟨u1, v1⟩, ⟨u2, v2⟩⟩, ⟨f0, f1, f2⟩, hO⟩ := own_row (gown_below ho brb) (i := i) (by omega) x
        have HO := hide hO
        have HG := hide (kept_set (b := g) (j := i * 3 + 2) (u := .int .i64 x.b) (kept_set (b := g) (j := i * 3 + 1) (u := .int .i64 x.m) (kept_set (b := g) (j := i * 3) (u := .int .i64 x.i) (kept_block cgr brb) hgi) hgi) hgi)
        have HB2 := hide (below_set (below_set (below_set (HB1.out.trans (brb.mono hBr)) hBg (i * 3) (.int .i64 x.i)) hBg (i * 3 + 1) (.int .i64 x.m)) hBg (i * 3 + 2) (.int .i64 x.b))
        have i1 : (i : Int) < (n : Int) := by omega
        clear x0 x1 x2 a0 a1 a2 hO hbb ho
        go_wp2
        go_roundw
        case rel =>
          refine ⟨_, _, _, _, _, _, _, _, _, _, _, _, _, _, _, _, _, _, _, _, _, _, _, ?_, rfl⟩
          exact ⟨i + 1, j + 1, _, by go_num, by go_num, HS.out, HO.out, HG.out, HB2.out⟩
        case measure => simp [intOf]; omega
      · have HS := hide (delSt_drop hst hx t1)
        have T1 := hide t1
        have HB1 := hide hb
        clear t1 hx hxL hst hb
        go_wp2_with fail
        refine (implWithout1_any x id gi _ (kept_block cgr bra)).mono ?_
        rintro r wb ⟨rfl, hbb⟩
        rw [T1.out]
        have brb := gr_trans bra hbb
        have HO := hide (gown_below ho brb)
        have HG := hide (kept_block cgr brb)
        have HB2 := hide (HB1.out.trans (brb.mono hBr))
        clear x0 x1 x2 a0 a1 a2 hbb ho
        go_wp2
        go_roundw
        case rel =>
          refine ⟨_, _, _, _, _, _, _, _, _, _, _, _, _, _, _, _, _, _, _, _, _, _, _, ?_, rfl⟩
          exact ⟨i, j + 1, _, rfl, by go_num, HS.out, HO.out, HG.out, HB2.out⟩
        case measure => simp [intOf]; omega
    · have hjn' : j = n := by omega
      subst hjn'
      have HE := hide (delSt_end hst (by have := hsz.out; omega))
      obtain ⟨wc, hrun, hO, hgr⟩ := run_clear_rows ho (i := i) hij 0
      rw [HE.out] at hO
      have HO := hide hO
      have HB2 := hide (hb.grown hgr hBr (by intro k hk; cases hk; exact hBg))
      have i1 : (0 : Int) ≤ (i : Int) := by omega
      have i2 : (i : Int) ≤ (j : Int) := by omega
      have i3 : ¬ cap = i := by omega
      have i4 : (i : Int) ≤ (cap : Int) := by omega
      clear hst hb ho hO hgr
      go_wp2
      go_ret
      exact ⟨i, by omega, rfl, HO.out, HB2.out⟩

set_option maxRecDepth 100000 in
set_option maxHeartbeats 2000000 in
theorem implWithout_made (a : Option Addr) (n c : Nat) (l : List VR) (id : Int) (k : Nat) (w : World) (h : GRow vrowF w a n c l) (hn : n ≤ 16777216) (hk : rowIdx l id = some k) :
    Calls Try.prog 60 #[.slice a n c, .int .i64 id] w fun e w' => ∃ a' n' c', n' ≤ n ∧ e = .returned (.slice a' n' c') ∧ w'.ownsRow w.heap.size 29 3 (.slice a' n' c') n' (vrowF.all (l.filter (fun r => r.i != id))) ∧ Below w.heap.size w w' := by
  have hmf : ∀ (fn : Fn) (first cap : Array Value) (w : World), (Instr.makeFunc fn first cap).run Try.prog w = .ok (.func fn first cap) w := fun _ _ _ _ => rfl
  have q := below_one w (.cells #[.int .i64 id] 3)
  have kb := block_last w (.cells #[.int .i64 id] 3)
  have hkn : 0 < n := by have := (List.findIdx?_eq_some_iff_getElem.1 hk).1; have := h.size; omega
  have HK := hide hk
  clear hk
  go_enter Try.func60, Try.ntmps60
  go_wp2_with fail
  refine (cloneO_any a n c l _ (h.below q) hn).mono ?_
  rintro r w1 ⟨a1, c1, rfl, ho1, hb1⟩
  obtain ⟨g, rfl, hg1, hg2⟩ := flat_addr (F := vrowF) ho1 hkn
  have q1 := gr_trans q hb1
  have kb1 := kept_block kb hb1
  go_wp2_with fail
  refine (deleteFunc_made w.heap.size g n c1 l id k w.heap.size _ (gown_lt ho1 (base' := w.heap.size) q.size) kb1 HK.out q1.size).mono ?_
  rintro r w2 ⟨n2, hn2, rfl, ho2, hb2⟩
  have HO := hide ho2
  have HB := hide (q1.trans hb2)
  clear ho2 hb2 ho1 hb1 q1 q kb kb1
  go_wp2
  go_ret
  exact ⟨_, n2, c1, hn2, rfl, HO.out, HB.out⟩

end Go.Proofs.Ytafonmfgeecopaa
