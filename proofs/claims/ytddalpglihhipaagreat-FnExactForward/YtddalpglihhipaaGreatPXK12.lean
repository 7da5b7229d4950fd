/-
  Packed: VtabCopy VtabOr VtabSet VtabRowM BrOwn BrPorts VtabEgress VtabHelp FdbPutS FdbImplL0.
-/
import Derived.Test.YtddalpglihhipaaGreatPXKW
import Derived.Test.YtddalpglihhipaaGreatPXFdbOkS
import Derived.Test.YtddalpglihhipaaGreatPXK01
import Derived.Test.YtddalpglihhipaaGreatPXK03
import Derived.Test.YtddalpglihhipaaGreatPXK04
import Derived.Test.YtddalpglihhipaaGreatPXVtabOkS
namespace Go.Proofs.YtddalpglihhipaaGreat
open Go.RowKit

abbrev q53 : Oper := ⟨some 3, .buildSlice 26 0 #[], 26, "l09_vlan.go:79", #[], none⟩
abbrev q54 : Oper := ⟨some 6, .call ⟨.builtin .append, #[.tmp 3, .tmp 5], #[26, 26]⟩, 26, "l09_vlan.go:79", #[⟨0, .data⟩, ⟨2, .data⟩], none⟩
abbrev q55 : Oper := ⟨some 7, .buildSlice 27 0 #[], 27, "l09_vlan.go:79", #[], none⟩
abbrev q56 : Oper := ⟨some 10, .call ⟨.builtin .append, #[.tmp 7, .tmp 9], #[27, 27]⟩, 27, "l09_vlan.go:79", #[⟨4, .data⟩, ⟨6, .data⟩, ⟨3, .chain⟩], none⟩
abbrev q57 : Oper := ⟨some 11, .build 29 #[(0, .tmp 6), (1, .tmp 10)], 29, "l09_vlan.go:79", #[⟨3, .data⟩, ⟨7, .data⟩], none⟩
abbrev q58 : Oper := ⟨none, .store 29 (.tmp 2) (.tmp 11), 0, "l09_vlan.go:79", #[⟨8, .data⟩, ⟨7, .chain⟩, ⟨0, .phase⟩, ⟨1, .phase⟩, ⟨2, .phase⟩, ⟨3, .phase⟩, ⟨4, .phase⟩, ⟨5, .phase⟩, ⟨6, .phase⟩, ⟨7, .phase⟩, ⟨8, .phase⟩], none⟩

def intF : Flat Int where
 k := 1
 cs := fun x => [.int .i64 x]
 len := fun _ => rfl
 pos := by decide
 one := fun _ v hv => by
  simp only [List.mem_cons, List.not_mem_nil, or_false] at hv
  subst hv
  rfl

theorem intF_all : ∀ (l : List Int), intF.all l = cI l
 | [] => rfl
 | x :: l => by
  have := intF_all l
  rw [Flat.all_cons, this]
  rfl

theorem IRow.flat {w : World} {ao : Option Addr} {n c : Nat} {l : List Int} (h : IRow w ao n c l) : GRow intF w ao n c l where
 size := h.size
 le := h.le
 top := h.top
 nil := h.nil
 cell := by
  rcases h.cell with h0 | ⟨b, off, ha, hc⟩
  ·exact .inl h0
  ·refine .inr ⟨b, off, ha, fun i x hi j v hv => ?_⟩
   have hl := (List.getElem?_eq_some_iff.1 hi).1
   have hs := h.size
   have := hc i (by omega)
   rw [List.getD_eq_getElem?_getD, hi] at this
   match j, hv with
   | 0, hv =>
    cases hv
    show w.cell? ⟨b, off + i * 1 + 0, none⟩ = _
    rw [Nat.mul_one, Nat.add_zero]
    exact this
   | j + 1, hv => simp [intF] at hv

theorem vrowInfo : (Tryz.prog.info? 100).map (fun i => (i.zero, i.size, i.bytes)) = some (some (.agg #[.int .i64 0, .int .i64 0, .int .i64 0]), vrowF.k, 24) := by kernel_rfl

theorem gown_type {w w' : World} {base k : Nat} {e : TypeId} {v : Value} {n : Nat} {xs : List Value} (h : w.ownsRow base e k v n xs) {base2 k2 : Nat} {e2 : TypeId} {v2 : Value} {n2 : Nat} {xs2 : List Value} (h2 : w.ownsRow base2 e2 k2 v2 n2 xs2) (hne : (e : Nat) ≠ e2) (hg : w.grownBy w' v2.ownBlock) : w'.ownsRow base e k v n xs := by
 refine h.kept hg ?_
 obtain ⟨-, h | ⟨g, cap, cur, e1, -, hh, -⟩⟩ := h
 ·rw [h.1]; exact .inl rfl
 ·obtain ⟨-, h2 | ⟨g2, cap2, cur2, e2', -, hh2, -⟩⟩ := h2
  ·rw [h2.1]; exact .inr (by rw [e1]; intro hc; cases hc)
  ·refine .inr (fun hc => ?_)
   rw [e1, e2'] at hc
   have hgg : g = g2 := by simpa [Value.ownBlock] using hc
   subst hgg
   rw [hh] at hh2
   cases hh2
   exact hne rfl

structure VOwn (w : World) (base : Nat) (a : Option Addr) (n c : Nat) (o : Option Addr) (p q : Nat) (v : VT) : Prop where
 rows : w.ownsRow base 100 3 (.slice a n c) n (vrowF.all v.rows)
 own : w.ownsRow base 3 1 (.slice o p q) p (cI v.own)
 i64 : I64s v.own

theorem VOwn.tab {w : World} {base : Nat} {a : Option Addr} {n c : Nat} {o : Option Addr} {p q : Nat} {v : VT} (h : VOwn w base a n c o p q v) : VTab w a n c o p q v := ⟨grow_own (F := vrowF) h.rows, irow_own h.own h.i64⟩

set_option maxRecDepth 100000 in
set_option maxHeartbeats 4000000 in
theorem specCopyV_made (a : Option Addr) (n c : Nat) (o : Option Addr) (p q : Nat) (v : VT) (w : World) (h : VTab w a n c o p q v) (hn : n ≤ 16777216) (hp : p ≤ 16777216) :
  Calls Tryz.prog 116 #[.agg #[.slice a n c, .slice o p q]] w fun r w' => ∃ a' c' o' q', r = .returned (.agg #[.slice a' n c', .slice o' p q']) ∧ VOwn w' w.heap.size a' n c' o' p q' v ∧ Below w.heap.size w w' := by
 generalize hw1 : w.alloc (Obj.cells #[Value.slice a n c, Value.slice o p q] 29) = w1
 generalize hw2 : w1.alloc (Obj.cells #[Value.slice none 0 0, Value.slice none 0 0] 29) = w2
 have s1 : w1.heap.size = w.heap.size + 1 := by subst hw1; simp
 have s2 : w2.heap.size = w.heap.size + 1 + 1 := by subst hw2; simp [s1]
 have hk1 : w2.heap[w1.heap.size]? = some (.cells #[.slice none 0 0, .slice none 0 0] 29) := by rw [← hw2]; exact block_last _ _
 have b01 : Below w.heap.size w w1 := by subst hw1; exact below_one _ _
 have vb : Below w1.heap.size w1 w2.drew := by subst hw2; exact gr_drew (below_one _ _)
 have bw : Below w.heap.size w w2 := by subst hw2; exact gr_trans b01 (below_one _ _)
 have vv : Below w2.heap.size w2 w2.drew := gr_drew (Below.refl _ _)
 have h12 : w1.heap.size ≤ w2.heap.size := by omega
 have S1 := hide s1
 have S2 := hide s2
 have H12 := hide h12
 have HL : Hid (∀ b, some w1.heap.size = some b → b < w2.heap.size) := hide (by intro b hb; cases hb; omega)
 clear s1 s2 h12
 go_enter Tryz.func116, Tryz.ntmps116
 go_wp2_with fail
 refine wp_region_held_drew (S := (fun W => W.cell? ⟨w.heap.size, 0, none⟩ = some (.slice a n c) ∧ W.cell? ⟨w.heap.size, 1, none⟩ = some (.slice o p q))) (by kernel_rfl) (box_two hw1 vb) (fun hHeld => ?_)
 refine tK (v := ?_) 1 ⟨some 4, .fieldAddr 29 (.tmp 1) 0, 0, "l09_vlan.go:79", #[], none⟩ ?_ ?_
 rotate_left
 ·(intro _ h; (try dsimp only at h); go_simp; try with_reducible rfl)
 simp only [Act.put, lA, lB, lC]
 refine tK (v := ?_) 2 ⟨some 5, .load 26 (.tmp 4), 26, "l09_vlan.go:79", #[⟨1, .data⟩], none⟩ ?_ ?_
 rotate_left
 ·(intro _ h; (try dsimp only at h); go_simp; try with_reducible rfl)
 simp only [Act.put, lA, lB, lC]
 refine tK (v := ?_) 5 ⟨some 8, .fieldAddr 29 (.tmp 1) 1, 0, "l09_vlan.go:79", #[], none⟩ ?_ ?_
 rotate_left
 ·(intro _ h; (try dsimp only at h); go_simp; try with_reducible rfl)
 simp only [Act.put, lA, lB, lC]
 refine tK (v := ?_) 6 ⟨some 9, .load 27 (.tmp 8), 27, "l09_vlan.go:79", #[⟨5, .data⟩], none⟩ ?_ ?_
 rotate_left
 ·(intro _ h; (try dsimp only at h); go_simp; try with_reducible rfl)
 simp only [Act.put, lA, lB, lC]
 refine tR [0, 4] ?_
 refine AllReadyH.cons (o := q53) rfl (fun K hK => ?_) ?_
 ·go_simp
  first
  | refine made_new (K := K _) (fun wx hk hbx => ?_)
  | refine made_drew (K := K _) (fun wx hk hbx => ?_)
  try have hI := gown_below hI hbx
  have hR := flat_nil vrowF w2 wx 100 _ hk vv.size
  have vv := gr_trans vv hbx
  have vb := gr_trans vb hbx
  clear hk hbx
  refine hK.out _ _ (box_two hw1 vb) (fun hHeld => ?_)
  clear hK K
  try simp only [Act.put, lA, lB, lC]
  refine tR [3, 4] ?_
  refine AllReadyH.cons (o := q54) rfl (fun K hK => ?_) ?_
  ·refine step_append_flat (F := vrowF) rfl _ _ 26 100 rfl w2.heap.size Tryz.underlying26 vrowInfo rfl (by decide) _ 0 [] rfl hR a n c v.rows rfl (h.rows.below (gr_trans bw vv)) (by omega) vv.size ?_
   intro aohR cphR wx how hrow hgr hbx
   try have hI := gown_type hI hR (by decide) hgr
   have hR := how
   have vv := vv.trans hbx
   have vb := vb.trans (hbx.mono H12.out)
   clear how hrow hgr hbx
   simp only [Nat.zero_add, List.nil_append] at hR ⊢
   refine hK.out _ _ (box_two hw1 vb) (fun hHeld => ?_)
   clear hK K
   try simp only [Act.put, lA, lB, lC]
   refine tR [4] ?_
   refine AllReadyH.cons (o := q55) rfl (fun K hK => ?_) ?_
   ·go_simp
    first
    | refine made_new (K := K _) (fun wx hk hbx => ?_)
    | refine made_drew (K := K _) (fun wx hk hbx => ?_)
    try have hR := gown_below hR hbx
    have hI := flat_nil intF w2 wx 3 _ hk vv.size
    have vv := gr_trans vv hbx
    have vb := gr_trans vb hbx
    clear hk hbx
    refine hK.out _ _ (box_two hw1 vb) (fun hHeld => ?_)
    clear hK K
    try simp only [Act.put, lA, lB, lC]
    refine tR [7] ?_
    refine AllReadyH.cons (o := q56) rfl (fun K hK => ?_) ?_
    ·refine step_append_flat (F := intF) rfl _ _ 27 3 rfl w2.heap.size Tryz.underlying27 Tryz.infoI64 rfl (by decide) _ 0 [] rfl hI o p q v.own rfl ((h.own.below (gr_trans bw vv)).flat) (by omega) vv.size ?_
     intro aohI cphI wx how hrow hgr hbx
     try have hR := gown_type hR hI (by decide) hgr
     have hI := how
     have vv := vv.trans hbx
     have vb := vb.trans (hbx.mono H12.out)
     clear how hrow hgr hbx
     simp only [Nat.zero_add, List.nil_append] at hI ⊢
     refine hK.out _ _ (box_two hw1 vb) (fun hHeld => ?_)
     clear hK K
     try simp only [Act.put, lA, lB, lC]
     refine tK (v := ?_) 8 q57 ?_ ?_
     rotate_left
     ·(intro _ h; (try dsimp only at h); go_simp; try with_reducible rfl)
     simp only [Act.put, lA, lB, lC]
     refine tR [9] ?_
     refine AllReadyH.cons (o := q58) rfl (fun K hK => ?_) ?_
     ·obtain ⟨⟨g0, g1⟩, f0, f1⟩ := cells2 (kept_block hk1 vv)
      go_simp
      have hR := gown_apart (gown_apart hR (grown_set (rb := w1.heap.size) 0 (.slice aohR n cphR)) HL.out) (grown_set (rb := w1.heap.size) 1 (.slice aohI p cphI)) HL.out
      have hI := gown_apart (gown_apart hI (grown_set (rb := w1.heap.size) 0 (.slice aohR n cphR)) HL.out) (grown_set (rb := w1.heap.size) 1 (.slice aohI p cphI)) HL.out
      have vb := below_set (below_set vb (Nat.le_refl _) 0 (.slice aohR n cphR)) (Nat.le_refl _) 1 (.slice aohI p cphI)
      refine hK.out _ _ (box_two hw1 vb) (fun hHeld => ?_)
      clear hK K
      try simp only [Act.put, lA, lB, lC]
      refine wpAnyH_done (by kernel_rfl) ?_ _
      have HR := hide hR
      have HI := hide hI
      clear hR hI
      go_wp2
      refine bodyPost_ret (v := .agg #[.slice aohR n cphR, .slice aohI p cphI]) (by simp [results, Tryz.results116, go_sem, *]) rfl ⟨_, _, _, _, rfl, ⟨gown_lt HR.out bw.size, gown_lt (by rw [← intF_all]; exact HI.out) bw.size, h.own.byte⟩, gr_trans b01 vb⟩
     exact AllReadyH.nil
    exact AllReadyH.nil
   exact AllReadyH.nil
  refine AllReadyH.cons (o := q55) rfl (fun K hK => ?_) ?_
  ·go_simp
   first
   | refine made_new (K := K _) (fun wx hk hbx => ?_)
   | refine made_drew (K := K _) (fun wx hk hbx => ?_)
   try have hR := gown_below hR hbx
   have hI := flat_nil intF w2 wx 3 _ hk vv.size
   have vv := gr_trans vv hbx
   have vb := gr_trans vb hbx
   clear hk hbx
   refine hK.out _ _ (box_two hw1 vb) (fun hHeld => ?_)
   clear hK K
   try simp only [Act.put, lA, lB, lC]
   refine tR [3] ?_
   refine AllReadyH.cons (o := q54) rfl (fun K hK => ?_) ?_
   ·refine step_append_flat (F := vrowF) rfl _ _ 26 100 rfl w2.heap.size Tryz.underlying26 vrowInfo rfl (by decide) _ 0 [] rfl hR a n c v.rows rfl (h.rows.below (gr_trans bw vv)) (by omega) vv.size ?_
    intro aohR cphR wx how hrow hgr hbx
    try have hI := gown_type hI hR (by decide) hgr
    have hR := how
    have vv := vv.trans hbx
    have vb := vb.trans (hbx.mono H12.out)
    clear how hrow hgr hbx
    simp only [Nat.zero_add, List.nil_append] at hR ⊢
    refine hK.out _ _ (box_two hw1 vb) (fun hHeld => ?_)
    clear hK K
    try simp only [Act.put, lA, lB, lC]
    refine tR [7] ?_
    refine AllReadyH.cons (o := q56) rfl (fun K hK => ?_) ?_
    ·refine step_append_flat (F := intF) rfl _ _ 27 3 rfl w2.heap.size Tryz.underlying27 Tryz.infoI64 rfl (by decide) _ 0 [] rfl hI o p q v.own rfl ((h.own.below (gr_trans bw vv)).flat) (by omega) vv.size ?_
     intro aohI cphI wx how hrow hgr hbx
     try have hR := gown_type hR hI (by decide) hgr
     have hI := how
     have vv := vv.trans hbx
     have vb := vb.trans (hbx.mono H12.out)
     clear how hrow hgr hbx
     simp only [Nat.zero_add, List.nil_append] at hI ⊢
     refine hK.out _ _ (box_two hw1 vb) (fun hHeld => ?_)
     clear hK K
     try simp only [Act.put, lA, lB, lC]
     refine tK (v := ?_) 8 q57 ?_ ?_
     rotate_left
     ·(intro _ h; (try dsimp only at h); go_simp; try with_reducible rfl)
     simp only [Act.put, lA, lB, lC]
     refine tR [9] ?_
     refine AllReadyH.cons (o := q58) rfl (fun K hK => ?_) ?_
     ·obtain ⟨⟨g0, g1⟩, f0, f1⟩ := cells2 (kept_block hk1 vv)
      go_simp
      have hR := gown_apart (gown_apart hR (grown_set (rb := w1.heap.size) 0 (.slice aohR n cphR)) HL.out) (grown_set (rb := w1.heap.size) 1 (.slice aohI p cphI)) HL.out
      have hI := gown_apart (gown_apart hI (grown_set (rb := w1.heap.size) 0 (.slice aohR n cphR)) HL.out) (grown_set (rb := w1.heap.size) 1 (.slice aohI p cphI)) HL.out
      have vb := below_set (below_set vb (Nat.le_refl _) 0 (.slice aohR n cphR)) (Nat.le_refl _) 1 (.slice aohI p cphI)
      refine hK.out _ _ (box_two hw1 vb) (fun hHeld => ?_)
      clear hK K
      try simp only [Act.put, lA, lB, lC]
      refine wpAnyH_done (by kernel_rfl) ?_ _
      have HR := hide hR
      have HI := hide hI
      clear hR hI
      go_wp2
      refine bodyPost_ret (v := .agg #[.slice aohR n cphR, .slice aohI p cphI]) (by simp [results, Tryz.results116, go_sem, *]) rfl ⟨_, _, _, _, rfl, ⟨gown_lt HR.out bw.size, gown_lt (by rw [← intF_all]; exact HI.out) bw.size, h.own.byte⟩, gr_trans b01 vb⟩
     exact AllReadyH.nil
    exact AllReadyH.nil
   exact AllReadyH.nil
  exact AllReadyH.nil
 refine AllReadyH.cons (o := q55) rfl (fun K hK => ?_) ?_
 ·go_simp
  first
  | refine made_new (K := K _) (fun wx hk hbx => ?_)
  | refine made_drew (K := K _) (fun wx hk hbx => ?_)
  try have hR := gown_below hR hbx
  have hI := flat_nil intF w2 wx 3 _ hk vv.size
  have vv := gr_trans vv hbx
  have vb := gr_trans vb hbx
  clear hk hbx
  refine hK.out _ _ (box_two hw1 vb) (fun hHeld => ?_)
  clear hK K
  try simp only [Act.put, lA, lB, lC]
  refine tR [0] ?_
  refine AllReadyH.cons (o := q53) rfl (fun K hK => ?_) ?_
  ·go_simp
   first
   | refine made_new (K := K _) (fun wx hk hbx => ?_)
   | refine made_drew (K := K _) (fun wx hk hbx => ?_)
   try have hI := gown_below hI hbx
   have hR := flat_nil vrowF w2 wx 100 _ hk vv.size
   have vv := gr_trans vv hbx
   have vb := gr_trans vb hbx
   clear hk hbx
   refine hK.out _ _ (box_two hw1 vb) (fun hHeld => ?_)
   clear hK K
   try simp only [Act.put, lA, lB, lC]
   refine tR [3] ?_
   refine AllReadyH.cons (o := q54) rfl (fun K hK => ?_) ?_
   ·refine step_append_flat (F := vrowF) rfl _ _ 26 100 rfl w2.heap.size Tryz.underlying26 vrowInfo rfl (by decide) _ 0 [] rfl hR a n c v.rows rfl (h.rows.below (gr_trans bw vv)) (by omega) vv.size ?_
    intro aohR cphR wx how hrow hgr hbx
    try have hI := gown_type hI hR (by decide) hgr
    have hR := how
    have vv := vv.trans hbx
    have vb := vb.trans (hbx.mono H12.out)
    clear how hrow hgr hbx
    simp only [Nat.zero_add, List.nil_append] at hR ⊢
    refine hK.out _ _ (box_two hw1 vb) (fun hHeld => ?_)
    clear hK K
    try simp only [Act.put, lA, lB, lC]
    refine tR [7] ?_
    refine AllReadyH.cons (o := q56) rfl (fun K hK => ?_) ?_
    ·refine step_append_flat (F := intF) rfl _ _ 27 3 rfl w2.heap.size Tryz.underlying27 Tryz.infoI64 rfl (by decide) _ 0 [] rfl hI o p q v.own rfl ((h.own.below (gr_trans bw vv)).flat) (by omega) vv.size ?_
     intro aohI cphI wx how hrow hgr hbx
     try have hR := gown_type hR hI (by decide) hgr
     have hI := how
     have vv := vv.trans hbx
     have vb := vb.trans (hbx.mono H12.out)
     clear how hrow hgr hbx
     simp only [Nat.zero_add, List.nil_append] at hI ⊢
     refine hK.out _ _ (box_two hw1 vb) (fun hHeld => ?_)
     clear hK K
     try simp only [Act.put, lA, lB, lC]
     refine tK (v := ?_) 8 q57 ?_ ?_
     rotate_left
     ·(intro _ h; (try dsimp only at h); go_simp; try with_reducible rfl)
     simp only [Act.put, lA, lB, lC]
     refine tR [9] ?_
     refine AllReadyH.cons (o := q58) rfl (fun K hK => ?_) ?_
     ·obtain ⟨⟨g0, g1⟩, f0, f1⟩ := cells2 (kept_block hk1 vv)
      go_simp
      have hR := gown_apart (gown_apart hR (grown_set (rb := w1.heap.size) 0 (.slice aohR n cphR)) HL.out) (grown_set (rb := w1.heap.size) 1 (.slice aohI p cphI)) HL.out
      have hI := gown_apart (gown_apart hI (grown_set (rb := w1.heap.size) 0 (.slice aohR n cphR)) HL.out) (grown_set (rb := w1.heap.size) 1 (.slice aohI p cphI)) HL.out
      have vb := below_set (below_set vb (Nat.le_refl _) 0 (.slice aohR n cphR)) (Nat.le_refl _) 1 (.slice aohI p cphI)
      refine hK.out _ _ (box_two hw1 vb) (fun hHeld => ?_)
      clear hK K
      try simp only [Act.put, lA, lB, lC]
      refine wpAnyH_done (by kernel_rfl) ?_ _
      have HR := hide hR
      have HI := hide hI
      clear hR hI
      go_wp2
      refine bodyPost_ret (v := .agg #[.slice aohR n cphR, .slice aohI p cphI]) (by simp [results, Tryz.results116, go_sem, *]) rfl ⟨_, _, _, _, rfl, ⟨gown_lt HR.out bw.size, gown_lt (by rw [← intF_all]; exact HI.out) bw.size, h.own.byte⟩, gr_trans b01 vb⟩
     exact AllReadyH.nil
    exact AllReadyH.nil
   exact AllReadyH.nil
  exact AllReadyH.nil
 exact AllReadyH.nil

theorem VOwn.below {w w' : World} {base : Nat} {a : Option Addr} {n c : Nat} {o : Option Addr} {p q : Nat} {v : VT} (h : VOwn w base a n c o p q v) (hb : Below w.heap.size w w') : VOwn w' base a n c o p q v :=
 ⟨gown_below h.rows hb, gown_below h.own hb, h.i64⟩

theorem VOwn.lt {w : World} {base base' : Nat} {a : Option Addr} {n c : Nat} {o : Option Addr} {p q : Nat} {v : VT} (h : VOwn w base a n c o p q v) (hle : base' ≤ base) : VOwn w base' a n c o p q v :=
 ⟨gown_lt h.rows hle, gown_lt h.own hle, h.i64⟩

theorem VOwn.set2 {w : World} {base : Nat} {a : Option Addr} {n c : Nat} {o : Option Addr} {p q : Nat} {v : VT} (h : VOwn w base a n c o p q v) {g : Nat} (hg : g < base) (u1 u2 : Value) : VOwn ((w.setCell ⟨g, 0, none⟩ u1).setCell ⟨g, 1, none⟩ u2) base a n c o p q v := by
 have hl : ∀ b, some g = some b → b < base := by intro b hb; cases hb; exact hg
 exact ⟨gown_apart (gown_apart h.rows (grown_set (rb := g) 0 u1) hl) (grown_set (rb := g) 1 u2) hl, gown_apart (gown_apart h.own (grown_set (rb := g) 0 u1) hl) (grown_set (rb := g) 1 u2) hl, h.i64⟩

theorem VOwn.len {w : World} {base : Nat} {a : Option Addr} {n c : Nat} {o : Option Addr} {p q : Nat} {v : VT} (h : VOwn w base a n c o p q v) : v.rows.length = n ∧ v.own.length = p := ⟨h.tab.rows.size, h.tab.own.size⟩

theorem box_ne {w : World} {base k : Nat} {e : TypeId} {v : Value} {n : Nat} {xs : List Value} (h : w.ownsRow base e k v n xs) {X : Nat} {cs : Array Value} {T : TypeId} (hX : w.heap[X]? = some (.cells cs T)) (hne : (e : Nat) ≠ T) : ∀ b, v.ownBlock = some b → b ≠ X := by
 obtain ⟨-, h | ⟨g, cap, cur, rfl, -, hh, -⟩⟩ := h
 ·rw [h.1]; intro b hb; cases hb
 ·intro b hb e
  have : g = b := by simpa [Value.ownBlock] using hb
  subst this e
  rw [hh] at hX
  cases hX
  exact hne rfl

structure BrOwn (w : World) (base : Nat) (a : Option Addr) (n c : Nat) (fa : Option Addr) (fn fc : Nat) (ra : Option Addr) (rn rc : Nat) (oa : Option Addr) (on oc : Nat) (B : BR) : Prop where
 ports : w.ownsRow base 95 8 (.slice a n c) n (ptF.all B.ports)
 f : w.ownsRow base 97 5 (.slice fa fn fc) fn (fentF.all B.f)
 v : VOwn w base ra rn rc oa on oc B.v

theorem BrOwn.row {w : World} {base : Nat} {a : Option Addr} {n c : Nat} {fa : Option Addr} {fn fc : Nat} {ra : Option Addr} {rn rc : Nat} {oa : Option Addr} {on oc : Nat} {B : BR} (h : BrOwn w base a n c fa fn fc ra rn rc oa on oc B) : BrRow w a n c fa fn fc ra rn rc oa on oc B :=
 ⟨grow_own (F := ptF) h.ports, grow_own (F := fentF) h.f, h.v.tab⟩

theorem BrOwn.below {w w' : World} {base : Nat} {a : Option Addr} {n c : Nat} {fa : Option Addr} {fn fc : Nat} {ra : Option Addr} {rn rc : Nat} {oa : Option Addr} {on oc : Nat} {B : BR} (h : BrOwn w base a n c fa fn fc ra rn rc oa on oc B) (hb : Below w.heap.size w w') : BrOwn w' base a n c fa fn fc ra rn rc oa on oc B :=
 ⟨gown_below h.ports hb, gown_below h.f hb, h.v.below hb⟩

theorem BrOwn.lt {w : World} {base base' : Nat} {a : Option Addr} {n c : Nat} {fa : Option Addr} {fn fc : Nat} {ra : Option Addr} {rn rc : Nat} {oa : Option Addr} {on oc : Nat} {B : BR} (h : BrOwn w base a n c fa fn fc ra rn rc oa on oc B) (hle : base' ≤ base) : BrOwn w base' a n c fa fn fc ra rn rc oa on oc B :=
 ⟨gown_lt h.ports hle, gown_lt h.f hle, h.v.lt hle⟩

theorem BrOwn.apart {w w' : World} {base : Nat} {a : Option Addr} {n c : Nat} {fa : Option Addr} {fn fc : Nat} {ra : Option Addr} {rn rc : Nat} {oa : Option Addr} {on oc : Nat} {B : BR} (h : BrOwn w base a n c fa fn fc ra rn rc oa on oc B) {row : Option Nat} (hg : w.grownBy w' row) (hlt : ∀ b, row = some b → b < base) : BrOwn w' base a n c fa fn fc ra rn rc oa on oc B :=
 ⟨gown_apart h.ports hg hlt, gown_apart h.f hg hlt, ⟨gown_apart h.v.rows hg hlt, gown_apart h.v.own hg hlt, h.v.i64⟩⟩

theorem BrOwn.boxed {w : World} {base : Nat} {a : Option Addr} {n c : Nat} {fa : Option Addr} {fn fc : Nat} {ra : Option Addr} {rn rc : Nat} {oa : Option Addr} {on oc : Nat} {B : BR} (h : BrOwn w base a n c fa fn fc ra rn rc oa on oc B) {X : Nat} {cs : Array Value} (hX : w.heap[X]? = some (.cells cs 31)) (j : Nat) (u : Value) : BrOwn (w.setCell ⟨X, j, none⟩ u) base a n c fa fn fc ra rn rc oa on oc B :=
 ⟨gown_other h.ports (grown_set (rb := X) j u) (box_ne h.ports hX (by decide)), gown_other h.f (grown_set (rb := X) j u) (box_ne h.f hX (by decide)),
  ⟨gown_other h.v.rows (grown_set (rb := X) j u) (box_ne h.v.rows hX (by decide)), gown_other h.v.own (grown_set (rb := X) j u) (box_ne h.v.own hX (by decide)), h.v.i64⟩⟩

theorem BrOwn.newPorts {w w' : World} {base : Nat} {a : Option Addr} {n c : Nat} {fa : Option Addr} {fn fc : Nat} {ra : Option Addr} {rn rc : Nat} {oa : Option Addr} {on oc : Nat} {B : BR} (h : BrOwn w base a n c fa fn fc ra rn rc oa on oc B) (hg : w.grownBy w' (Value.slice a n c).ownBlock) {a' : Option Addr} {n' c' : Nat} {l : List PT} (hp : w'.ownsRow base 95 8 (.slice a' n' c') n' (ptF.all l)) :
  BrOwn w' base a' n' c' fa fn fc ra rn rc oa on oc { B with ports := l } :=
 ⟨hp, gown_type h.f h.ports (by decide) hg, ⟨gown_type h.v.rows h.ports (by decide) hg, gown_type h.v.own h.ports (by decide) hg, h.v.i64⟩⟩

theorem BrOwn.newF {w w' : World} {base : Nat} {a : Option Addr} {n c : Nat} {fa : Option Addr} {fn fc : Nat} {ra : Option Addr} {rn rc : Nat} {oa : Option Addr} {on oc : Nat} {B : BR} (h : BrOwn w base a n c fa fn fc ra rn rc oa on oc B) (hg : w.grownBy w' (Value.slice fa fn fc).ownBlock) {fa' : Option Addr} {fn' fc' : Nat} {l : List FE} (hp : w'.ownsRow base 97 5 (.slice fa' fn' fc') fn' (fentF.all l)) :
  BrOwn w' base a n c fa' fn' fc' ra rn rc oa on oc { B with f := l } :=
 ⟨gown_type h.ports h.f (by decide) hg, hp, ⟨gown_type h.v.rows h.f (by decide) hg, gown_type h.v.own h.f (by decide) hg, h.v.i64⟩⟩

theorem BrOwn.putF {w w' : World} {base : Nat} {a : Option Addr} {n c : Nat} {fa : Option Addr} {fn fc : Nat} {ra : Option Addr} {rn rc : Nat} {oa : Option Addr} {on oc : Nat} {B : BR} (h : BrOwn w base a n c fa fn fc ra rn rc oa on oc B) (hb : Below w.heap.size w w') {fa' : Option Addr} {fn' fc' : Nat} {l : List FE} (hp : w'.ownsRow base 97 5 (.slice fa' fn' fc') fn' (fentF.all l)) : BrOwn w' base a n c fa' fn' fc' ra rn rc oa on oc { B with f := l } :=
 ⟨(h.below hb).ports, hp, (h.below hb).v⟩

theorem box11 {w : World} {g : Nat} {cs : Array Value} {T : TypeId} (h : w.heap[g]? = some (.cells cs T)) (j : Nat) (u : Value) : (w.setCell ⟨g, j, none⟩ u).heap[g]? = some (.cells (cs.setIfInBounds j u) T) := set_block5 (j := j) h u

theorem ok_bounds {B : BR} (h : bridgeOk B = true) : B.ports.length ≤ 6 ∧ 0 ≤ B.vers ∧ B.vers ≤ 1000000 ∧ 0 ≤ B.ticks ∧ B.ticks ≤ 1000000 := by
 obtain ⟨-, -, -, h4, -, -, h7, -, -, -, h11⟩ := bridgeOk_parts h
 rw [in1m_iff] at h7 h11
 unfold in3 at h4
 simp at h4
 omega

theorem there_at {B : BR} {n : Nat} {port : Int} (hn : B.ports.length = n) (h : thereB B port = true) : ∃ k : Nat, port = (k : Int) ∧ k < n ∧ ∃ x, B.ports[k]? = some x := by
 unfold thereB at h
 simp only [Bool.and_eq_true, decide_eq_true_eq] at h
 obtain ⟨-, h0, h1⟩ := h
 refine ⟨port.toNat, by omega, by omega, B.ports[port.toNat]'(by omega), List.getElem?_eq_getElem (by omega)⟩

set_option maxRecDepth 100000 in
set_option maxHeartbeats 1000000 in
theorem specEgress_any (a : Option Addr) (n c : Nat) (o : Option Addr) (p q : Nat) (v : VT) (id : Int) (w : World) (h : GRow vrowF w a n c v.rows) :
  Calls Tryz.prog 56 #[.agg #[.slice a n c, .slice o p q], .int .i64 id] w fun r w' => r = .returned (.int .i64 (egressOf v id)) ∧ Below w.heap.size w w' := by
 have hle := h.le
 have htop := h.top
 unfold maxLen at htop
 have hsz := hide h.size
 generalize hw1 : w.alloc (Obj.cells #[Value.slice a n c, Value.slice o p q] 29) = w1
 have q0 : Below w.heap.size w w1 := by subst hw1; exact below_one _ _
 obtain ⟨x0, x1⟩ := box_two hw1 (Below.refl _ w1)
 cases hr : rowIdx v.rows id with
 | none =>
  rw [show egressOf v id = 0 by unfold egressOf; rw [rowIdx_find hr]]
  have HA : Hid (rowAt v.rows id = -1) := hide (by unfold rowAt; rw [hr])
  clear hr
  go_enter Tryz.func56, Tryz.ntmps56
  go_wp2_with fail
  refine (specRowAt_any a n c v.rows o p q id _ (h.below q0)).mono ?_
  rintro r w2 ⟨rfl, hb2⟩
  rw [HA.out]
  have HB := hide (gr_trans q0 hb2)
  clear hb2 x0 x1
  go_wp2
  go_ret
  exact ⟨rfl, HB.out⟩
 | some k =>
  obtain ⟨x, hx, -, hf⟩ := rowIdx_some hr
  rw [show egressOf v id = x.m by unfold egressOf; rw [hf]]
  have HA : Hid (rowAt v.rows id = (k : Int)) := hide (by unfold rowAt; rw [hr])
  have hkn : k < n := by have := (List.getElem?_eq_some_iff.1 hx).1; have := hsz.out; omega
  have hneg : ¬ ((k : Int) < 0) := by omega
  have i1 : (0 : Int) ≤ (k : Int) := by omega
  have i2 : (k : Int) < (n : Int) := by omega
  clear hr hf
  go_enter Tryz.func56, Tryz.ntmps56
  go_wp2_with fail
  refine (specRowAt_any a n c v.rows o p q id _ (h.below q0)).mono ?_
  rintro r w2 ⟨rfl, hb2⟩
  rw [HA.out]
  obtain ⟨y, b, off, hy, rfl, c0, c1, c2⟩ := vrow_at (h.below (gr_trans q0 hb2)) k hkn
  rw [hx] at hy
  cases hy
  obtain ⟨y0, y1⟩ := box_two hw1 hb2
  have HB := hide (gr_trans q0 hb2)
  clear hb2 x0 x1 hx
  go_wp2
  go_ret
  exact ⟨rfl, HB.out⟩

structure Between (B E : Nat) (w w' : World) : Prop where
 below : Below B w w'
 block : ∀ i, i < w.heap.size → E ≤ i → w'.heap[i]? = w.heap[i]?

theorem Between.of_below {B E : Nat} {w w' : World} (h : Below w.heap.size w w') (hB : B ≤ w.heap.size) : Between B E w w' := ⟨h.mono hB, fun i hi _ => h.block i hi⟩

theorem Between.of_grown {B E : Nat} {w w' : World} {row : Option Nat} (h : w.grownBy w' row) (hB : B ≤ w.heap.size) (hr : ∀ k, row = some k → B ≤ k ∧ k < E) : Between B E w w' :=
 ⟨(Below.refl _ _).grown h hB (fun k hk => (hr k hk).1), fun i hi hE => h.block i hi (fun e => by have := hr i e.symm; omega)⟩

theorem Between.trans {B E : Nat} {w w1 w2 : World} (h : Between B E w w1) (k : Between B E w1 w2) : Between B E w w2 :=
 ⟨h.below.trans k.below, fun i hi hE => (k.block i (Nat.lt_of_lt_of_le hi h.below.size) hE).trans (h.block i hi hE)⟩

theorem Between.own {B E : Nat} {w w' : World} (h : Between B E w w') {base k : Nat} {e : TypeId} {v : Value} {n : Nat} {xs : List Value} (ho : w.ownsRow base e k v n xs) (hE : E ≤ base) : w'.ownsRow base e k v n xs := by
 have hlt := ho.lt
 obtain ⟨hl, ho | ⟨g, cap, cur, rfl, hg, hh, h1, h2, h3, h4⟩⟩ := ho
 ·exact ⟨hl, .inl ho⟩
 ·refine ⟨hl, .inr ⟨g, cap, cur, rfl, hg, ?_, h1, h2, h3, h4⟩⟩
  rw [h.block g (hlt g rfl).2 (by omega)]
  exact hh

theorem VOwn.between {w w' : World} {base : Nat} {a : Option Addr} {n c : Nat} {o : Option Addr} {p q : Nat} {v : VT} (h : VOwn w base a n c o p q v) {B E : Nat} (hb : Between B E w w') (hE : E ≤ base) : VOwn w' base a n c o p q v :=
 ⟨hb.own h.rows hE, hb.own h.own hE, h.i64⟩

set_option maxRecDepth 100000 in
set_option maxHeartbeats 1000000 in
theorem toVtab_made (a : Option Addr) (n c : Nat) (o : Option Addr) (p q : Nat) (v : VT) (w : World) (h : VTab w a n c o p q v) (hn : n ≤ 1048576) (hp : p ≤ 1048576) :
  Calls Tryz.prog 81 #[.agg #[.slice a n c, .slice o p q]] w fun e w' => ∃ a' c' o' q', e = .returned (.agg #[.slice a' n c', .slice o' p q']) ∧ VOwn w' w.heap.size a' n c' o' p q' v ∧ Below w.heap.size w w' := by
 generalize hw1 : w.alloc (Obj.cells #[Value.slice a n c, Value.slice o p q] 58) = w1
 generalize hw2 : w1.alloc (Obj.cells #[Value.slice none 0 0, Value.slice none 0 0] 29) = w2
 generalize hw3 : w2.alloc (Obj.cells #[Value.slice none 0 0, Value.slice none 0 0] 29) = w3
 have b01 : Below w.heap.size w w1 := by subst hw1; exact below_one _ _
 have b12 : Below w1.heap.size w1 w2 := by subst hw2; exact below_one _ _
 have b23 : Below w2.heap.size w2 w3 := by subst hw3; exact below_one _ _
 have b02 := gr_trans b01 b12
 have b03 := gr_trans b02 b23
 have b13 := gr_trans b12 b23
 have k1 : w2.heap[w1.heap.size]? = some (.cells #[.slice none 0 0, .slice none 0 0] 29) := by rw [← hw2]; exact block_last _ _
 have k2 : w3.heap[w2.heap.size]? = some (.cells #[.slice none 0 0, .slice none 0 0] 29) := by rw [← hw3]; exact block_last _ _
 have z2 : w1.heap.size < w2.heap.size := by rw [← hw2]; simp
 have z3 : w2.heap.size < w3.heap.size := by rw [← hw3]; simp
 have Z2 := hide z2
 have Z3 := hide z3
 clear z2 z3
 obtain ⟨x0, x1⟩ := box_two hw1 b13
 go_enter Tryz.func81, Tryz.ntmps81
 go_wp2_with fail
 refine (toVrows_made a n c v.rows _ (h.rows.below b03) hn).mono ?_
 rintro e w4 ⟨a4, c4, rfl, hR, -, hb4⟩
 have k4 := kept_block k2 hb4
 obtain ⟨⟨g0, g1⟩, f0, f1⟩ := cells2 k4
 generalize hw5 : w4.setCell ⟨w2.heap.size, 0, none⟩ (.slice a4 n c4) = w5
 have b45 : Below w2.heap.size w4 w5 := by subst hw5; exact below_set (Below.refl _ _) (Nat.le_refl _) _ _
 have b25 : Below w2.heap.size w2 w5 := (gr_trans b23 hb4).trans b45
 have b15 := gr_trans b12 b25
 have b05 := gr_trans b02 b25
 have hR5 : w5.ownsRow w3.heap.size 100 3 (.slice a4 n c4) n (vrowF.all v.rows) := by
  rw [← hw5]
  exact gown_apart hR (grown_set (rb := w2.heap.size) 0 _) (by intro b hb; cases hb; exact Z3.out)
 have k5 : w5.heap[w2.heap.size]? = some (.cells #[.slice a4 n c4, .slice none 0 0] 29) := by
  have := set_block5 (j := 0) k4 (.slice a4 n c4)
  rw [hw5] at this
  exact this
 have s35 : Hid (w3.heap.size ≤ w5.heap.size) := hide (by have := hb4.size; have := b45.size; omega)
 obtain ⟨y0, y1⟩ := box_two hw1 b15
 clear hR x0 x1
 go_wp2_with fail
 clear g0 g1 f0 f1
 refine (copyI_made o p q v.own _ (h.own.below b05) (by omega)).mono ?_
 rintro e w6 ⟨a6, c6, rfl, hI, -, hb6⟩
 have k6 := kept_block k5 hb6
 obtain ⟨⟨g0, g1⟩, f0, f1⟩ := cells2 k6
 generalize hw7 : w6.setCell ⟨w2.heap.size, 1, none⟩ (.slice a6 p c6) = w7
 have b67 : Below w2.heap.size w6 w7 := by subst hw7; exact below_set (Below.refl _ _) (Nat.le_refl _) _ _
 have b27 : Below w2.heap.size w2 w7 := (b25.trans (hb6.mono b25.size)).trans b67
 have b07 := gr_trans b02 b27
 have hR7 : w7.ownsRow w3.heap.size 100 3 (.slice a4 n c4) n (vrowF.all v.rows) := by
  rw [← hw7]
  exact gown_apart (gown_below hR5 hb6) (grown_set (rb := w2.heap.size) 1 _) (by intro b hb; cases hb; exact Z3.out)
 have hI7 : w7.ownsRow w3.heap.size 3 1 (.slice a6 p c6) p (cI v.own) := by
  rw [← hw7]
  exact gown_apart (gown_lt hI s35.out) (grown_set (rb := w2.heap.size) 1 _) (by intro b hb; cases hb; exact Z3.out)
 have k7 : w7.heap[w2.heap.size]? = some (.cells #[.slice a4 n c4, .slice a6 p c6] 29) := by
  have := set_block5 (j := 1) k6 (.slice a6 p c6)
  rw [hw7] at this
  exact this
 have k71 := kept_block k1 b27
 clear hI hR5 y0 y1
 obtain ⟨⟨u0, u1⟩, -⟩ := cells2 k7
 obtain ⟨⟨t0, t1⟩, e0, e1⟩ := cells2 k71
 have hV : VOwn w7 w3.heap.size a4 n c4 a6 p c6 v := ⟨hR7, hI7, h.own.byte⟩
 have HO := hide ((hV.set2 (g := w1.heap.size) (Nat.lt_trans Z2.out Z3.out) (.slice a4 n c4) (.slice a6 p c6)).lt (base' := w.heap.size) b03.size)
 have HB := hide (below_set (below_set b07 b01.size 0 (.slice a4 n c4)) b01.size 1 (.slice a6 p c6))
 clear hV hR7 hI7
 go_wp2
 exact bodyPost_ret (v := .agg #[.slice a4 n c4, .slice a6 p c6]) (by simp [results, Tryz.results81, go_sem, *]) rfl ⟨_, _, _, _, rfl, HO.out, HB.out⟩

set_option maxRecDepth 100000 in
set_option maxHeartbeats 1000000 in
theorem eqVtab_same (a : Option Addr) (n c : Nat) (o : Option Addr) (p q : Nat) (a2 : Option Addr) (n2 c2 : Nat) (o2 : Option Addr) (p2 q2 : Nat) (v : VT) (w : World) (h : VTab w a n c o p q v) (h2 : VTab w a2 n2 c2 o2 p2 q2 v) :
  Calls Tryz.prog 85 #[.agg #[.slice a n c, .slice o p q], .agg #[.slice a2 n2 c2, .slice o2 p2 q2]] w fun e w' => e = .returned (.bool true) ∧ Below w.heap.size w w' := by
 generalize hw1 : w.alloc (Obj.cells #[Value.slice a n c, Value.slice o p q] 29) = w1
 generalize hw2 : w1.alloc (Obj.cells #[Value.slice a2 n2 c2, Value.slice o2 p2 q2] 29) = w2
 have b01 : Below w.heap.size w w1 := by subst hw1; exact below_one _ _
 have b12 : Below w1.heap.size w1 w2 := by subst hw2; exact below_one _ _
 have b02 := gr_trans b01 b12
 obtain ⟨x0, x1⟩ := box_two hw1 b12
 obtain ⟨x2, x3⟩ := box_two hw2 (Below.refl _ w2)
 go_enter Tryz.func85, Tryz.ntmps85
 go_wp2_with fail
 refine (eqVrows_same a n c a2 n2 c2 v.rows _ (h.rows.below b02) (h2.rows.below b02)).mono ?_
 rintro e w3 ⟨rfl, hb3⟩
 obtain ⟨y0, y1⟩ := box_two hw1 (gr_trans b12 hb3)
 obtain ⟨y2, y3⟩ := box_two hw2 hb3
 have b03 := gr_trans b02 hb3
 clear x0 x1 x2 x3
 go_wp2_with fail
 refine (eqI_same o p q o2 p2 q2 v.own _ (h.own.below b03) (h2.own.below b03)).mono ?_
 rintro e w4 ⟨rfl, m, rfl⟩
 have HB := hide (gr_drewN b03 m)
 clear y0 y1 y2 y3
 go_wp2
 go_ret
 exact ⟨rfl, HB.out⟩

set_option maxRecDepth 100000 in
set_option maxHeartbeats 1000000 in
theorem szVtab_from (L : Int) (hL0 : 0 ≤ L) (hL1 : L ≤ 1048576) (a : Option Addr) (n c : Nat) (o : Option Addr) (p q : Nat) (w : World) (hl : n ≤ maxLen) (hl2 : p ≤ maxLen) :
  Calls Tryz.prog 77 #[.agg #[.slice a n c, .slice o p q], .int .i64 L] w fun e w' => e = .returned (.int .i64 (if (n : Int) + (p : Int) ≤ L then L - n - p else -1)) ∧ Below w.heap.size w w' := by
 generalize hw1 : w.alloc (Obj.cells #[Value.slice a n c, Value.slice o p q] 58) = w1
 have b01 : Below w.heap.size w w1 := by subst hw1; exact below_one _ _
 obtain ⟨x0, x1⟩ := box_two hw1 (Below.refl _ w1)
 generalize hV : (if (n : Int) + (p : Int) ≤ L then L - n - p else -1) = V
 have HV := hide hV
 clear hV
 go_enter Tryz.func77, Tryz.ntmps77
 go_wp2_with fail
 refine (szVrows_any a n c L _ hl (by omega) (by omega)).mono ?_
 rintro e w2 ⟨rfl, e2⟩
 obtain rfl := e2.symm
 by_cases h1 : (n : Int) ≤ L
 ·rw [if_pos h1]
  have j1 : ¬ (L - (n : Int) < 0) := by omega
  go_wp2_with fail
  refine (szInts9_any o p q (L - n) _ hl2 (by omega) (by omega)).mono ?_
  rintro e w2 ⟨rfl, e2⟩
  obtain rfl := e2.symm
  by_cases h2 : (p : Int) ≤ L - n
  ·rw [if_pos h2]
   have j2 : ¬ (L - (n : Int) - (p : Int) < 0) := by omega
   have HE : Hid (V = L - n - p) := hide (by rw [← HV.out, if_pos (by omega)])
   go_wp2
   go_ret
   exact ⟨(by rw [HE.out]; rfl), b01⟩
  ·rw [if_neg h2]
   have HE : Hid (V = -1) := hide (by rw [← HV.out, if_neg (by omega)])
   go_wp2
   go_ret
   exact ⟨(by rw [HE.out]; rfl), b01⟩
 ·rw [if_neg h1]
  have HE : Hid (V = -1) := hide (by rw [← HV.out, if_neg (by omega)])
  go_wp2
  go_ret
  exact ⟨(by rw [HE.out]; rfl), b01⟩

def markT (k : Int) (n p : Nat) : VT := ⟨markRs k n, marksI (k + 3 * n) p⟩

set_option maxRecDepth 100000 in
set_option maxHeartbeats 1000000 in
theorem markVtab_from (K : Int) (hK0 : 0 ≤ K) (hK1 : K ≤ 549755813888) (B E : Nat) (a : Option Addr) (n c : Nat) (o : Option Addr) (p q : Nat) (v : VT) (w : World) (h : VOwn w B a n c o p q v) (hB : B ≤ w.heap.size) (hE1 : ∀ k, (Value.slice a n c).ownBlock = some k → k < E) (hE2 : ∀ k, (Value.slice o p q).ownBlock = some k → k < E) (hn : n ≤ 16777216) (hp : p ≤ 16777216) :
  Calls Tryz.prog 90 #[.agg #[.slice a n c, .slice o p q], .int .i64 K] w fun e w' => e = .returned (.int .i64 (K + 3 * n + p)) ∧ VOwn w' B a n c o p q (markT K n p) ∧ Between B E w w' ∧ (∀ (b2 k2 : Nat) (e2 : TypeId) (v2 : Value) (n2 : Nat) (xs2 : List Value), w.ownsRow b2 e2 k2 v2 n2 xs2 → (e2 : Nat) ≠ 100 → (e2 : Nat) ≠ 3 → w'.ownsRow b2 e2 k2 v2 n2 xs2) := by
 have l1 := h.rows.lt
 have l2 := h.own.lt
 generalize hw1 : w.alloc (Obj.cells #[Value.slice a n c, Value.slice o p q] 29) = w1
 have b01 : Below w.heap.size w w1 := by subst hw1; exact below_one _ _
 have kb : w1.heap[w.heap.size]? = some (.cells #[.slice a n c, .slice o p q] 29) := by rw [← hw1]; exact block_last _ _
 obtain ⟨⟨x0, x1⟩, -⟩ := cells2 kb
 have h1 := h.below b01
 have bt1 : Between B E w w1 := Between.of_below b01 hB
 go_enter Tryz.func90, Tryz.ntmps90
 go_wp2_with fail
 refine (markVrows_grown B a n c v.rows K _ h1.rows hn (by omega) (by omega)).mono ?_
 rintro e w2 ⟨rfl, hR, hg⟩
 have bt2 := bt1.trans (Between.of_grown hg (Nat.le_trans hB b01.size) (fun k hk => ⟨(l1 k hk).1, hE1 k hk⟩))
 have hI := gown_type h1.own h1.rows (by decide) hg
 have kb2 := kept_grown kb hg (fun k hk => by have := (l1 k hk).2; omega)
 obtain ⟨⟨y0, y1⟩, -⟩ := cells2 kb2
 have hg2 := hg
 clear x0 x1 hg
 go_wp2_with fail
 refine (markI_grown B o p q v.own (K + 3 * n) _ hI hp (by omega) (by omega)).mono ?_
 rintro e w3 ⟨rfl, hI3, hg⟩
 have bt3 := bt2.trans (Between.of_grown hg (Nat.le_trans hB bt2.below.size) (fun k hk => ⟨(l2 k hk).1, hE2 k hk⟩))
 have hR3 := gown_type hR hI (by decide) hg
 have HO : Hid (VOwn w3 B a n c o p q (markT K n p)) := hide ⟨hR3, hI3, marksI_byte _ _ (by omega) (by omega) hp⟩
 have HT := hide bt3
 have HK : Hid ((∀ (b2 k2 : Nat) (e2 : TypeId) (v2 : Value) (n2 : Nat) (xs2 : List Value), w.ownsRow b2 e2 k2 v2 n2 xs2 → (e2 : Nat) ≠ 100 → (e2 : Nat) ≠ 3 → w3.ownsRow b2 e2 k2 v2 n2 xs2)) := hide (fun b2 k2 e2 v2 n2 xs2 ho hn1 hn2 => gown_type (gown_type (gown_below ho b01) h1.rows hn1 hg2) hI hn2 hg)
 clear hR hI hR3 hI3 hg hg2 y0 y1 bt2 bt3
 go_wp2
 go_ret
 exact ⟨rfl, HO.out, HT.out, HK.out⟩

set_option maxRecDepth 100000 in
set_option maxHeartbeats 1000000 in
theorem heldVtab_from (K : Int) (hK0 : 0 ≤ K) (hK1 : K ≤ 549755813888) (a : Option Addr) (n c : Nat) (o : Option Addr) (p q : Nat) (w : World) (h : VTab w a n c o p q (markT K n p)) (hn : n ≤ 16777216) (hp : p ≤ 16777216) :
  Calls Tryz.prog 94 #[.agg #[.slice a n c, .slice o p q], .int .i64 K] w fun e w' => e = .returned (.int .i64 (K + 3 * n + p)) ∧ Below w.heap.size w w' := by
 generalize hw1 : w.alloc (Obj.cells #[Value.slice a n c, Value.slice o p q] 29) = w1
 have b01 : Below w.heap.size w w1 := by subst hw1; exact below_one _ _
 obtain ⟨x0, x1⟩ := box_two hw1 (Below.refl _ w1)
 have j1 : ¬ (K + 3 * (n : Int) < 0) := by omega
 have j2 : ¬ (K + 3 * (n : Int) + (p : Int) < 0) := by omega
 go_enter Tryz.func94, Tryz.ntmps94
 go_wp2_with fail
 refine (heldVrows_any a n c K _ (h.rows.below b01) hn (by omega) (by omega)).mono ?_
 rintro e w2 ⟨rfl, hb2⟩
 obtain ⟨y0, y1⟩ := box_two hw1 hb2
 have b02 := gr_trans b01 hb2
 clear x0 x1 hb2
 go_wp2_with fail
 refine (heldI_any o p q (K + 3 * n) _ (h.own.below b02) hp (by omega) (by omega)).mono ?_
 rintro e w3 ⟨rfl, e3⟩
 obtain rfl := e3.symm
 have HB := hide b02
 clear y0 y1 b02
 go_wp2
 go_ret
 exact ⟨rfl, HB.out⟩

theorem atF_found {l : List FE} {t m : Int} {k : Nat} {x : FE} (h : ∀ i y, i < k → l[i]? = some y → both y t m = false) (hx : l[k]? = some x) (hb : both x t m = true) : atF l t m = k := by
 have hk := (List.getElem?_eq_some_iff.1 hx).1
 have : l.findIdx? (fun e => both e t m) = some k := by
  rw [List.findIdx?_eq_some_iff_getElem]
  refine ⟨hk, ?_, fun j hj => ?_⟩
  ·rw [List.getElem?_eq_getElem hk] at hx
   cases hx
   exact hb
  ·have := h j l[j] hj (List.getElem?_eq_getElem (by omega))
   simp [this]
 unfold atF
 rw [this]

theorem atF_none {l : List FE} {t m : Int} (h : ∀ i y, i < l.length → l[i]? = some y → both y t m = false) : atF l t m = -1 := by
 have : l.findIdx? (fun e => both e t m) = none := by
  rw [List.findIdx?_eq_none_iff]
  intro x hx
  obtain ⟨i, hi, rfl⟩ := List.getElem_of_mem hx
  exact h i _ hi (List.getElem?_eq_getElem hi)
 unfold atF
 rw [this]

theorem no_next {l : List FE} {t m : Int} {k : Nat} {x : FE} (h : ∀ j y, j < k → l[j]? = some y → both y t m = false) (hx : l[k]? = some x) (hb : both x t m = false) : ∀ j y, j < k + 1 → l[j]? = some y → both y t m = false := by
 intro j y hj hy
 by_cases e : j = k
 ·subst e
  rw [hx] at hy
  cases hy
  exact hb
 ·exact h j y (by omega) hy

set_option maxRecDepth 100000 in
set_option maxHeartbeats 2000000 in
theorem specAt_any (ao : Option Addr) (n cap : Nat) (l : List FE) (t m : Int) (w : World) (h : GRow fentF w ao n cap l) :
  Calls Tryz.prog 120 #[.slice ao n cap, .int .i64 t, .int .i64 m] w fun r w' => r = .returned (.int .i64 (atF l t m)) ∧ w' = w := by
 have hle := h.le
 have htop := h.top
 unfold maxLen at htop
 have hsz := h.size
 go_enter Tryz.func120, Tryz.ntmps120
 go_wp2
 go_loop [7] (fun i => ∃ k : Nat, k ≤ n ∧ i = .int .i64 k ∧ ∀ j y, j < k → l[j]? = some y → both y t m = false) (fun i => n - (intOf i).toNat)
 case atStart => exact ⟨0, Nat.zero_le _, rfl, fun j y hj => by omega⟩
 case round =>
  obtain ⟨k, hk, rfl, hno⟩ := hrel
  by_cases hlt : k < n
  ·obtain ⟨x, b, off, hx, rfl, c0, c1, -⟩ := fent_at h k hlt
   cases t1 : (x.t == t)
   ·have HO := hide (no_next hno hx (by unfold both; rw [t1]; rfl))
    clear hno
    go_wp2
    go_round
    case rel => exact ⟨k + 1, by omega, by go_num, HO.out⟩
    case measure => simp [intOf]; omega
   ·cases t2 : (x.m == m)
    ·have HO := hide (no_next hno hx (by unfold both; rw [t1, t2]; rfl))
     clear hno
     go_wp2
     go_round
     case rel => exact ⟨k + 1, by omega, by go_num, HO.out⟩
     case measure => simp [intOf]; omega
    ·have HF := hide (atF_found hno hx (by unfold both; rw [t1, t2]; rfl))
     clear hno
     go_wp2
     go_ret
     exact ⟨(by rw [HF.out]; rfl), rfl⟩
  ·have hkn : k = n := by omega
   have HF := hide (atF_none (l := l) (t := t) (m := m) (fun i y hi hy => hno i y (by omega) hy))
   clear hno
   subst hkn
   go_wp2
   go_ret
   exact ⟨(by rw [HF.out]; rfl), rfl⟩

theorem fentInfo : (Tryz.prog.info? 97).map (fun i => (i.zero, i.size, i.bytes)) = some (some (.agg #[.int .i64 0, .int .i64 0, .int .i64 0, .int .i64 0, .bool false]), fentF.k, 40) := by kernel_rfl

theorem fent_append (w : World) {ops : Array Oper} {rest : List Oper} {o : Oper} {a : Act} {Q : Exit → Act → World → Prop} (hgd : o.guard = none)
  (s x : Operand) (ho : o.op = Op.call { callee := Callee.builtin Builtin.append, args := #[s, x], argTypes := #[25, 25] }) (base : Nat)
  (v : Value) (n : Nat) (xs : List FE) (hs : a.eval s = v) (hown : w.ownsRow base 97 5 v n (fentF.all xs)) (ao : Option Addr) (m c : Nat) (zs : List FE)
  (hx : a.eval x = .slice ao m c) (hrow : GRow fentF w ao m c zs) (hsm : n + m ≤ 137438953472) (hbase : base ≤ w.heap.size)
  (h : ∀ ao' cap' w', w'.ownsRow base 97 5 (.slice ao' (n + m) cap') (n + m) (fentF.all (xs ++ zs)) → GRow fentF w' ao' (n + m) cap' (xs ++ zs) → w.grownBy w' v.ownBlock → Below base w w' → wpList Tryz.prog ops Q rest (a.put o.dst (.slice ao' (n + m) cap')) w') :
  wpList Tryz.prog ops Q (o :: rest) a w :=
 wpList_append_flat (F := fentF) w hgd s x 25 97 ho base Tryz.underlying25 fentInfo rfl (by decide) v n xs hs hown ao m c zs hx hrow hsm hbase h

theorem kept_base {w w' : World} {B i : Nat} {o : Obj} (h : w.heap[i]? = some o) (hb : Below B w w') (hi : i < B) : w'.heap[i]? = some o := by rw [hb.block i hi]; exact h

set_option maxRecDepth 100000 in
set_option maxHeartbeats 1000000 in
theorem specCopyF_any (ao : Option Addr) (n cap : Nat) (l : List FE) (w : World) (h : GRow fentF w ao n cap l) (hn : n ≤ 16777216) :
  Calls Tryz.prog 115 #[.slice ao n cap] w fun r w' => ∃ ao' cap', r = .returned (.slice ao' n cap') ∧ w'.ownsRow w.heap.size 97 5 (.slice ao' n cap') n (fentF.all l) ∧ GRow fentF w' ao' n cap' l ∧ Below w.heap.size w w' := by
 go_enter Tryz.func115, Tryz.ntmps115
 go_wp2_with (at_builtin; refine fent_append _ rfl _ _ rfl w.heap.size _ 0 [] rfl (flat_nil fentF w _ 97 w.heap.size (block_last w _) (Nat.le_refl _)) ao n cap l rfl (h.below (below_one _ _)) (by omega) (by simp) ?_)
 intro ao' cap' w' how hr hgr hb
 have how : w'.ownsRow w.heap.size 97 5 (.slice ao' n cap') n (fentF.all l) := by simpa using how
 have hr : GRow fentF w' ao' n cap' l := by simpa using hr
 have HO := hide how
 have HB := hide ((below_one w _).trans hb)
 clear how hgr hb
 go_wp2
 go_ret
 exact ⟨ao', cap', (by simp), HO.out, hr, HB.out⟩

theorem putGo_yes {e x : FE} {zs r : List FE} (ha : ahead x e.t e.m = false) (hb : both x e.t e.m = false) : (zs ++ [e]) ++ [x] ++ putGo e true r = zs ++ putGo e false (x :: r) := by
 rw [show putGo e false (x :: r) = e :: x :: putGo e true r by simp [putGo, ha, hb]]
 simp
theorem putGo_same {e x : FE} {zs r : List FE} (ha : ahead x e.t e.m = false) (hb : both x e.t e.m = true) : (zs ++ [e]) ++ putGo e true r = zs ++ putGo e false (x :: r) := by
 rw [show putGo e false (x :: r) = e :: putGo e true r by simp [putGo, ha, hb]]
 simp
theorem putGo_keep {e x : FE} {d : Bool} {zs r : List FE} (ha : d = true ∨ ahead x e.t e.m = true) (hb : both x e.t e.m = false) : zs ++ [x] ++ putGo e d r = zs ++ putGo e d (x :: r) := by
 have : (!d && !ahead x e.t e.m) = false := by rcases ha with h | h <;> simp [h]
 rw [show putGo e d (x :: r) = x :: putGo e d r by rw [putGo, this, hb]; rfl]
 simp
theorem putGo_drop {e x : FE} {d : Bool} {zs r : List FE} (ha : d = true ∨ ahead x e.t e.m = true) (hb : both x e.t e.m = true) : zs ++ putGo e d r = zs ++ putGo e d (x :: r) := by
 have : (!d && !ahead x e.t e.m) = false := by rcases ha with h | h <;> simp [h]
 rw [show putGo e d (x :: r) = putGo e d r by rw [putGo, this, hb]; rfl]

theorem drop_at8 {l : List FE} {k : Nat} {x : FE} (h : l[k]? = some x) : l.drop k = x :: l.drop (k + 1) := by
 have hk := (List.getElem?_eq_some_iff.1 h).1
 rw [List.drop_eq_getElem_cons hk]
 rw [List.getElem?_eq_getElem hk] at h
 cases h
 rfl

set_option maxRecDepth 100000 in
set_option maxHeartbeats 1000000 in
theorem clone_any (ao : Option Addr) (n cap : Nat) (l : List FE) (w : World) (h : GRow fentF w ao n cap l) (hn : n ≤ 16777216) :
  Calls Tryz.prog 107 #[.slice ao n cap] w fun r w' => ∃ ao' cap', r = .returned (.slice ao' n cap') ∧ w'.ownsRow w.heap.size 97 5 (.slice ao' n cap') n (fentF.all l) ∧ GRow fentF w' ao' n cap' l ∧ Below w.heap.size w w' := by
 cases ao with
 | none =>
  have hc0 := h.nil rfl
  have hn0 : n = 0 := by have := h.le; omega
  subst hc0 hn0
  have hl : l = [] := List.eq_nil_of_length_eq_zero h.size
  subst hl
  have heq : ∀ W, (binOp .eql 25 (.slice none 0 0) (.slice none 0 0)).run Tryz.prog W = .ok (.bool true) W := fun _ => by kernel_rfl
  go_enter Tryz.func107, Tryz.ntmps107
  go_wp2
  go_ret
  exact ⟨none, 0, rfl, World.ownsRow_nil _ _ _ _, grow_nil _ _, Below.refl _ _⟩
 | some a =>
  have heq : ∀ W, (binOp .eql 25 (.slice (some a) n cap) (.slice none 0 0)).run Tryz.prog W = .ok (.bool false) W := fun _ => by kernel_rfl
  go_enter Tryz.func107, Tryz.ntmps107
  go_wp2_with (at_builtin; refine fent_append _ rfl _ _ rfl w.heap.size _ 0 [] rfl (flat_nil fentF w _ 97 w.heap.size (block_last w _) (Nat.le_refl _)) (some a) n cap l rfl (h.below (below_one _ _)) (by omega) (by simp) ?_)
  intro ao' cap' w' how hr hgr hb
  have how : w'.ownsRow w.heap.size 97 5 (.slice ao' n cap') n (fentF.all l) := by simpa using how
  have hr : GRow fentF w' ao' n cap' l := by simpa using hr
  have HO := hide how
  have HB := hide ((below_one w _).trans hb)
  clear how hgr hb
  go_wp2
  go_ret
  exact ⟨ao', cap', (by simp), HO.out, hr, HB.out⟩

end Go.Proofs.YtddalpglihhipaaGreat
