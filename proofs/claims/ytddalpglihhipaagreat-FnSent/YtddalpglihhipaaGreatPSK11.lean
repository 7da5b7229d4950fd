/-
  Packed: VtabCopy VtabOr VtabSet VtabRowM BrOwn BrPorts VtabEgress VtabNewS VtabDropM.
-/
import Derived.Test.YtddalpglihhipaaGreatPSKW
import Derived.Test.YtddalpglihhipaaGreatPSK01
import Derived.Test.YtddalpglihhipaaGreatPSK02
import Derived.Test.YtddalpglihhipaaGreatPSVtabOkS
namespace Go.Proofs.YtddalpglihhipaaGreat
open Go.RowKit

abbrev q53 : Oper := ⟨some 3, .buildSlice 26 0 #[], 26, "l09_vlan.go:79", #[], none⟩
abbrev q54 : Oper := ⟨some 6, .call ⟨.builtin .append, #[.tmp 3, .tmp 5], #[26, 26]⟩, 26, "l09_vlan.go:79", #[⟨0, .data⟩, ⟨2, .data⟩], none⟩
abbrev q55 : Oper := ⟨some 7, .buildSlice 27 0 #[], 27, "l09_vlan.go:79", #[], none⟩
abbrev q56 : Oper := ⟨some 10, .call ⟨.builtin .append, #[.tmp 7, .tmp 9], #[27, 27]⟩, 27, "l09_vlan.go:79", #[⟨4, .data⟩, ⟨6, .data⟩, ⟨3, .chain⟩], none⟩
abbrev q57 : Oper := ⟨some 11, .build 29 #[(0, .tmp 6), (1, .tmp 10)], 29, "l09_vlan.go:79", #[⟨3, .data⟩, ⟨7, .data⟩], none⟩
abbrev q58 : Oper := ⟨none, .store 29 (.tmp 2) (.tmp 11), 0, "l09_vlan.go:79", #[⟨8, .data⟩, ⟨7, .chain⟩, ⟨0, .phase⟩, ⟨1, .phase⟩, ⟨2, .phase⟩, ⟨3, .phase⟩, ⟨4, .phase⟩, ⟨5, .phase⟩, ⟨6, .phase⟩, ⟨7, .phase⟩, ⟨8, .phase⟩], none⟩

def intF : Flat Int where
 k := 1
 cs := fun x => [.int .i64 x]
 len := fun _ => rfl
 pos := by decide
 one := fun _ v hv => by
  simp only [List.mem_cons, List.not_mem_nil, or_false] at hv
  subst hv
  rfl

theorem intF_all : ∀ (l : List Int), intF.all l = cI l
 | [] => rfl
 | x :: l => by
  have := intF_all l
  rw [Flat.all_cons, this]
  rfl

theorem IRow.flat {w : World} {ao : Option Addr} {n c : Nat} {l : List Int} (h : IRow w ao n c l) : GRow intF w ao n c l where
 size := h.size
 le := h.le
 top := h.top
 nil := h.nil
 cell := by
  rcases h.cell with h0 | ⟨b, off, ha, hc⟩
  ·exact .inl h0
  ·refine .inr ⟨b, off, ha, fun i x hi j v hv => ?_⟩
   have hl := (List.getElem?_eq_some_iff.1 hi).1
   have hs := h.size
   have := hc i (by omega)
   rw [List.getD_eq_getElem?_getD, hi] at this
   match j, hv with
   | 0, hv =>
    cases hv
    show w.cell? ⟨b, off + i * 1 + 0, none⟩ = _
    rw [Nat.mul_one, Nat.add_zero]
    exact this
   | j + 1, hv => simp [intF] at hv

theorem vrowInfo : (Tryz.prog.info? 100).map (fun i => (i.zero, i.size, i.bytes)) = some (some (.agg #[.int .i64 0, .int .i64 0, .int .i64 0]), vrowF.k, 24) := by kernel_rfl

theorem gown_type {w w' : World} {base k : Nat} {e : TypeId} {v : Value} {n : Nat} {xs : List Value} (h : w.ownsRow base e k v n xs) {base2 k2 : Nat} {e2 : TypeId} {v2 : Value} {n2 : Nat} {xs2 : List Value} (h2 : w.ownsRow base2 e2 k2 v2 n2 xs2) (hne : (e : Nat) ≠ e2) (hg : w.grownBy w' v2.ownBlock) : w'.ownsRow base e k v n xs := by
 refine h.kept hg ?_
 obtain ⟨-, h | ⟨g, cap, cur, e1, -, hh, -⟩⟩ := h
 ·rw [h.1]; exact .inl rfl
 ·obtain ⟨-, h2 | ⟨g2, cap2, cur2, e2', -, hh2, -⟩⟩ := h2
  ·rw [h2.1]; exact .inr (by rw [e1]; intro hc; cases hc)
  ·refine .inr (fun hc => ?_)
   rw [e1, e2'] at hc
   have hgg : g = g2 := by simpa [Value.ownBlock] using hc
   subst hgg
   rw [hh] at hh2
   cases hh2
   exact hne rfl

structure VOwn (w : World) (base : Nat) (a : Option Addr) (n c : Nat) (o : Option Addr) (p q : Nat) (v : VT) : Prop where
 rows : w.ownsRow base 100 3 (.slice a n c) n (vrowF.all v.rows)
 own : w.ownsRow base 3 1 (.slice o p q) p (cI v.own)
 i64 : I64s v.own

theorem VOwn.tab {w : World} {base : Nat} {a : Option Addr} {n c : Nat} {o : Option Addr} {p q : Nat} {v : VT} (h : VOwn w base a n c o p q v) : VTab w a n c o p q v := ⟨grow_own (F := vrowF) h.rows, irow_own h.own h.i64⟩

set_option maxRecDepth 100000 in
set_option maxHeartbeats 4000000 in
theorem specCopyV_made (a : Option Addr) (n c : Nat) (o : Option Addr) (p q : Nat) (v : VT) (w : World) (h : VTab w a n c o p q v) (hn : n ≤ 16777216) (hp : p ≤ 16777216) :
  Calls Tryz.prog 116 #[.agg #[.slice a n c, .slice o p q]] w fun r w' => ∃ a' c' o' q', r = .returned (.agg #[.slice a' n c', .slice o' p q']) ∧ VOwn w' w.heap.size a' n c' o' p q' v ∧ Below w.heap.size w w' := by
 generalize hw1 : w.alloc (Obj.cells #[Value.slice a n c, Value.slice o p q] 29) = w1
 generalize hw2 : w1.alloc (Obj.cells #[Value.slice none 0 0, Value.slice none 0 0] 29) = w2
 have s1 : w1.heap.size = w.heap.size + 1 := by subst hw1; simp
 have s2 : w2.heap.size = w.heap.size + 1 + 1 := by subst hw2; simp [s1]
 have hk1 : w2.heap[w1.heap.size]? = some (.cells #[.slice none 0 0, .slice none 0 0] 29) := by rw [← hw2]; exact block_last _ _
 have b01 : Below w.heap.size w w1 := by subst hw1; exact below_one _ _
 have vb : Below w1.heap.size w1 w2.drew := by subst hw2; exact gr_drew (below_one _ _)
 have bw : Below w.heap.size w w2 := by subst hw2; exact gr_trans b01 (below_one _ _)
 have vv : Below w2.heap.size w2 w2.drew := gr_drew (Below.refl _ _)
 have h12 : w1.heap.size ≤ w2.heap.size := by omega
 have S1 := hide s1
 have S2 := hide s2
 have H12 := hide h12
 have HL : Hid (∀ b, some w1.heap.size = some b → b < w2.heap.size) := hide (by intro b hb; cases hb; omega)
 clear s1 s2 h12
 go_enter Tryz.func116, Tryz.ntmps116
 go_wp2_with fail
 refine wp_region_held_drew (S := (fun W => W.cell? ⟨w.heap.size, 0, none⟩ = some (.slice a n c) ∧ W.cell? ⟨w.heap.size, 1, none⟩ = some (.slice o p q))) (by kernel_rfl) (box_two hw1 vb) (fun hHeld => ?_)
 refine kK 1 ⟨some 4, .fieldAddr 29 (.tmp 1) 0, 0, "l09_vlan.go:79", #[], none⟩ ?_
 refine kK 2 ⟨some 5, .load 26 (.tmp 4), 26, "l09_vlan.go:79", #[⟨1, .data⟩], none⟩ ?_
 refine kK 5 ⟨some 8, .fieldAddr 29 (.tmp 1) 1, 0, "l09_vlan.go:79", #[], none⟩ ?_
 refine kK 6 ⟨some 9, .load 27 (.tmp 8), 27, "l09_vlan.go:79", #[⟨5, .data⟩], none⟩ ?_
 refine tR [0, 4] ?_
 refine AllReadyH.cons (o := q53) rfl (fun K hK => ?_) ?_
 ·go_simp
  first
  | refine made_new (K := K _) (fun wx hk hbx => ?_)
  | refine made_drew (K := K _) (fun wx hk hbx => ?_)
  try have hI := gown_below hI hbx
  have hR := flat_nil vrowF w2 wx 100 _ hk vv.size
  have vv := gr_trans vv hbx
  have vb := gr_trans vb hbx
  clear hk hbx
  refine hK.out _ _ (box_two hw1 vb) (fun hHeld => ?_)
  clear hK K
  try simp only [Act.put, lA, lB, lC]
  refine tR [3, 4] ?_
  refine AllReadyH.cons (o := q54) rfl (fun K hK => ?_) ?_
  ·refine step_append_flat (F := vrowF) rfl _ _ 26 100 rfl w2.heap.size Tryz.underlying26 vrowInfo rfl (by decide) _ 0 [] rfl hR a n c v.rows rfl (h.rows.below (gr_trans bw vv)) (by omega) vv.size ?_
   intro aohR cphR wx how hrow hgr hbx
   try have hI := gown_type hI hR (by decide) hgr
   have hR := how
   have vv := vv.trans hbx
   have vb := vb.trans (hbx.mono H12.out)
   clear how hrow hgr hbx
   simp only [Nat.zero_add, List.nil_append] at hR ⊢
   refine hK.out _ _ (box_two hw1 vb) (fun hHeld => ?_)
   clear hK K
   try simp only [Act.put, lA, lB, lC]
   refine tR [4] ?_
   refine AllReadyH.cons (o := q55) rfl (fun K hK => ?_) ?_
   ·go_simp
    first
    | refine made_new (K := K _) (fun wx hk hbx => ?_)
    | refine made_drew (K := K _) (fun wx hk hbx => ?_)
    try have hR := gown_below hR hbx
    have hI := flat_nil intF w2 wx 3 _ hk vv.size
    have vv := gr_trans vv hbx
    have vb := gr_trans vb hbx
    clear hk hbx
    refine hK.out _ _ (box_two hw1 vb) (fun hHeld => ?_)
    clear hK K
    try simp only [Act.put, lA, lB, lC]
    refine tR [7] ?_
    refine AllReadyH.cons (o := q56) rfl (fun K hK => ?_) ?_
    ·refine step_append_flat (F := intF) rfl _ _ 27 3 rfl w2.heap.size Tryz.underlying27 Tryz.infoI64 rfl (by decide) _ 0 [] rfl hI o p q v.own rfl ((h.own.below (gr_trans bw vv)).flat) (by omega) vv.size ?_
     intro aohI cphI wx how hrow hgr hbx
     try have hR := gown_type hR hI (by decide) hgr
     have hI := how
     have vv := vv.trans hbx
     have vb := vb.trans (hbx.mono H12.out)
     clear how hrow hgr hbx
     simp only [Nat.zero_add, List.nil_append] at hI ⊢
     refine hK.out _ _ (box_two hw1 vb) (fun hHeld => ?_)
     clear hK K
     try simp only [Act.put, lA, lB, lC]
     refine kK 8 q57 ?_
     refine tR [9] ?_
     refine AllReadyH.cons (o := q58) rfl (fun K hK => ?_) ?_
     ·obtain ⟨⟨g0, g1⟩, f0, f1⟩ := cells2 (kept_block hk1 vv)
      go_simp
      have hR := gown_apart (gown_apart hR (grown_set (rb := w1.heap.size) 0 (.slice aohR n cphR)) HL.out) (grown_set (rb := w1.heap.size) 1 (.slice aohI p cphI)) HL.out
      have hI := gown_apart (gown_apart hI (grown_set (rb := w1.heap.size) 0 (.slice aohR n cphR)) HL.out) (grown_set (rb := w1.heap.size) 1 (.slice aohI p cphI)) HL.out
      have vb := below_set (below_set vb (Nat.le_refl _) 0 (.slice aohR n cphR)) (Nat.le_refl _) 1 (.slice aohI p cphI)
      refine hK.out _ _ (box_two hw1 vb) (fun hHeld => ?_)
      clear hK K
      try simp only [Act.put, lA, lB, lC]
      refine wpAnyH_done (by kernel_rfl) ?_ _
      have HR := hide hR
      have HI := hide hI
      clear hR hI
      go_wp2
      refine bodyPost_ret (v := .agg #[.slice aohR n cphR, .slice aohI p cphI]) (by simp [results, Tryz.results116, go_sem, *]) rfl ⟨_, _, _, _, rfl, ⟨gown_lt HR.out bw.size, gown_lt (by rw [← intF_all]; exact HI.out) bw.size, h.own.byte⟩, gr_trans b01 vb⟩
     exact AllReadyH.nil
    exact AllReadyH.nil
   exact AllReadyH.nil
  refine AllReadyH.cons (o := q55) rfl (fun K hK => ?_) ?_
  ·go_simp
   first
   | refine made_new (K := K _) (fun wx hk hbx => ?_)
   | refine made_drew (K := K _) (fun wx hk hbx => ?_)
   try have hR := gown_below hR hbx
   have hI := flat_nil intF w2 wx 3 _ hk vv.size
   have vv := gr_trans vv hbx
   have vb := gr_trans vb hbx
   clear hk hbx
   refine hK.out _ _ (box_two hw1 vb) (fun hHeld => ?_)
   clear hK K
   try simp only [Act.put, lA, lB, lC]
   refine tR [3] ?_
   refine AllReadyH.cons (o := q54) rfl (fun K hK => ?_) ?_
   ·refine step_append_flat (F := vrowF) rfl _ _ 26 100 rfl w2.heap.size Tryz.underlying26 vrowInfo rfl (by decide) _ 0 [] rfl hR a n c v.rows rfl (h.rows.below (gr_trans bw vv)) (by omega) vv.size ?_
    intro aohR cphR wx how hrow hgr hbx
    try have hI := gown_type hI hR (by decide) hgr
    have hR := how
    have vv := vv.trans hbx
    have vb := vb.trans (hbx.mono H12.out)
    clear how hrow hgr hbx
    simp only [Nat.zero_add, List.nil_append] at hR ⊢
    refine hK.out _ _ (box_two hw1 vb) (fun hHeld => ?_)
    clear hK K
    try simp only [Act.put, lA, lB, lC]
    refine tR [7] ?_
    refine AllReadyH.cons (o := q56) rfl (fun K hK => ?_) ?_
    ·refine step_append_flat (F := intF) rfl _ _ 27 3 rfl w2.heap.size Tryz.underlying27 Tryz.infoI64 rfl (by decide) _ 0 [] rfl hI o p q v.own rfl ((h.own.below (gr_trans bw vv)).flat) (by omega) vv.size ?_
     intro aohI cphI wx how hrow hgr hbx
     try have hR := gown_type hR hI (by decide) hgr
     have hI := how
     have vv := vv.trans hbx
     have vb := vb.trans (hbx.mono H12.out)
     clear how hrow hgr hbx
     simp only [Nat.zero_add, List.nil_append] at hI ⊢
     refine hK.out _ _ (box_two hw1 vb) (fun hHeld => ?_)
     clear hK K
     try simp only [Act.put, lA, lB, lC]
     refine kK 8 q57 ?_
     refine tR [9] ?_
     refine AllReadyH.cons (o := q58) rfl (fun K hK => ?_) ?_
     ·obtain ⟨⟨g0, g1⟩, f0, f1⟩ := cells2 (kept_block hk1 vv)
      go_simp
      have hR := gown_apart (gown_apart hR (grown_set (rb := w1.heap.size) 0 (.slice aohR n cphR)) HL.out) (grown_set (rb := w1.heap.size) 1 (.slice aohI p cphI)) HL.out
      have hI := gown_apart (gown_apart hI (grown_set (rb := w1.heap.size) 0 (.slice aohR n cphR)) HL.out) (grown_set (rb := w1.heap.size) 1 (.slice aohI p cphI)) HL.out
      have vb := below_set (below_set vb (Nat.le_refl _) 0 (.slice aohR n cphR)) (Nat.le_refl _) 1 (.slice aohI p cphI)
      refine hK.out _ _ (box_two hw1 vb) (fun hHeld => ?_)
      clear hK K
      try simp only [Act.put, lA, lB, lC]
      refine wpAnyH_done (by kernel_rfl) ?_ _
      have HR := hide hR
      have HI := hide hI
      clear hR hI
      go_wp2
      refine bodyPost_ret (v := .agg #[.slice aohR n cphR, .slice aohI p cphI]) (by simp [results, Tryz.results116, go_sem, *]) rfl ⟨_, _, _, _, rfl, ⟨gown_lt HR.out bw.size, gown_lt (by rw [← intF_all]; exact HI.out) bw.size, h.own.byte⟩, gr_trans b01 vb⟩
     exact AllReadyH.nil
    exact AllReadyH.nil
   exact AllReadyH.nil
  exact AllReadyH.nil
 refine AllReadyH.cons (o := q55) rfl (fun K hK => ?_) ?_
 ·go_simp
  first
  | refine made_new (K := K _) (fun wx hk hbx => ?_)
  | refine made_drew (K := K _) (fun wx hk hbx => ?_)
  try have hR := gown_below hR hbx
  have hI := flat_nil intF w2 wx 3 _ hk vv.size
  have vv := gr_trans vv hbx
  have vb := gr_trans vb hbx
  clear hk hbx
  refine hK.out _ _ (box_two hw1 vb) (fun hHeld => ?_)
  clear hK K
  try simp only [Act.put, lA, lB, lC]
  refine tR [0] ?_
  refine AllReadyH.cons (o := q53) rfl (fun K hK => ?_) ?_
  ·go_simp
   first
   | refine made_new (K := K _) (fun wx hk hbx => ?_)
   | refine made_drew (K := K _) (fun wx hk hbx => ?_)
   try have hI := gown_below hI hbx
   have hR := flat_nil vrowF w2 wx 100 _ hk vv.size
   have vv := gr_trans vv hbx
   have vb := gr_trans vb hbx
   clear hk hbx
   refine hK.out _ _ (box_two hw1 vb) (fun hHeld => ?_)
   clear hK K
   try simp only [Act.put, lA, lB, lC]
   refine tR [3] ?_
   refine AllReadyH.cons (o := q54) rfl (fun K hK => ?_) ?_
   ·refine step_append_flat (F := vrowF) rfl _ _ 26 100 rfl w2.heap.size Tryz.underlying26 vrowInfo rfl (by decide) _ 0 [] rfl hR a n c v.rows rfl (h.rows.below (gr_trans bw vv)) (by omega) vv.size ?_
    intro aohR cphR wx how hrow hgr hbx
    try have hI := gown_type hI hR (by decide) hgr
    have hR := how
    have vv := vv.trans hbx
    have vb := vb.trans (hbx.mono H12.out)
    clear how hrow hgr hbx
    simp only [Nat.zero_add, List.nil_append] at hR ⊢
    refine hK.out _ _ (box_two hw1 vb) (fun hHeld => ?_)
    clear hK K
    try simp only [Act.put, lA, lB, lC]
    refine tR [7] ?_
    refine AllReadyH.cons (o := q56) rfl (fun K hK => ?_) ?_
    ·refine step_append_flat (F := intF) rfl _ _ 27 3 rfl w2.heap.size Tryz.underlying27 Tryz.infoI64 rfl (by decide) _ 0 [] rfl hI o p q v.own rfl ((h.own.below (gr_trans bw vv)).flat) (by omega) vv.size ?_
     intro aohI cphI wx how hrow hgr hbx
     try have hR := gown_type hR hI (by decide) hgr
     have hI := how
     have vv := vv.trans hbx
     have vb := vb.trans (hbx.mono H12.out)
     clear how hrow hgr hbx
     simp only [Nat.zero_add, List.nil_append] at hI ⊢
     refine hK.out _ _ (box_two hw1 vb) (fun hHeld => ?_)
     clear hK K
     try simp only [Act.put, lA, lB, lC]
     refine kK 8 q57 ?_
     refine tR [9] ?_
     refine AllReadyH.cons (o := q58) rfl (fun K hK => ?_) ?_
     ·obtain ⟨⟨g0, g1⟩, f0, f1⟩ := cells2 (kept_block hk1 vv)
      go_simp
      have hR := gown_apart (gown_apart hR (grown_set (rb := w1.heap.size) 0 (.slice aohR n cphR)) HL.out) (grown_set (rb := w1.heap.size) 1 (.slice aohI p cphI)) HL.out
      have hI := gown_apart (gown_apart hI (grown_set (rb := w1.heap.size) 0 (.slice aohR n cphR)) HL.out) (grown_set (rb := w1.heap.size) 1 (.slice aohI p cphI)) HL.out
      have vb := below_set (below_set vb (Nat.le_refl _) 0 (.slice aohR n cphR)) (Nat.le_refl _) 1 (.slice aohI p cphI)
      refine hK.out _ _ (box_two hw1 vb) (fun hHeld => ?_)
      clear hK K
      try simp only [Act.put, lA, lB, lC]
      refine wpAnyH_done (by kernel_rfl) ?_ _
      have HR := hide hR
      have HI := hide hI
      clear hR hI
      go_wp2
      refine bodyPost_ret (v := .agg #[.slice aohR n cphR, .slice aohI p cphI]) (by simp [results, Tryz.results116, go_sem, *]) rfl ⟨_, _, _, _, rfl, ⟨gown_lt HR.out bw.size, gown_lt (by rw [← intF_all]; exact HI.out) bw.size, h.own.byte⟩, gr_trans b01 vb⟩
     exact AllReadyH.nil
    exact AllReadyH.nil
   exact AllReadyH.nil
  exact AllReadyH.nil
 exact AllReadyH.nil

theorem VOwn.below {w w' : World} {base : Nat} {a : Option Addr} {n c : Nat} {o : Option Addr} {p q : Nat} {v : VT} (h : VOwn w base a n c o p q v) (hb : Below w.heap.size w w') : VOwn w' base a n c o p q v :=
 ⟨gown_below h.rows hb, gown_below h.own hb, h.i64⟩

theorem VOwn.lt {w : World} {base base' : Nat} {a : Option Addr} {n c : Nat} {o : Option Addr} {p q : Nat} {v : VT} (h : VOwn w base a n c o p q v) (hle : base' ≤ base) : VOwn w base' a n c o p q v :=
 ⟨gown_lt h.rows hle, gown_lt h.own hle, h.i64⟩

theorem VOwn.set2 {w : World} {base : Nat} {a : Option Addr} {n c : Nat} {o : Option Addr} {p q : Nat} {v : VT} (h : VOwn w base a n c o p q v) {g : Nat} (hg : g < base) (u1 u2 : Value) : VOwn ((w.setCell ⟨g, 0, none⟩ u1).setCell ⟨g, 1, none⟩ u2) base a n c o p q v := by
 have hl : ∀ b, some g = some b → b < base := by intro b hb; cases hb; exact hg
 exact ⟨gown_apart (gown_apart h.rows (grown_set (rb := g) 0 u1) hl) (grown_set (rb := g) 1 u2) hl, gown_apart (gown_apart h.own (grown_set (rb := g) 0 u1) hl) (grown_set (rb := g) 1 u2) hl, h.i64⟩

set_option maxRecDepth 100000 in
set_option maxHeartbeats 1000000 in
theorem specOr_yes (a : Option Addr) (n c : Nat) (o : Option Addr) (p q : Nat) (x : VT) (a2 : Option Addr) (n2 c2 : Nat) (o2 : Option Addr) (p2 q2 : Nat) (w : World) (h : VTab w a n c o p q x) (hok : vtabOk x p2 = true) :
  Calls Tryz.prog 184 #[.agg #[.slice a n c, .slice o p q], .agg #[.slice a2 n2 c2, .slice o2 p2 q2]] w fun r w' => r = .returned (.tuple #[.agg #[.slice a n c, .slice o p q], .bool true]) ∧ Below w.heap.size w w' := by
 generalize hw1 : w.alloc (Obj.cells #[Value.slice a n c, Value.slice o p q] 29) = w1
 generalize hw2 : w1.alloc (Obj.cells #[Value.slice a2 n2 c2, Value.slice o2 p2 q2] 29) = w2
 generalize hw3 : w2.alloc (Obj.cells #[Value.slice none 0 0, Value.slice none 0 0] 29) = w3
 have b01 : Below w.heap.size w w1 := by subst hw1; exact below_one _ _
 have b12 : Below w1.heap.size w1 w2 := by subst hw2; exact below_one _ _
 have b23 : Below w2.heap.size w2 w3 := by subst hw3; exact below_one _ _
 have b13 := gr_trans b12 b23
 have b03 := gr_trans b01 b13
 have k2 : w3.heap[w2.heap.size]? = some (.cells #[.slice none 0 0, .slice none 0 0] 29) := by rw [← hw3]; exact block_last _ _
 have hb1 := box_two hw1 b13
 have hb2 := box_two hw2 b23
 have h3 := h.below b03
 go_enter Tryz.func184, Tryz.ntmps184
 go_wp2_with (refine (specVtabOk_any a n c o p q x (p2 : Int) _ h3).mono ?_; rintro r w4 ⟨rfl, hb4⟩; rw [hok]; have hc1 := box_two hw1 (gr_trans b13 hb4); obtain ⟨⟨g0, g1⟩, f0, f1⟩ := cells2 (kept_block k2 hb4))
 have hbW : Below w.heap.size w ((w4.setCell ⟨w2.heap.size, 0, none⟩ (.slice a n c)).setCell ⟨w2.heap.size, 1, none⟩ (.slice o p q)) := below_set (below_set (gr_trans b03 hb4) (gr_trans b01 b12).size _ _) (gr_trans b01 b12).size _ _
 exact bodyPost_ret (v := .tuple #[.agg #[.slice a n c, .slice o p q], .bool true]) (by simp [results, Tryz.results184, go_sem, *]) rfl ⟨rfl, hbW⟩

set_option maxRecDepth 100000 in
set_option maxHeartbeats 1000000 in
theorem specOr_no (a : Option Addr) (n c : Nat) (o : Option Addr) (p q : Nat) (x : VT) (a2 : Option Addr) (n2 c2 : Nat) (o2 : Option Addr) (p2 q2 : Nat) (v : VT) (w : World) (h : VTab w a n c o p q x) (h2 : VTab w a2 n2 c2 o2 p2 q2 v) (hok : vtabOk x p2 = false) (hn : n2 ≤ 16777216) (hp : p2 ≤ 16777216) :
  Calls Tryz.prog 184 #[.agg #[.slice a n c, .slice o p q], .agg #[.slice a2 n2 c2, .slice o2 p2 q2]] w fun r w' => ∃ a' c' o' q', r = .returned (.tuple #[.agg #[.slice a' n2 c', .slice o' p2 q'], .bool false]) ∧ VOwn w' w.heap.size a' n2 c' o' p2 q' v ∧ Below w.heap.size w w' := by
 generalize hw1 : w.alloc (Obj.cells #[Value.slice a n c, Value.slice o p q] 29) = w1
 generalize hw2 : w1.alloc (Obj.cells #[Value.slice a2 n2 c2, Value.slice o2 p2 q2] 29) = w2
 generalize hw3 : w2.alloc (Obj.cells #[Value.slice none 0 0, Value.slice none 0 0] 29) = w3
 have b01 : Below w.heap.size w w1 := by subst hw1; exact below_one _ _
 have b12 : Below w1.heap.size w1 w2 := by subst hw2; exact below_one _ _
 have b23 : Below w2.heap.size w2 w3 := by subst hw3; exact below_one _ _
 have b13 := gr_trans b12 b23
 have b03 := gr_trans b01 b13
 have k2 : w3.heap[w2.heap.size]? = some (.cells #[.slice none 0 0, .slice none 0 0] 29) := by rw [← hw3]; exact block_last _ _
 have z3 : w2.heap.size < w3.heap.size := by rw [← hw3]; simp
 have hb1 := box_two hw1 b13
 have hb2 := box_two hw2 b23
 have h3 := h.below b03
 have h4 := h2.below b03
 go_enter Tryz.func184, Tryz.ntmps184
 go_wp2_with (refine (specVtabOk_any a n c o p q x (p2 : Int) _ h3).mono ?_; rintro r w4 ⟨rfl, hb4⟩; rw [hok]; have hc2 := box_two hw2 (gr_trans b23 hb4))
 go_wp2_with (refine (specCopyV_made a2 n2 c2 o2 p2 q2 v _ (h4.below hb4) hn hp).mono ?_; rintro r w5 ⟨a', c', o', q', rfl, hO, hb5⟩; obtain ⟨⟨g0, g1⟩, f0, f1⟩ := cells2 (kept_block k2 (gr_trans hb4 hb5)))
 have hbW : Below w.heap.size w ((w5.setCell ⟨w2.heap.size, 0, none⟩ (.slice a' n2 c')).setCell ⟨w2.heap.size, 1, none⟩ (.slice o' p2 q')) := below_set (below_set (gr_trans b03 (gr_trans hb4 hb5)) (gr_trans b01 b12).size _ _) (gr_trans b01 b12).size _ _
 have hO' := (hO.set2 (g := w2.heap.size) (by have := hb4.size; omega) (.slice a' n2 c') (.slice o' p2 q')).lt (base' := w.heap.size) (by have := hb4.size; have := b03.size; omega)
 have HO := hide hO'
 clear hO hO'
 exact bodyPost_ret (v := .tuple #[.agg #[.slice a' n2 c', .slice o' p2 q'], .bool false]) (by simp [results, Tryz.results184, go_sem, *]) rfl ⟨_, _, _, _, rfl, HO.out, hbW⟩

def orV (x v : VT) : VT × Bool := if vtabOk x v.own.length then (x, true) else (v, false)

def setPvid (v : VT) (port id : Int) : VT × Bool :=
 if vtabOk v v.own.length && (decide (0 ≤ port) && decide (port ≤ (v.own.length : Int) - 1)) then orV ⟨v.rows, v.own.set port.toNat id⟩ v else (v, false)

theorem VOwn.len {w : World} {base : Nat} {a : Option Addr} {n c : Nat} {o : Option Addr} {p q : Nat} {v : VT} (h : VOwn w base a n c o p q v) : v.rows.length = n ∧ v.own.length = p := ⟨h.tab.rows.size, h.tab.own.size⟩

theorem VOwn.addr {w : World} {base : Nat} {a : Option Addr} {n c : Nat} {o : Option Addr} {p q : Nat} {v : VT} (h : VOwn w base a n c o p q v) (hp : 0 < p) : ∃ g, o = some ⟨g, 0, none⟩ ∧ base ≤ g ∧ g < w.heap.size :=
 flat_addr (F := intF) (by rw [intF_all]; exact h.own) hp

theorem VOwn.setOwn {w : World} {base : Nat} {a : Option Addr} {n c g p q : Nat} {v : VT} (h : VOwn w base a n c (some ⟨g, 0, none⟩) p q v) {k : Nat} (hk : k < p) {id : Int} (hid : -9223372036854775808 ≤ id ∧ id ≤ 9223372036854775807) :
  ((∃ u, w.cell? ⟨g, k, none⟩ = some u) ∧ w.frozen? ⟨g, k, none⟩ = false) ∧ VOwn (w.setCell ⟨g, k, none⟩ (.int .i64 id)) base a n c (some ⟨g, 0, none⟩) p q ⟨v.rows, v.own.set k id⟩ := by
 have hl := h.len.2
 refine ⟨⟨?_, h.own.frozenAt k⟩, gown_type h.rows h.own (by decide) (grown_set (rb := g) k _), ?_, ?_⟩
 ·rw [h.own.cellAt k (by omega)]
  exact ⟨_, List.getElem?_eq_getElem (by rw [cI_length]; omega)⟩
 ·have := (h.own.stored k (.int .i64 id)).1
  rw [show (cI v.own).set k (.int .i64 id) = cI (v.own.set k id) by simp [cI, List.map_set]] at this
  exact this
 ·intro z hz
  rcases List.mem_or_eq_of_mem_set hz with hz | rfl
  ·exact h.i64 z hz
  ·exact hid

theorem specOr_made (base : Nat) (a : Option Addr) (n c : Nat) (o : Option Addr) (p q : Nat) (x : VT) (a2 : Option Addr) (n2 c2 : Nat) (o2 : Option Addr) (p2 q2 : Nat) (v : VT) (w : World) (h : VOwn w base a n c o p q x) (h2 : VTab w a2 n2 c2 o2 p2 q2 v) (hn : n2 ≤ 16777216) (hp : p2 ≤ 16777216) (hbase : base ≤ w.heap.size) :
  Calls Tryz.prog 184 #[.agg #[.slice a n c, .slice o p q], .agg #[.slice a2 n2 c2, .slice o2 p2 q2]] w fun r w' => ∃ a' n' c' o' p' q', r = .returned (.tuple #[.agg #[.slice a' n' c', .slice o' p' q'], .bool (orV x v).2]) ∧ VOwn w' base a' n' c' o' p' q' (orV x v).1 ∧ Below w.heap.size w w' := by
 have hl := h2.own.size
 unfold orV
 rw [hl]
 cases hok : vtabOk x p2
 ·refine (specOr_no a n c o p q x a2 n2 c2 o2 p2 q2 v w h.tab h2 hok hn hp).mono ?_
  rintro r w' ⟨a', c', o', q', rfl, hO, hb⟩
  exact ⟨a', n2, c', o', p2, q', rfl, hO.lt hbase, hb⟩
 ·refine (specOr_yes a n c o p q x a2 n2 c2 o2 p2 q2 w h.tab hok).mono ?_
  rintro r w' ⟨rfl, hb⟩
  exact ⟨a, n, c, o, p, q, rfl, h.below hb, hb⟩

set_option maxRecDepth 100000 in
set_option maxHeartbeats 2000000 in
theorem specSetPvid_made (a : Option Addr) (n c : Nat) (o : Option Addr) (p q : Nat) (v : VT) (port id : Int) (w : World) (h : VTab w a n c o p q v) (hn : n ≤ 16777216) (hp : p ≤ 16777216) (hid : -9223372036854775808 ≤ id ∧ id ≤ 9223372036854775807) :
  Calls Tryz.prog 153 #[.agg #[.slice a n c, .slice o p q], .int .i64 port, .int .i64 id] w fun r w' => ∃ a' n' c' o' p' q', r = .returned (.tuple #[.agg #[.slice a' n' c', .slice o' p' q'], .bool (setPvid v port id).2]) ∧ VOwn w' w.heap.size a' n' c' o' p' q' (setPvid v port id).1 ∧ Below w.heap.size w w' := by
 generalize hw1 : w.alloc (Obj.cells #[Value.slice a n c, Value.slice o p q] 29) = w1
 generalize hw2 : w1.alloc (Obj.cells #[Value.slice none 0 0, Value.slice none 0 0] 29) = w2
 have b01 : Below w.heap.size w w1 := by subst hw1; exact below_one _ _
 have b12 : Below w1.heap.size w1 w2 := by subst hw2; exact below_one _ _
 have b02 := gr_trans b01 b12
 have k1 : w2.heap[w1.heap.size]? = some (.cells #[.slice none 0 0, .slice none 0 0] 29) := by rw [← hw2]; exact block_last _ _
 have z2 : w1.heap.size < w2.heap.size := by rw [← hw2]; simp
 have hb1 := box_two hw1 b12
 have h2 := h.below b02
 have hl := h.own.size
 have hsub : IntKind.i64.wrap ((p : Int) - 1) = (p : Int) - 1 := by rw [IntKind.wrap_i64]; omega
 have Z2 := hide z2
 clear z2
 unfold setPvid
 rw [hl]
 cases hok : vtabOk v p
 ·rw [Bool.false_and, if_neg Bool.false_ne_true]
  go_enter Tryz.func153, Tryz.ntmps153
  go_wp2_with (refine (specVtabOk_any a n c o p q v (p : Int) _ h2).mono ?_; rintro r w3 ⟨rfl, hb3⟩; rw [hok]; have hc1 := box_two hw1 (gr_trans b12 hb3))
  go_wp2_with (refine (specCopyV_made a n c o p q v _ (h2.below hb3) hn hp).mono ?_; rintro r w4 ⟨a', c', o', q', rfl, hO, hb4⟩; obtain ⟨⟨g0, g1⟩, f0, f1⟩ := cells2 (kept_block k1 (gr_trans hb3 hb4)))
  have hbW : Below w.heap.size w ((w4.setCell ⟨w1.heap.size, 0, none⟩ (.slice a' n c')).setCell ⟨w1.heap.size, 1, none⟩ (.slice o' p q')) := below_set (below_set (gr_trans b02 (gr_trans hb3 hb4)) b01.size _ _) b01.size _ _
  have hO' := (hO.set2 (g := w1.heap.size) (by have := hb3.size; have := Z2.out; omega) (.slice a' n c') (.slice o' p q')).lt (base' := w.heap.size) (by have := hb3.size; have := b02.size; omega)
  have HO := hide hO'
  clear hO hO'
  exact bodyPost_ret (v := .tuple #[.agg #[.slice a' n c', .slice o' p q'], .bool false]) (by simp [results, Tryz.results153, go_sem, *]) rfl ⟨_, _, _, _, _, _, rfl, HO.out, hbW⟩
 ·rw [Bool.true_and]
  cases hin : (decide (0 ≤ port) && decide (port ≤ (p : Int) - 1))
  ·rw [if_neg Bool.false_ne_true]
   have HIN := hide hin
   clear hin
   go_enter Tryz.func153, Tryz.ntmps153
   go_wp2_with (refine (specVtabOk_any a n c o p q v (p : Int) _ h2).mono ?_; rintro r w3 ⟨rfl, hb3⟩; rw [hok]; have hc1 := box_two hw1 (gr_trans b12 hb3))
   go_wp2_with (refine (within_any port 0 ((p : Int) - 1) _).mono ?_; rintro r wy ⟨rfl, rfl⟩; rw [HIN.out])
   go_wp2_with (refine (specCopyV_made a n c o p q v _ (h2.below hb3) hn hp).mono ?_; rintro r w4 ⟨a', c', o', q', rfl, hO, hb4⟩; obtain ⟨⟨g0, g1⟩, f0, f1⟩ := cells2 (kept_block k1 (gr_trans hb3 hb4)))
   have hbW : Below w.heap.size w ((w4.setCell ⟨w1.heap.size, 0, none⟩ (.slice a' n c')).setCell ⟨w1.heap.size, 1, none⟩ (.slice o' p q')) := below_set (below_set (gr_trans b02 (gr_trans hb3 hb4)) b01.size _ _) b01.size _ _
   have hO' := (hO.set2 (g := w1.heap.size) (by have := hb3.size; have := Z2.out; omega) (.slice a' n c') (.slice o' p q')).lt (base' := w.heap.size) (by have := hb3.size; have := b02.size; omega)
   have HO := hide hO'
   clear hO hO'
   exact bodyPost_ret (v := .tuple #[.agg #[.slice a' n c', .slice o' p q'], .bool false]) (by simp [results, Tryz.results153, go_sem, *]) rfl ⟨_, _, _, _, _, _, rfl, HO.out, hbW⟩
  ·rw [if_pos rfl]
   obtain ⟨k, rfl⟩ : ∃ k : Nat, port = (k : Int) := ⟨port.toNat, by simp at hin; omega⟩
   have hk : k < p := by simp at hin; omega
   rw [Int.toNat_natCast]
   have HIN := hide hin
   clear hin
   have i1 : (0 : Int) ≤ (k : Int) := by omega
   have i2 : (k : Int) < (p : Int) := by omega
   go_enter Tryz.func153, Tryz.ntmps153
   go_wp2_with (refine (specVtabOk_any a n c o p q v (p : Int) _ h2).mono ?_; rintro r w3 ⟨rfl, hb3⟩; rw [hok]; have hc1 := box_two hw1 (gr_trans b12 hb3))
   go_wp2_with (refine (within_any (k : Int) 0 ((p : Int) - 1) _).mono ?_; rintro r wy ⟨rfl, rfl⟩; rw [HIN.out])
   go_wp2_with fail
   refine (specCopyV_made a n c o p q v _ (h2.below hb3) hn hp).mono ?_
   rintro r w4 ⟨a', c', o', q', rfl, hO, hb4⟩
   obtain ⟨g, hg0, hg1, hg2⟩ := hO.addr (by omega)
   subst hg0
   generalize hw5 : w4.alloc (Obj.cells #[Value.slice a' n c', Value.slice (some ⟨g, 0, none⟩) p q'] 29) = w5
   have b45 : Below w4.heap.size w4 w5 := by subst hw5; exact below_one _ _
   have hO5 := hO.below b45
   obtain ⟨⟨⟨u, cu⟩, cf⟩, hO6⟩ := hO5.setOwn hk hid
   have b25 := gr_trans hb3 (gr_trans hb4 b45)
   have hgw : w.heap.size ≤ g ∧ w1.heap.size < g := by have := hb3.size; have := b01.size; have := Z2.out; omega
   have b16 : Below w1.heap.size w1 (w5.setCell ⟨g, k, none⟩ (.int .i64 id)) := below_set (gr_trans b12 b25) (by omega) _ _
   have b06 : Below w.heap.size w (w5.setCell ⟨g, k, none⟩ (.int .i64 id)) := below_set (gr_trans b02 b25) hgw.1 _ _
   have b26 : Below w2.heap.size w2 (w5.setCell ⟨g, k, none⟩ (.int .i64 id)) := below_set b25 (by have := hb3.size; omega) _ _
   have hc5 := cells2 (by rw [← hw5]; exact block_last w4 _ : w5.heap[w4.heap.size]? = some (.cells #[.slice a' n c', .slice (some ⟨g, 0, none⟩) p q'] 29))
   have hc6 := cells2 (kept_set (b := g) (j := k) (u := .int .i64 id) (by rw [← hw5]; exact block_last w4 _ : w5.heap[w4.heap.size]? = some (.cells #[.slice a' n c', .slice (some ⟨g, 0, none⟩) p q'] 29)) (by omega))
   have hd6 := box_two hw1 b16
   have k6 := kept_set (b := g) (j := k) (u := .int .i64 id) (kept_block k1 b25) (by omega)
   have z6 : w1.heap.size < w5.heap.size := by have := b25.size; have := Z2.out; omega
   generalize hw6 : w5.setCell ⟨g, k, none⟩ (.int .i64 id) = w6 at *
   have HO6 := hide hO6
   clear hO hO5 hO6
   go_wp2_with fail
   refine (specOr_made w2.heap.size a' n c' (some ⟨g, 0, none⟩) p q' _ a n c o p q v _ (HO6.out.lt hb3.size) (h.below b06) hn hp b26.size).mono ?_
   rintro r w7 ⟨a7, n7, c7, o7, p7, q7, rfl, hO7, hb7⟩
   obtain ⟨⟨g0, g1⟩, f0, f1⟩ := cells2 (kept_block k6 hb7)
   have hbW : Below w.heap.size w ((w7.setCell ⟨w1.heap.size, 0, none⟩ (.slice a7 n7 c7)).setCell ⟨w1.heap.size, 1, none⟩ (.slice o7 p7 q7)) := below_set (below_set (gr_trans b06 hb7) b01.size _ _) b01.size _ _
   have hO' := (hO7.set2 (g := w1.heap.size) Z2.out (.slice a7 n7 c7) (.slice o7 p7 q7)).lt (base' := w.heap.size) b02.size
   have HO := hide hO'
   clear hO7 hO' hw5 hw6
   go_wp2
   exact bodyPost_ret (v := .tuple #[.agg #[.slice a7 n7 c7, .slice o7 p7 q7], .bool (orV ⟨v.rows, v.own.set k id⟩ v).2]) (by simp [results, Tryz.results153, go_sem, *]) rfl ⟨_, _, _, _, _, _, rfl, HO.out, hbW⟩

theorem box_ne {w : World} {base k : Nat} {e : TypeId} {v : Value} {n : Nat} {xs : List Value} (h : w.ownsRow base e k v n xs) {X : Nat} {cs : Array Value} {T : TypeId} (hX : w.heap[X]? = some (.cells cs T)) (hne : (e : Nat) ≠ T) : ∀ b, v.ownBlock = some b → b ≠ X := by
 obtain ⟨-, h | ⟨g, cap, cur, rfl, -, hh, -⟩⟩ := h
 ·rw [h.1]; intro b hb; cases hb
 ·intro b hb e
  have : g = b := by simpa [Value.ownBlock] using hb
  subst this e
  rw [hh] at hX
  cases hX
  exact hne rfl

structure RowSt (B : Nat) (w : World) (X : Nat) (ar : Option Addr) (nr cr : Nat) (o : Option Addr) (p q : Nat) (own : List Int) (zs : List VR) : Prop where
 box : w.heap[X]? = some (.cells #[.slice ar nr cr, .slice o p q] 29)
 rows : w.ownsRow B 100 3 (.slice ar nr cr) nr (vrowF.all zs)
 own : w.ownsRow B 3 1 (.slice o p q) p (cI own)

theorem RowSt.below {B : Nat} {w w' : World} {X : Nat} {ar : Option Addr} {nr cr : Nat} {o : Option Addr} {p q : Nat} {own : List Int} {zs : List VR} (h : RowSt B w X ar nr cr o p q own zs) (hb : Below w.heap.size w w') : RowSt B w' X ar nr cr o p q own zs :=
 ⟨kept_block h.box hb, gown_below h.rows hb, gown_below h.own hb⟩

theorem RowSt.cell {B : Nat} {w : World} {X : Nat} {ar : Option Addr} {nr cr : Nat} {o : Option Addr} {p q : Nat} {own : List Int} {zs : List VR} (h : RowSt B w X ar nr cr o p q own zs) : (w.cell? ⟨X, 0, none⟩ = some (.slice ar nr cr) ∧ w.cell? ⟨X, 1, none⟩ = some (.slice o p q)) ∧ w.frozen? ⟨X, 0, none⟩ = false ∧ w.frozen? ⟨X, 1, none⟩ = false := cells2 h.box

theorem RowSt.push {B : Nat} {w w' : World} {X : Nat} {ar : Option Addr} {nr cr : Nat} {o : Option Addr} {p q : Nat} {own : List Int} {zs zs' : List VR} (h : RowSt B w X ar nr cr o p q own zs) {a' : Option Addr} {n' c' : Nat} (how : w'.ownsRow B 100 3 (.slice a' n' c') n' (vrowF.all zs')) (hg : w.grownBy w' (Value.slice ar nr cr).ownBlock) :
  (w'.cell? ⟨X, 0, none⟩ = some (.slice ar nr cr) ∧ w'.frozen? ⟨X, 0, none⟩ = false) ∧ RowSt B (w'.setCell ⟨X, 0, none⟩ (.slice a' n' c')) X a' n' c' o p q own zs' := by
 have hbx := kept_grown h.box hg (fun k hk => box_ne h.rows h.box (by decide) k hk)
 have hown := gown_type h.own h.rows (by decide) hg
 have hc := cells2 hbx
 refine ⟨⟨hc.1.1, hc.2.1⟩, ?_, gown_other how (grown_set (rb := X) 0 _) (box_ne how hbx (by decide)), gown_other hown (grown_set (rb := X) 0 _) (box_ne hown hbx (by decide))⟩
 rw [set_block5 hbx]
 rfl

theorem putRow_keep {x r : VR} {t : List VR} {d : Bool} {zs : List VR} (h : (!d && decide (r.i ≤ x.i)) = false) (hne : (x.i != r.i) = true) : zs ++ [x] ++ putRowF t r (d || decide (r.i ≤ x.i)) = zs ++ putRowF (x :: t) r d := by
 rw [show putRowF (x :: t) r d = (if !d && decide (r.i ≤ x.i) then [r] else []) ++ (if x.i != r.i then [x] else []) ++ putRowF t r (d || decide (r.i ≤ x.i)) by simp [putRowF]]
 rw [h, hne]
 simp
theorem putRow_skip {x r : VR} {t : List VR} {d : Bool} {zs : List VR} (h : (!d && decide (r.i ≤ x.i)) = false) (hne : (x.i != r.i) = false) : zs ++ putRowF t r (d || decide (r.i ≤ x.i)) = zs ++ putRowF (x :: t) r d := by
 rw [show putRowF (x :: t) r d = (if !d && decide (r.i ≤ x.i) then [r] else []) ++ (if x.i != r.i then [x] else []) ++ putRowF t r (d || decide (r.i ≤ x.i)) by simp [putRowF]]
 rw [h, hne]
 simp
theorem putRow_both {x r : VR} {t : List VR} {d : Bool} {zs : List VR} (h : (!d && decide (r.i ≤ x.i)) = true) (hne : (x.i != r.i) = true) : (zs ++ [r]) ++ [x] ++ putRowF t r (d || decide (r.i ≤ x.i)) = zs ++ putRowF (x :: t) r d := by
 rw [show putRowF (x :: t) r d = (if !d && decide (r.i ≤ x.i) then [r] else []) ++ (if x.i != r.i then [x] else []) ++ putRowF t r (d || decide (r.i ≤ x.i)) by simp [putRowF]]
 rw [h, hne]
 simp
theorem putRow_here {x r : VR} {t : List VR} {d : Bool} {zs : List VR} (h : (!d && decide (r.i ≤ x.i)) = true) (hne : (x.i != r.i) = false) : (zs ++ [r]) ++ putRowF t r (d || decide (r.i ≤ x.i)) = zs ++ putRowF (x :: t) r d := by
 rw [show putRowF (x :: t) r d = (if !d && decide (r.i ≤ x.i) then [r] else []) ++ (if x.i != r.i then [x] else []) ++ putRowF t r (d || decide (r.i ≤ x.i)) by simp [putRowF]]
 rw [h, hne]
 simp

structure BrOwn (w : World) (base : Nat) (a : Option Addr) (n c : Nat) (fa : Option Addr) (fn fc : Nat) (ra : Option Addr) (rn rc : Nat) (oa : Option Addr) (on oc : Nat) (B : BR) : Prop where
 ports : w.ownsRow base 95 8 (.slice a n c) n (ptF.all B.ports)
 f : w.ownsRow base 97 5 (.slice fa fn fc) fn (fentF.all B.f)
 v : VOwn w base ra rn rc oa on oc B.v

theorem BrOwn.row {w : World} {base : Nat} {a : Option Addr} {n c : Nat} {fa : Option Addr} {fn fc : Nat} {ra : Option Addr} {rn rc : Nat} {oa : Option Addr} {on oc : Nat} {B : BR} (h : BrOwn w base a n c fa fn fc ra rn rc oa on oc B) : BrRow w a n c fa fn fc ra rn rc oa on oc B :=
 ⟨grow_own (F := ptF) h.ports, grow_own (F := fentF) h.f, h.v.tab⟩

theorem BrOwn.below {w w' : World} {base : Nat} {a : Option Addr} {n c : Nat} {fa : Option Addr} {fn fc : Nat} {ra : Option Addr} {rn rc : Nat} {oa : Option Addr} {on oc : Nat} {B : BR} (h : BrOwn w base a n c fa fn fc ra rn rc oa on oc B) (hb : Below w.heap.size w w') : BrOwn w' base a n c fa fn fc ra rn rc oa on oc B :=
 ⟨gown_below h.ports hb, gown_below h.f hb, h.v.below hb⟩

theorem BrOwn.lt {w : World} {base base' : Nat} {a : Option Addr} {n c : Nat} {fa : Option Addr} {fn fc : Nat} {ra : Option Addr} {rn rc : Nat} {oa : Option Addr} {on oc : Nat} {B : BR} (h : BrOwn w base a n c fa fn fc ra rn rc oa on oc B) (hle : base' ≤ base) : BrOwn w base' a n c fa fn fc ra rn rc oa on oc B :=
 ⟨gown_lt h.ports hle, gown_lt h.f hle, h.v.lt hle⟩

theorem BrOwn.apart {w w' : World} {base : Nat} {a : Option Addr} {n c : Nat} {fa : Option Addr} {fn fc : Nat} {ra : Option Addr} {rn rc : Nat} {oa : Option Addr} {on oc : Nat} {B : BR} (h : BrOwn w base a n c fa fn fc ra rn rc oa on oc B) {row : Option Nat} (hg : w.grownBy w' row) (hlt : ∀ b, row = some b → b < base) : BrOwn w' base a n c fa fn fc ra rn rc oa on oc B :=
 ⟨gown_apart h.ports hg hlt, gown_apart h.f hg hlt, ⟨gown_apart h.v.rows hg hlt, gown_apart h.v.own hg hlt, h.v.i64⟩⟩

theorem BrOwn.boxed {w : World} {base : Nat} {a : Option Addr} {n c : Nat} {fa : Option Addr} {fn fc : Nat} {ra : Option Addr} {rn rc : Nat} {oa : Option Addr} {on oc : Nat} {B : BR} (h : BrOwn w base a n c fa fn fc ra rn rc oa on oc B) {X : Nat} {cs : Array Value} (hX : w.heap[X]? = some (.cells cs 31)) (j : Nat) (u : Value) : BrOwn (w.setCell ⟨X, j, none⟩ u) base a n c fa fn fc ra rn rc oa on oc B :=
 ⟨gown_other h.ports (grown_set (rb := X) j u) (box_ne h.ports hX (by decide)), gown_other h.f (grown_set (rb := X) j u) (box_ne h.f hX (by decide)),
  ⟨gown_other h.v.rows (grown_set (rb := X) j u) (box_ne h.v.rows hX (by decide)), gown_other h.v.own (grown_set (rb := X) j u) (box_ne h.v.own hX (by decide)), h.v.i64⟩⟩

theorem BrOwn.newPorts {w w' : World} {base : Nat} {a : Option Addr} {n c : Nat} {fa : Option Addr} {fn fc : Nat} {ra : Option Addr} {rn rc : Nat} {oa : Option Addr} {on oc : Nat} {B : BR} (h : BrOwn w base a n c fa fn fc ra rn rc oa on oc B) (hg : w.grownBy w' (Value.slice a n c).ownBlock) {a' : Option Addr} {n' c' : Nat} {l : List PT} (hp : w'.ownsRow base 95 8 (.slice a' n' c') n' (ptF.all l)) :
  BrOwn w' base a' n' c' fa fn fc ra rn rc oa on oc { B with ports := l } :=
 ⟨hp, gown_type h.f h.ports (by decide) hg, ⟨gown_type h.v.rows h.ports (by decide) hg, gown_type h.v.own h.ports (by decide) hg, h.v.i64⟩⟩

theorem BrOwn.putPorts {w w' : World} {base : Nat} {a : Option Addr} {n c : Nat} {fa : Option Addr} {fn fc : Nat} {ra : Option Addr} {rn rc : Nat} {oa : Option Addr} {on oc : Nat} {B : BR} (h : BrOwn w base a n c fa fn fc ra rn rc oa on oc B) (hb : Below w.heap.size w w') {a' : Option Addr} {n' c' : Nat} {l : List PT} (hp : w'.ownsRow base 95 8 (.slice a' n' c') n' (ptF.all l)) : BrOwn w' base a' n' c' fa fn fc ra rn rc oa on oc { B with ports := l } :=
 ⟨hp, (h.below hb).f, (h.below hb).v⟩

theorem BrOwn.putF {w w' : World} {base : Nat} {a : Option Addr} {n c : Nat} {fa : Option Addr} {fn fc : Nat} {ra : Option Addr} {rn rc : Nat} {oa : Option Addr} {on oc : Nat} {B : BR} (h : BrOwn w base a n c fa fn fc ra rn rc oa on oc B) (hb : Below w.heap.size w w') {fa' : Option Addr} {fn' fc' : Nat} {l : List FE} (hp : w'.ownsRow base 97 5 (.slice fa' fn' fc') fn' (fentF.all l)) : BrOwn w' base a n c fa' fn' fc' ra rn rc oa on oc { B with f := l } :=
 ⟨(h.below hb).ports, hp, (h.below hb).v⟩

theorem BrOwn.putV {w w' : World} {base : Nat} {a : Option Addr} {n c : Nat} {fa : Option Addr} {fn fc : Nat} {ra : Option Addr} {rn rc : Nat} {oa : Option Addr} {on oc : Nat} {B : BR} (h : BrOwn w base a n c fa fn fc ra rn rc oa on oc B) (hb : Below w.heap.size w w') {ra' : Option Addr} {rn' rc' : Nat} {oa' : Option Addr} {on' oc' : Nat} {v : VT} (hp : VOwn w' base ra' rn' rc' oa' on' oc' v) : BrOwn w' base a n c fa fn fc ra' rn' rc' oa' on' oc' { B with v := v } :=
 ⟨(h.below hb).ports, (h.below hb).f, hp⟩

theorem box11 {w : World} {g : Nat} {cs : Array Value} {T : TypeId} (h : w.heap[g]? = some (.cells cs T)) (j : Nat) (u : Value) : (w.setCell ⟨g, j, none⟩ u).heap[g]? = some (.cells (cs.setIfInBounds j u) T) := set_block5 (j := j) h u

theorem ok_bounds {B : BR} (h : bridgeOk B = true) : B.ports.length ≤ 6 ∧ 0 ≤ B.vers ∧ B.vers ≤ 1000000 ∧ 0 ≤ B.ticks ∧ B.ticks ≤ 1000000 := by
 obtain ⟨-, -, -, h4, -, -, h7, -, -, -, h11⟩ := bridgeOk_parts h
 rw [in1m_iff] at h7 h11
 unfold in3 at h4
 simp at h4
 omega

theorem there_at {B : BR} {n : Nat} {port : Int} (hn : B.ports.length = n) (h : thereB B port = true) : ∃ k : Nat, port = (k : Int) ∧ k < n ∧ ∃ x, B.ports[k]? = some x := by
 unfold thereB at h
 simp only [Bool.and_eq_true, decide_eq_true_eq] at h
 obtain ⟨-, h0, h1⟩ := h
 refine ⟨port.toNat, by omega, by omega, B.ports[port.toNat]'(by omega), List.getElem?_eq_getElem (by omega)⟩

set_option maxRecDepth 100000 in
set_option maxHeartbeats 1000000 in
theorem specEgress_any (a : Option Addr) (n c : Nat) (o : Option Addr) (p q : Nat) (v : VT) (id : Int) (w : World) (h : GRow vrowF w a n c v.rows) :
  Calls Tryz.prog 56 #[.agg #[.slice a n c, .slice o p q], .int .i64 id] w fun r w' => r = .returned (.int .i64 (egressOf v id)) ∧ Below w.heap.size w w' := by
 have hle := h.le
 have htop := h.top
 unfold maxLen at htop
 have hsz := hide h.size
 generalize hw1 : w.alloc (Obj.cells #[Value.slice a n c, Value.slice o p q] 29) = w1
 have q0 : Below w.heap.size w w1 := by subst hw1; exact below_one _ _
 obtain ⟨x0, x1⟩ := box_two hw1 (Below.refl _ w1)
 cases hr : rowIdx v.rows id with
 | none =>
  rw [show egressOf v id = 0 by unfold egressOf; rw [rowIdx_find hr]]
  have HA : Hid (rowAt v.rows id = -1) := hide (by unfold rowAt; rw [hr])
  clear hr
  go_enter Tryz.func56, Tryz.ntmps56
  go_wp2_with fail
  refine (specRowAt_any a n c v.rows o p q id _ (h.below q0)).mono ?_
  rintro r w2 ⟨rfl, hb2⟩
  rw [HA.out]
  have HB := hide (gr_trans q0 hb2)
  clear hb2 x0 x1
  go_wp2
  go_ret
  exact ⟨rfl, HB.out⟩
 | some k =>
  obtain ⟨x, hx, -, hf⟩ := rowIdx_some hr
  rw [show egressOf v id = x.m by unfold egressOf; rw [hf]]
  have HA : Hid (rowAt v.rows id = (k : Int)) := hide (by unfold rowAt; rw [hr])
  have hkn : k < n := by have := (List.getElem?_eq_some_iff.1 hx).1; have := hsz.out; omega
  have hneg : ¬ ((k : Int) < 0) := by omega
  have i1 : (0 : Int) ≤ (k : Int) := by omega
  have i2 : (k : Int) < (n : Int) := by omega
  clear hr hf
  go_enter Tryz.func56, Tryz.ntmps56
  go_wp2_with fail
  refine (specRowAt_any a n c v.rows o p q id _ (h.below q0)).mono ?_
  rintro r w2 ⟨rfl, hb2⟩
  rw [HA.out]
  obtain ⟨y, b, off, hy, rfl, c0, c1, c2⟩ := vrow_at (h.below (gr_trans q0 hb2)) k hkn
  rw [hx] at hy
  cases hy
  obtain ⟨y0, y1⟩ := box_two hw1 hb2
  have HB := hide (gr_trans q0 hb2)
  clear hb2 x0 x1 hx
  go_wp2
  go_ret
  exact ⟨rfl, HB.out⟩

def vtabNew (ports : Int) : VT := if (decide (1 ≤ ports) && decide (ports ≤ 6)) = true then ⟨[⟨1, allOf ports.toNat, allOf ports.toNat⟩], List.replicate ports.toNat 1⟩ else ⟨[], []⟩

theorem vtabNew_no {ports : Int} (h : (decide (1 ≤ ports) && decide (ports ≤ 6)) = false) : vtabNew ports = ⟨[], []⟩ := by
 unfold vtabNew
 rw [h, if_neg Bool.false_ne_true]
theorem vtabNew_yes {p : Nat} (h : (decide (1 ≤ (p : Int)) && decide ((p : Int) ≤ 6)) = true) : vtabNew p = ⟨[⟨1, allOf p, allOf p⟩], List.replicate p 1⟩ := by
 unfold vtabNew
 rw [if_pos h, Int.toNat_natCast]

theorem ones_i64 (k : Nat) : I64s (List.replicate k 1) := by
 intro z hz
 rw [List.eq_of_mem_replicate hz]
 exact ⟨by decide, by decide⟩

theorem own_one {α : Type} (F : Flat α) {w : World} {g base : Nat} {x : α} {cs : Array Value} {T : TypeId} (h : w.heap[g]? = some (.cells cs T)) (hc : cs.toList = F.cs x) (hb : base ≤ g) : w.ownsRow base T F.k (.slice (some ⟨g, 0, none⟩) 1 1) 1 (F.all [x]) := by
 have hl : cs.toList.length = F.k := by rw [hc, F.len]
 refine ⟨by rw [F.all_length]; rfl, .inr ⟨g, 1, cs, rfl, hb, h, Nat.le_refl _, by unfold maxLen; omega, ?_, ?_⟩⟩
 ·have := hl
  simp at this
  rw [this, Nat.one_mul]
 ·rw [F.all_one, Nat.one_mul, ← hc, ← hl, List.take_length]

theorem vownNone (w : World) (base : Nat) : VOwn w base none 0 0 none 0 0 ⟨[], []⟩ := ⟨World.ownsRow_nil _ _ _ _, World.ownsRow_nil _ _ _ _, (by intro z hz; cases hz)⟩

set_option maxRecDepth 100000 in
set_option maxHeartbeats 4000000 in
theorem specVtabNew_made (ports : Int) (w : World) :
  Calls Tryz.prog 151 #[.int .i64 ports] w fun e w' => ∃ a n c o p q, e = .returned (.agg #[.slice a n c, .slice o p q]) ∧ VOwn w' w.heap.size a n c o p q (vtabNew ports) ∧ Below w.heap.size w w' := by
 generalize hw1 : w.alloc (Obj.cells #[Value.slice none 0 0, Value.slice none 0 0] 29) = w1
 have b01 : Below w.heap.size w w1 := by subst hw1; exact below_one _ _
 have k0 : w1.heap[w.heap.size]? = some (.cells #[.slice none 0 0, .slice none 0 0] 29) := by rw [← hw1]; exact block_last _ _
 have z1 : Hid (w.heap.size < w1.heap.size) := hide (by rw [← hw1]; simp)
 cases hin : (decide (1 ≤ ports) && decide (ports ≤ 6))
 ·rw [vtabNew_no hin]
  have HIN := hide hin
  clear hin
  obtain ⟨⟨g0, g1⟩, f0, f1⟩ := cells2 k0
  have HB := hide (below_set (below_set b01 (Nat.le_refl _) 0 (.slice none 0 0)) (Nat.le_refl _) 1 (.slice none 0 0))
  go_enter Tryz.func151, Tryz.ntmps151
  go_wp2_with (refine (within_any ports 1 6 _).mono ?_; rintro r w2 ⟨rfl, e2⟩; obtain rfl := e2.symm; rw [HIN.out])
  exact bodyPost_ret (v := .agg #[.slice none 0 0, .slice none 0 0]) (by simp [results, Tryz.results151, go_sem, *]) rfl ⟨_, _, _, _, _, _, rfl, vownNone _ _, HB.out⟩
 ·obtain ⟨p, rfl⟩ : ∃ p : Nat, ports = (p : Int) := ⟨ports.toNat, by simp at hin; omega⟩
  rw [vtabNew_yes hin]
  have HIN := hide hin
  have hp : 1 ≤ (p : Int) ∧ (p : Int) ≤ 6 := by simpa using hin
  clear hin
  generalize hw2 : w1.alloc (Obj.cells #[Value.int .i64 1, Value.int .i64 (allOf p), Value.int .i64 (allOf p)] 100) = w2
  have b12 : Below w1.heap.size w1 w2 := by subst hw2; exact below_one _ _
  have k1 : w2.heap[w1.heap.size]? = some (.cells #[.int .i64 1, .int .i64 (allOf p), .int .i64 (allOf p)] 100) := by rw [← hw2]; exact block_last _ _
  generalize hwz : w2.alloc (Obj.cells #[Value.slice none 0 0, Value.slice none 0 0] 29) = wz
  have b2z : Below w2.heap.size w2 wz := by subst hwz; exact below_one _ _
  have kz : wz.heap[w2.heap.size]? = some (.cells #[.slice none 0 0, .slice none 0 0] 29) := by rw [← hwz]; exact block_last _ _
  obtain ⟨⟨j0, j1⟩, j2, j3⟩ := cells2 kz
  generalize hw3 : (wz.setCell ⟨w2.heap.size, 0, none⟩ (Value.slice (some ⟨w1.heap.size, 0, none⟩) 1 1)).setCell ⟨w2.heap.size, 1, none⟩ (Value.slice none 0 0) = w3
  have b23 : Below w2.heap.size w2 w3 := by subst hw3; exact below_set (below_set b2z (Nat.le_refl _) _ _) (Nat.le_refl _) _ _
  have k2 : w3.heap[w2.heap.size]? = some (.cells #[.slice (some ⟨w1.heap.size, 0, none⟩) 1 1, .slice none 0 0] 29) := by
   have h1 := set_block5 (j := 0) kz (Value.slice (some ⟨w1.heap.size, 0, none⟩) 1 1)
   have h2 := set_block5 (j := 1) h1 (Value.slice none 0 0)
   rw [hw3] at h2
   exact h2
  have hR : w3.ownsRow w1.heap.size 100 3 (.slice (some ⟨w1.heap.size, 0, none⟩) 1 1) 1 (vrowF.all [⟨1, allOf p, allOf p⟩]) := gown_below (own_one vrowF (x := ⟨1, allOf p, allOf p⟩) k1 rfl (Nat.le_refl _)) b23
  have b13 := gr_trans b12 b23
  have hall := vall_is p hp.1 hp.2
  have X2 : Hid (w1.heap.size ≤ w2.heap.size) := hide b12.size
  have hwp : IntKind.u64.wrap (p : Int) = (p : Int) := by rw [IntKind.wrap_u64]; omega
  go_enter Tryz.func151, Tryz.ntmps151
  go_wp2_with (refine (within_any (p : Int) 1 6 _).mono ?_; rintro r wy ⟨rfl, ey⟩; obtain rfl := ey.symm; rw [HIN.out])
  go_wp2
  rw [hall]
  clear j0 j1 j2 j3
  go_loopw [5] (fun i wr => ∃ (k : Nat) (o : Option Addr) (q : Nat), k ≤ p ∧ i = .int .i64 k ∧ wr.heap[w2.heap.size]? = some (.cells #[.slice (some ⟨w1.heap.size, 0, none⟩) 1 1, .slice o k q] 29) ∧ wr.ownsRow w1.heap.size 100 3 (.slice (some ⟨w1.heap.size, 0, none⟩) 1 1) 1 (vrowF.all [⟨1, allOf p, allOf p⟩]) ∧ wr.ownsRow w1.heap.size 3 1 (.slice o k q) k (intF.all (List.replicate k 1)) ∧ Below w1.heap.size w1 wr) (fun i _ => p - (intOf i).toNat)
  case atStart => exact ⟨0, none, 0, Nat.zero_le _, rfl, k2, hR, World.ownsRow_nil _ _ _ _, b13⟩
  case round =>
   obtain ⟨k, o, q, hk, rfl, kX, hRr, hI, hb⟩ := hrel
   by_cases hlt : k < p
   ·obtain ⟨⟨x0, x1⟩, -⟩ := cells2 kX
    generalize hwa : wr.alloc (Obj.cells #[Value.int .i64 1] 3) = wa
    have bra : Below wr.heap.size wr wa := by subst hwa; exact below_one _ _
    have ka : wa.heap[wr.heap.size]? = some (.cells #[.int .i64 1] 3) := by rw [← hwa]; exact block_last _ _
    have gone : GRow intF wa (some ⟨wr.heap.size, 0, none⟩) 1 1 [1] := grow_own (F := intF) (own_one intF (x := 1) (base := 0) ka rfl (Nat.zero_le _))
    have hba := gr_trans hb bra
    have HR2 := hide (gown_below hRr bra)
    have hI2 := gown_below hI bra
    have HI0 := hide hI2
    have HKX := hide (kept_block kX bra)
    have HBA := hide hba
    clear hRr hI kX hb hba k2 hR
    go_wp2_with (at_builtin; refine wpList_append_flat (F := intF) _ rfl _ _ 27 3 rfl w1.heap.size Tryz.underlying27 Tryz.infoI64 rfl (by decide) _ k (List.replicate k 1) rfl hI2 (some ⟨wr.heap.size, 0, none⟩) 1 1 [1] rfl gone (by omega) HBA.out.size ?_)
    intro a7 c7 w7 how hr hgr hb7
    have hown2 := gown_type HR2.out HI0.out (by decide) hgr
    have kX7 := kept_grown HKX.out hgr (fun j hj => box_ne HI0.out HKX.out (by decide) j hj)
    obtain ⟨⟨y0, y1⟩, f0, f1⟩ := cells2 kX7
    have HO : Hid ((w7.setCell ⟨w2.heap.size, 1, none⟩ (.slice a7 (k + 1) c7)).ownsRow w1.heap.size 3 1 (.slice a7 (k + 1) c7) (k + 1) (intF.all (List.replicate (k + 1) 1))) := hide (by
     rw [List.replicate_succ']
     exact gown_other how (grown_set (rb := w2.heap.size) 1 _) (box_ne how kX7 (by decide)))
    have HR3 := hide (gown_other hown2 (grown_set (rb := w2.heap.size) 1 (.slice a7 (k + 1) c7)) (box_ne hown2 kX7 (by decide)))
    have HK3 : Hid ((w7.setCell ⟨w2.heap.size, 1, none⟩ (.slice a7 (k + 1) c7)).heap[w2.heap.size]? = some (.cells #[.slice (some ⟨w1.heap.size, 0, none⟩) 1 1, .slice a7 (k + 1) c7] 29)) := hide (set_block2 kX7 _)
    have HB3 := hide (below_set (HBA.out.trans hb7) X2.out 1 (.slice a7 (k + 1) c7))
    clear how hr hgr hb7 hown2 hI2 x0 x1 gone ka
    go_wp2
    go_roundw
    case rel => exact ⟨k + 1, a7, c7, by omega, by go_num, HK3.out, HR3.out, HO.out, HB3.out⟩
    case measure => simp [intOf]; omega
   ·have hkp : k = p := by omega
    subst hkp
    obtain ⟨⟨x0, x1⟩, -⟩ := cells2 kX
    obtain ⟨⟨g0, g1⟩, f0, f1⟩ := cells2 (kept_block k0 hb)
    have hV : VOwn wr w1.heap.size (some ⟨w1.heap.size, 0, none⟩) 1 1 o k q ⟨[⟨1, allOf k, allOf k⟩], List.replicate k 1⟩ := ⟨hRr, (by rw [← intF_all]; exact hI), ones_i64 _⟩
    have HO := hide ((hV.set2 (g := w.heap.size) z1.out (.slice (some ⟨w1.heap.size, 0, none⟩) 1 1) (.slice o k q)).lt (base' := w.heap.size) b01.size)
    have HB := hide (below_set (below_set (gr_trans b01 hb) (Nat.le_refl _) 0 (.slice (some ⟨w1.heap.size, 0, none⟩) 1 1)) (Nat.le_refl _) 1 (.slice o k q))
    clear hV hRr hI hb k2 hR
    go_wp2
    exact bodyPost_ret (v := .agg #[.slice (some ⟨w1.heap.size, 0, none⟩) 1 1, .slice o k q]) (by simp [results, Tryz.results151, go_sem, *]) rfl ⟨_, _, _, _, _, _, rfl, HO.out, HB.out⟩

def dropRow (v : VT) (id : Int) : VT × Bool := match rowIdx v.rows id with
 | none => (v, false)
 | some k => if vtabOk v v.own.length then orV ⟨v.rows.take k ++ v.rows.drop (k + 1), v.own⟩ v else (v, false)

end Go.Proofs.YtddalpglihhipaaGreat
