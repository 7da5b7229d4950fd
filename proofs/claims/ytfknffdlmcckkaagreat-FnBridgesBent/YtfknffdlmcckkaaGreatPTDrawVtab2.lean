/-
  Tables that are drawn, bent or not.
-/
import Derived.Test.YtfknffdlmcckkaaGreatPTKW
import Derived.Test.YtfknffdlmcckkaaGreatPTDrawVtab
import Derived.Test.YtfknffdlmcckkaaGreatPTK01
namespace Go.Proofs.YtfknffdlmcckkaaGreat
open Go.RowKit

abbrev q196 : Oper := ⟨some 18, .load 26 (.tmp 17), 26, "l09_vlan.go:161", #[⟨0, .data⟩], none⟩
abbrev q197 : Oper := ⟨some 20, .buildSlice 27 4 #[(0, .const (.int .i64 0)), (1, .const (.int .i64 1)), (2, .const (.int .i64 9)), (3, .const (.int .i64 100))], 27, "l09_vlan.go:161", #[], none⟩
abbrev q198 : Oper := ⟨some 21, .call ⟨.value (.func 33), #[.tmp 19, .tmp 20], #[60, 27]⟩, 3, "l09_vlan.go:161", #[⟨2, .data⟩, ⟨3, .data⟩], none⟩
abbrev q199 : Oper := ⟨some 23, .buildSlice 27 4 #[(0, .const (.int .i64 (-1))), (1, .const (.int .i64 0)), (2, .const (.int .i64 1)), (3, .const (.int .i64 64))], 27, "l09_vlan.go:161", #[], none⟩
abbrev q200 : Oper := ⟨some 24, .call ⟨.value (.func 33), #[.tmp 22, .tmp 23], #[60, 27]⟩, 3, "l09_vlan.go:161", #[⟨5, .data⟩, ⟨6, .data⟩, ⟨4, .chain⟩], none⟩
abbrev q201 : Oper := ⟨some 26, .call ⟨.value (.func 31), #[.tmp 25, .const (.int .i64 3)], #[60, 3]⟩, 3, "l09_vlan.go:161", #[⟨8, .data⟩, ⟨7, .chain⟩], none⟩
abbrev q202 : Oper := ⟨some 27, .build 81 #[(0, .tmp 21), (1, .tmp 24), (2, .tmp 26)], 81, "l09_vlan.go:161", #[⟨4, .data⟩, ⟨7, .data⟩, ⟨9, .data⟩], none⟩
abbrev q203 : Oper := ⟨some 28, .buildSlice 26 1 #[(0, .tmp 27)], 26, "l09_vlan.go:161", #[⟨10, .data⟩], none⟩
abbrev q204 : Oper := ⟨some 29, .call ⟨.builtin .append, #[.tmp 18, .tmp 28], #[26, 26]⟩, 26, "l09_vlan.go:161", #[⟨1, .data⟩, ⟨11, .data⟩, ⟨9, .chain⟩], none⟩
abbrev q205 : Oper := ⟨some 30, .fieldAddr 29 (.tmp 5) 0, 0, "l09_vlan.go:161", #[⟨0, .phase⟩, ⟨1, .phase⟩, ⟨2, .phase⟩, ⟨3, .phase⟩, ⟨4, .phase⟩, ⟨5, .phase⟩, ⟨6, .phase⟩, ⟨7, .phase⟩, ⟨8, .phase⟩, ⟨9, .phase⟩, ⟨10, .phase⟩, ⟨11, .phase⟩, ⟨12, .phase⟩], none⟩
abbrev q206 : Oper := ⟨none, .store 26 (.tmp 30) (.tmp 29), 0, "l09_vlan.go:161", #[⟨13, .data⟩, ⟨12, .data⟩, ⟨12, .chain⟩, ⟨0, .phase⟩, ⟨1, .phase⟩, ⟨2, .phase⟩, ⟨3, .phase⟩, ⟨4, .phase⟩, ⟨5, .phase⟩, ⟨6, .phase⟩, ⟨7, .phase⟩, ⟨8, .phase⟩, ⟨9, .phase⟩, ⟨10, .phase⟩, ⟨11, .phase⟩, ⟨12, .phase⟩], none⟩

theorem pick_blk (C : Nat) (a0 : Option Addr) (l0 c0 : Nat) (z0 : List Int) (xs : List Int) (g n : Nat) (w : World) (hc : Cur w C a0 l0 c0 z0) (hCg : C < g) {cs : Array Value} (hg : w.heap[g]? = some (.cells cs 3)) (hcs : cs = (xs.map (Value.int .i64)).toArray) (hn0 : 0 < xs.length) (hn : xs.length ≤ 1000) (hnx : xs.length = n := by rfl) :
  Calls Tryz.prog 33 #[.pointer (some ⟨C, 0, none⟩), .slice (some ⟨g, 0, none⟩) n n] w fun e w' => ∃ x : Int, x ∈ xs ∧ e = .returned (.int .i64 x) ∧ Went w w' C a0 l0 c0 z0 := by
 subst hnx hcs
 refine (int_any C a0 l0 c0 z0 g xs.length xs _ hc hCg (fun j hj => ?_) rfl hn0 hn).mono ?_
 ·simp only [World.cell?, hg]
  simp [hj]
 ·rintro e w' ⟨x, hx, rfl, went⟩
  exact ⟨x, hx, rfl, went⟩

theorem kept_int {w w' : World} {C : Nat} {a0 : Option Addr} {l0 c0 : Nat} {z0 : List Int} {g : Nat} {cs : Array Value} (h : w.heap[g]? = some (.cells cs 3)) (hc : Cur w C a0 l0 c0 z0) (k : Went w w' C a0 l0 c0 z0) : w'.heap[g]? = some (.cells cs 3) := by
 refine kept_grown h k.grown (fun j e => ?_)
 cases e
 intro e
 subst e
 obtain ⟨i, x, -, -, hh⟩ := hc.here
 rw [hh] at h
 cases h

theorem VSt.pushed {w wr wx : World} {C : Nat} {a0 : Option Addr} {l0 c0 : Nat} {z0 : List Int} {X B : Nat} {a : Option Addr} {n c : Nat} {o : Option Addr} {p q : Nat} {v : VT} (h : VSt w wr C a0 l0 c0 z0 X B a n c o p q v) {a' : Option Addr} {n' c' : Nat} {l : List VR} (how : wx.ownsRow B 81 3 (.slice a' n' c') n' (vrowF.all l)) (hgr : wr.grownBy wx (Value.slice a n c).ownBlock) (hb : Below B wr wx) :
  wx.heap[X]? = some (.cells #[.slice a n c, .slice o p q] 29) ∧ VSt w (wx.setCell ⟨X, 0, none⟩ (.slice a' n' c')) C a0 l0 c0 z0 X B a' n' c' o p q ⟨l, v.own⟩ := by
 have hC := h.hC
 have hB := h.hB
 have hX := h.hX
 have kX := kept_grown h.box hgr (fun k hk => box_ne h.own.rows h.box (by decide) k hk)
 have kR := kept_grown h.res hgr (fun k hk => box_ne h.own.rows h.res (by decide) k hk)
 have hI := gown_type h.own.own h.own.rows (by decide) hgr
 have wn := h.went.madeAt hb (by omega) (by omega)
 refine ⟨kX, ⟨?_, ⟨gown_other how (grown_set (rb := X) 0 _) (box_ne how kX (by decide)), gown_other hI (grown_set (rb := X) 0 _) (box_ne hI kX (by decide)), h.own.i64⟩, kept_set kR (by omega), wn.madeAt (below_set (Below.refl w.heap.size wx) (by omega) _ _) hC (Nat.le_refl _), hC, hB, hX⟩⟩
 exact set_block5 (j := 0) kX _

theorem VSt.setOwn {w wr : World} {C : Nat} {a0 : Option Addr} {l0 c0 : Nat} {z0 : List Int} {X B g : Nat} {a : Option Addr} {n c p q : Nat} {v : VT} (h : VSt w wr C a0 l0 c0 z0 X B a n c (some ⟨g, 0, none⟩) p q v) (hp : 0 < p) {id : Int} (hid : -9223372036854775808 ≤ id ∧ id ≤ 9223372036854775807) :
  ((∃ u, wr.cell? ⟨g, 0, none⟩ = some u) ∧ wr.frozen? ⟨g, 0, none⟩ = false) ∧ VSt w (wr.setCell ⟨g, 0, none⟩ (.int .i64 id)) C a0 l0 c0 z0 X B a n c (some ⟨g, 0, none⟩) p q ⟨v.rows, v.own.set 0 id⟩ := by
 have hC := h.hC
 have hB := h.hB
 have hg := (h.own.own.lt g rfl).1
 have n1 := box_ne h.own.own h.box (by decide) g rfl
 have n2 := box_ne h.own.own h.res (by decide) g rfl
 obtain ⟨f, hO⟩ := h.own.setOwn hp hid
 exact ⟨f, ⟨kept_set h.box (fun e => n1 e.symm), hO, kept_set h.res (fun e => n2 e.symm), h.went.madeAt (below_set (Below.refl w.heap.size wr) (by omega) _ _) hC (Nat.le_refl _), hC, hB, h.hX⟩⟩

theorem Fine.more {v : VT} {p m : Nat} (h : Fine v p m) (r : VR) (hr : r.Few) : Fine ⟨v.rows ++ [r], v.own⟩ p (m + 7) := by
 refine ⟨fun x hx => ?_, h.own, ?_⟩
 ·rcases List.mem_append.1 hx with hx | hx
  ·exact h.rows x hx
  ·rw [List.mem_singleton.1 hx]
   exact hr
 ·have := h.len
  simp
  omega

theorem Fine.owned {v : VT} {p m : Nat} (h : Fine v p m) (id : Int) : Fine ⟨v.rows, v.own.set 0 id⟩ p (m + 7) := ⟨h.rows, by simpa using h.own, by have := h.len; simp only; omega⟩

set_option maxRecDepth 100000 in
set_option maxHeartbeats 16000000 in
theorem l9Any_any (C : Nat) (a0 : Option Addr) (l0 c0 : Nat) (z0 : List Int) (w : World) (hc : Cur w C a0 l0 c0 z0) :
  Calls Tryz.prog 81 #[.pointer (some ⟨C, 0, none⟩)] w fun e w' => ∃ a n c o p q v ports pp, e = .returned (.tuple #[.agg #[.slice a n c, .slice o p q], .int .i64 ports]) ∧ VOwn w' w.heap.size a n c o p q v ∧ Fine v pp 13 ∧ 1 ≤ pp ∧ pp ≤ 4 ∧ (0 ≤ ports ∧ ports ≤ 7) ∧ Went w w' C a0 l0 c0 z0 := by
 have hlt := hc.lt
 generalize hw1 : w.alloc (Obj.cells #[Value.slice none 0 0, Value.slice none 0 0] 29) = w1
 have b01 : Below w.heap.size w w1 := by subst hw1; exact below_one _ _
 have k0 : w1.heap[w.heap.size]? = some (.cells #[.slice none 0 0, .slice none 0 0] 29) := by rw [← hw1]; exact block_last _ _
 have z1 : w.heap.size < w1.heap.size := by rw [← hw1]; simp
 have wn1 := Went.start hc b01
 go_enter Tryz.func81, Tryz.ntmps81
 go_wp2_with fail
 refine (below_any C a0 l0 c0 z0 4 _ wn1.cur (by omega)).mono ?_
 rintro e w2 ⟨x, rfl, hx0, hx1, -, wt2⟩
 have hx1 := hx1 (by omega)
 have wn2 := wn1.trans wt2
 have k2 := kept_grown k0 wt2.grown (by intro k e; cases e; omega)
 have z2 : w.heap.size < w2.heap.size := Nat.lt_of_lt_of_le z1 wt2.grown.size
 have hwx : IntKind.i64.wrap (1 + x) = 1 + x := by rw [IntKind.wrap_i64]; omega
 obtain ⟨pp, hpp⟩ : ∃ pp : Nat, 1 + x = (pp : Int) := ⟨(1 + x).toNat, by omega⟩
 have hp1 : 1 ≤ pp := by omega
 have hp4 : pp ≤ 4 := by omega
 clear wt2 wn1 k0 z1
 go_wp2_with fail
 refine (l9Draw_any C a0 l0 c0 z0 pp hp1 (by omega) _ wn2.cur).mono ?_
 rintro e w3 ⟨a, n, c, o, p, q, v, rfl, t3, hF, wt3⟩
 obtain ⟨B, hB⟩ : ∃ B, B = w2.heap.size := ⟨_, rfl⟩
 generalize hwX : w3.alloc (Obj.cells #[Value.slice a n c, Value.slice o p q] 29) = wX
 have b3X : Below w3.heap.size w3 wX := by subst hwX; exact below_one _ _
 have st : VSt w wX C a0 l0 c0 z0 w3.heap.size B a n c o p q v := ⟨by rw [← hwX]; exact block_last _ _, by rw [hB]; exact t3.below b3X, kept_block (kept_grown k2 wt3.grown (by intro k e; cases e; omega)) b3X, (wn2.trans wt3).made b3X, hlt, by rw [hB]; exact z2, by rw [hB]; exact wt3.grown.size⟩
 obtain ⟨⟨x0, x1⟩, x2, x3⟩ := cells2 st.box
 clear t3 b3X k2 wt3 wn2
 go_wp2_with fail
 refine (below_any C a0 l0 c0 z0 12 _ st.went.cur (by omega)).mono ?_
 rintro e w4 ⟨y, rfl, hy0, hy1, -, wt4⟩
 have st := st.draw wt4
 clear wt4 x0 x1 x2 x3 hwX hy1
 generalize w3.heap.size = X at st ⊢
 have hln := st.own.len
 have hFl := hF.len
 have hFo := hF.own
 have H67 : Hid (n ≤ 6 ∧ p = pp) := hide (by omega)
 have hn6 : n ≤ 6 := H67.out.1
 have HF := hide hF
 have HLN := hide hln
 clear hF hln hFl hFo hpp hwx
 by_cases y0 : y = 0
 ·subst y0
  have st := st.below (gr_drew (Below.refl _ _))
  obtain ⟨⟨x0, x1⟩, -⟩ := cells2 st.box
  go_wp2_with fail
  refine wp_region_held_drew (S := (fun _ => True)) (by kernel_rfl) (trivial) (fun hHeld => ?_)
  refine kK 0 ⟨some 17, .fieldAddr 29 (.tmp 5) 0, 0, "l09_vlan.go:161", #[], none⟩ ?_
  refine kK 2 ⟨some 19, .move (.tmp 0), 60, "l09_vlan.go:161", #[], none⟩ ?_
  refine kK 5 ⟨some 22, .move (.tmp 0), 60, "l09_vlan.go:161", #[], none⟩ ?_
  refine kK 8 ⟨some 25, .move (.tmp 0), 60, "l09_vlan.go:161", #[], none⟩ ?_
  refine tR [1, 3, 6] ?_
  refine AllReadyH.cons (o := q196) rfl (fun K hK => ?_) ?_
  ·go_simp
   refine hK.out _ _ (trivial) (fun hHeld => ?_)
   clear hK K
   try simp only [Act.put, lA, lB, lC]
   refine tR [3, 6] ?_
   refine AllReadyH.cons (o := q197) rfl (fun K hK => ?_) ?_
   ·go_simp
    first
    | refine made_new (K := K _) (fun wx kq1 hbx => ?_)
    | refine made_drew (K := K _) (fun wx kq1 hbx => ?_)
    try have kq2 := kept_block kq2 hbx
    have hq1 := st.went.cur.lt
    have st := st.below hbx
    clear hbx x0 x1
    obtain ⟨⟨x0, x1⟩, -⟩ := cells2 st.box
    refine hK.out _ _ (trivial) (fun hHeld => ?_)
    clear hK K
    try simp only [Act.put, lA, lB, lC]
    refine tR [4, 6] ?_
    refine AllReadyH.cons (o := q198) rfl (fun K hK => ?_) ?_
    ·go_simp
     refine (pick_blk C a0 l0 c0 z0 [0, 1, 9, 100] _ _ _ st.went.cur hq1 kq1 rfl (by simp) (by simp)).mono ?_
     rintro e wx ⟨i, hi, rfl, wtx⟩
     have hi : 0 ≤ i ∧ i ≤ 100 := by simp at hi; omega
     try have kq2 := kept_int kq2 st.went.cur wtx
     have st := st.draw wtx
     clear wtx x0 x1
     obtain ⟨⟨x0, x1⟩, -⟩ := cells2 st.box
     go_wp2_with fail
     refine hK.out _ _ (trivial) (fun hHeld => ?_)
     clear hK K
     try simp only [Act.put, lA, lB, lC]
     refine tR [6] ?_
     refine AllReadyH.cons (o := q199) rfl (fun K hK => ?_) ?_
     ·go_simp
      first
      | refine made_new (K := K _) (fun wx kq2 hbx => ?_)
      | refine made_drew (K := K _) (fun wx kq2 hbx => ?_)
      try have kq1 := kept_block kq1 hbx
      have hq2 := st.went.cur.lt
      have st := st.below hbx
      clear hbx x0 x1
      obtain ⟨⟨x0, x1⟩, -⟩ := cells2 st.box
      refine hK.out _ _ (trivial) (fun hHeld => ?_)
      clear hK K
      try simp only [Act.put, lA, lB, lC]
      refine tR [7] ?_
      refine AllReadyH.cons (o := q200) rfl (fun K hK => ?_) ?_
      ·go_simp
       refine (pick_blk C a0 l0 c0 z0 [-1, 0, 1, 64] _ _ _ st.went.cur hq2 kq2 rfl (by simp) (by simp)).mono ?_
       rintro e wx ⟨m, hm, rfl, wtx⟩
       have hm : -1 ≤ m ∧ m ≤ 64 := by simp at hm; omega
       have st := st.draw wtx
       clear wtx x0 x1
       obtain ⟨⟨x0, x1⟩, -⟩ := cells2 st.box
       go_wp2_with fail
       refine hK.out _ _ (trivial) (fun hHeld => ?_)
       clear hK K
       try simp only [Act.put, lA, lB, lC]
       refine tR [9] ?_
       refine AllReadyH.cons (o := q201) rfl (fun K hK => ?_) ?_
       ·go_simp
        refine (below_any C a0 l0 c0 z0 3 _ st.went.cur (by omega)).mono ?_
        rintro e wx ⟨b, rfl, hb0, hb1, -, wtx⟩
        have hb1 := hb1 (by omega)
        have st := st.draw wtx
        clear wtx x0 x1
        obtain ⟨⟨x0, x1⟩, -⟩ := cells2 st.box
        go_wp2_with fail
        refine hK.out _ _ (trivial) (fun hHeld => ?_)
        clear hK K
        try simp only [Act.put, lA, lB, lC]
        refine kK 10 q202 ?_
        refine tR [11] ?_
        refine AllReadyH.cons (o := q203) rfl (fun K hK => ?_) ?_
        ·go_simp
         first
         | refine made_new (K := K _) (fun wx kr hbx => ?_)
         | refine made_drew (K := K _) (fun wx kr hbx => ?_)
         have gr : GRow vrowF wx _ 1 1 [⟨i, m, b⟩] := grow_own (F := vrowF) (own_one vrowF (x := ⟨i, m, b⟩) (base := 0) kr rfl (Nat.zero_le _))
         have st := st.below hbx
         clear hbx kr x0 x1
         obtain ⟨⟨x0, x1⟩, -⟩ := cells2 st.box
         refine hK.out _ _ (trivial) (fun hHeld => ?_)
         clear hK K
         try simp only [Act.put, lA, lB, lC]
         refine tR [12] ?_
         refine AllReadyH.cons (o := q204) rfl (fun K hK => ?_) ?_
         ·refine step_append_flat (F := vrowF) rfl _ _ 26 81 rfl B Tryz.underlying26 vrowInfo rfl (by decide) _ n v.rows rfl st.own.rows _ 1 1 [⟨i, m, b⟩] rfl gr (by omega) st.size ?_
          intro a7 c7 wx how hrow hgr hbx
          have st2 := st.pushed how hgr hbx
          obtain ⟨⟨x0, x1⟩, x2, x3⟩ := cells2 st2.1
          clear how hrow hgr hbx gr st
          refine hK.out _ _ (trivial) (fun hHeld => ?_)
          clear hK K
          try simp only [Act.put, lA, lB, lC]
          refine kK 13 q205 ?_
          refine tR [14] ?_
          refine AllReadyH.cons (o := q206) rfl (fun K hK => ?_) ?_
          ·go_simp
           have st := st2.2
           clear st2
           refine hK.out _ _ (trivial) (fun hHeld => ?_)
           clear hK K
           try simp only [Act.put, lA, lB, lC]
           refine wpAnyH_done (by kernel_rfl) ?_ _
           clear hHeld x0 x1 x2 x3
           obtain ⟨⟨x0, x1⟩, -⟩ := cells2 st.box
           obtain ⟨⟨g0, g1⟩, f0, f1⟩ := cells2 st.res
           have HO := hide st.out
           have HFF := hide (HF.out.more ⟨i, m, b⟩ (by unfold VR.Few VR.Rng I64; simp only; omega))
           clear st
           go_wp2
           exact bodyPost_ret (v := .tuple #[.agg #[.slice a7 (n + 1) c7, .slice o p q], .int .i64 (pp : Int)]) (by simp [results, Tryz.results81, go_sem, *]) rfl ⟨_, _, _, _, _, _, _, (pp : Int), pp, rfl, HO.out.1, HFF.out, by omega, by omega, by omega, HO.out.2⟩
          exact AllReadyH.nil
         exact AllReadyH.nil
        exact AllReadyH.nil
       exact AllReadyH.nil
      exact AllReadyH.nil
     exact AllReadyH.nil
    refine AllReadyH.cons (o := q199) rfl (fun K hK => ?_) ?_
    ·go_simp
     first
     | refine made_new (K := K _) (fun wx kq2 hbx => ?_)
     | refine made_drew (K := K _) (fun wx kq2 hbx => ?_)
     try have kq1 := kept_block kq1 hbx
     have hq2 := st.went.cur.lt
     have st := st.below hbx
     clear hbx x0 x1
     obtain ⟨⟨x0, x1⟩, -⟩ := cells2 st.box
     refine hK.out _ _ (trivial) (fun hHeld => ?_)
     clear hK K
     try simp only [Act.put, lA, lB, lC]
     refine tR [4] ?_
     refine AllReadyH.cons (o := q198) rfl (fun K hK => ?_) ?_
     ·go_simp
      refine (pick_blk C a0 l0 c0 z0 [0, 1, 9, 100] _ _ _ st.went.cur hq1 kq1 rfl (by simp) (by simp)).mono ?_
      rintro e wx ⟨i, hi, rfl, wtx⟩
      have hi : 0 ≤ i ∧ i ≤ 100 := by simp at hi; omega
      try have kq2 := kept_int kq2 st.went.cur wtx
      have st := st.draw wtx
      clear wtx x0 x1
      obtain ⟨⟨x0, x1⟩, -⟩ := cells2 st.box
      go_wp2_with fail
      refine hK.out _ _ (trivial) (fun hHeld => ?_)
      clear hK K
      try simp only [Act.put, lA, lB, lC]
      refine tR [7] ?_
      refine AllReadyH.cons (o := q200) rfl (fun K hK => ?_) ?_
      ·go_simp
       refine (pick_blk C a0 l0 c0 z0 [-1, 0, 1, 64] _ _ _ st.went.cur hq2 kq2 rfl (by simp) (by simp)).mono ?_
       rintro e wx ⟨m, hm, rfl, wtx⟩
       have hm : -1 ≤ m ∧ m ≤ 64 := by simp at hm; omega
       have st := st.draw wtx
       clear wtx x0 x1
       obtain ⟨⟨x0, x1⟩, -⟩ := cells2 st.box
       go_wp2_with fail
       refine hK.out _ _ (trivial) (fun hHeld => ?_)
       clear hK K
       try simp only [Act.put, lA, lB, lC]
       refine tR [9] ?_
       refine AllReadyH.cons (o := q201) rfl (fun K hK => ?_) ?_
       ·go_simp
        refine (below_any C a0 l0 c0 z0 3 _ st.went.cur (by omega)).mono ?_
        rintro e wx ⟨b, rfl, hb0, hb1, -, wtx⟩
        have hb1 := hb1 (by omega)
        have st := st.draw wtx
        clear wtx x0 x1
        obtain ⟨⟨x0, x1⟩, -⟩ := cells2 st.box
        go_wp2_with fail
        refine hK.out _ _ (trivial) (fun hHeld => ?_)
        clear hK K
        try simp only [Act.put, lA, lB, lC]
        refine kK 10 q202 ?_
        refine tR [11] ?_
        refine AllReadyH.cons (o := q203) rfl (fun K hK => ?_) ?_
        ·go_simp
         first
         | refine made_new (K := K _) (fun wx kr hbx => ?_)
         | refine made_drew (K := K _) (fun wx kr hbx => ?_)
         have gr : GRow vrowF wx _ 1 1 [⟨i, m, b⟩] := grow_own (F := vrowF) (own_one vrowF (x := ⟨i, m, b⟩) (base := 0) kr rfl (Nat.zero_le _))
         have st := st.below hbx
         clear hbx kr x0 x1
         obtain ⟨⟨x0, x1⟩, -⟩ := cells2 st.box
         refine hK.out _ _ (trivial) (fun hHeld => ?_)
         clear hK K
         try simp only [Act.put, lA, lB, lC]
         refine tR [12] ?_
         refine AllReadyH.cons (o := q204) rfl (fun K hK => ?_) ?_
         ·refine step_append_flat (F := vrowF) rfl _ _ 26 81 rfl B Tryz.underlying26 vrowInfo rfl (by decide) _ n v.rows rfl st.own.rows _ 1 1 [⟨i, m, b⟩] rfl gr (by omega) st.size ?_
          intro a7 c7 wx how hrow hgr hbx
          have st2 := st.pushed how hgr hbx
          obtain ⟨⟨x0, x1⟩, x2, x3⟩ := cells2 st2.1
          clear how hrow hgr hbx gr st
          refine hK.out _ _ (trivial) (fun hHeld => ?_)
          clear hK K
          try simp only [Act.put, lA, lB, lC]
          refine kK 13 q205 ?_
          refine tR [14] ?_
          refine AllReadyH.cons (o := q206) rfl (fun K hK => ?_) ?_
          ·go_simp
           have st := st2.2
           clear st2
           refine hK.out _ _ (trivial) (fun hHeld => ?_)
           clear hK K
           try simp only [Act.put, lA, lB, lC]
           refine wpAnyH_done (by kernel_rfl) ?_ _
           clear hHeld x0 x1 x2 x3
           obtain ⟨⟨x0, x1⟩, -⟩ := cells2 st.box
           obtain ⟨⟨g0, g1⟩, f0, f1⟩ := cells2 st.res
           have HO := hide st.out
           have HFF := hide (HF.out.more ⟨i, m, b⟩ (by unfold VR.Few VR.Rng I64; simp only; omega))
           clear st
           go_wp2
           exact bodyPost_ret (v := .tuple #[.agg #[.slice a7 (n + 1) c7, .slice o p q], .int .i64 (pp : Int)]) (by simp [results, Tryz.results81, go_sem, *]) rfl ⟨_, _, _, _, _, _, _, (pp : Int), pp, rfl, HO.out.1, HFF.out, by omega, by omega, by omega, HO.out.2⟩
          exact AllReadyH.nil
         exact AllReadyH.nil
        exact AllReadyH.nil
       exact AllReadyH.nil
      exact AllReadyH.nil
     exact AllReadyH.nil
    exact AllReadyH.nil
   refine AllReadyH.cons (o := q199) rfl (fun K hK => ?_) ?_
   ·go_simp
    first
    | refine made_new (K := K _) (fun wx kq2 hbx => ?_)
    | refine made_drew (K := K _) (fun wx kq2 hbx => ?_)
    try have kq1 := kept_block kq1 hbx
    have hq2 := st.went.cur.lt
    have st := st.below hbx
    clear hbx x0 x1
    obtain ⟨⟨x0, x1⟩, -⟩ := cells2 st.box
    refine hK.out _ _ (trivial) (fun hHeld => ?_)
    clear hK K
    try simp only [Act.put, lA, lB, lC]
    refine tR [3] ?_
    refine AllReadyH.cons (o := q197) rfl (fun K hK => ?_) ?_
    ·go_simp
     first
     | refine made_new (K := K _) (fun wx kq1 hbx => ?_)
     | refine made_drew (K := K _) (fun wx kq1 hbx => ?_)
     try have kq2 := kept_block kq2 hbx
     have hq1 := st.went.cur.lt
     have st := st.below hbx
     clear hbx x0 x1
     obtain ⟨⟨x0, x1⟩, -⟩ := cells2 st.box
     refine hK.out _ _ (trivial) (fun hHeld => ?_)
     clear hK K
     try simp only [Act.put, lA, lB, lC]
     refine tR [4] ?_
     refine AllReadyH.cons (o := q198) rfl (fun K hK => ?_) ?_
     ·go_simp
      refine (pick_blk C a0 l0 c0 z0 [0, 1, 9, 100] _ _ _ st.went.cur hq1 kq1 rfl (by simp) (by simp)).mono ?_
      rintro e wx ⟨i, hi, rfl, wtx⟩
      have hi : 0 ≤ i ∧ i ≤ 100 := by simp at hi; omega
      try have kq2 := kept_int kq2 st.went.cur wtx
      have st := st.draw wtx
      clear wtx x0 x1
      obtain ⟨⟨x0, x1⟩, -⟩ := cells2 st.box
      go_wp2_with fail
      refine hK.out _ _ (trivial) (fun hHeld => ?_)
      clear hK K
      try simp only [Act.put, lA, lB, lC]
      refine tR [7] ?_
      refine AllReadyH.cons (o := q200) rfl (fun K hK => ?_) ?_
      ·go_simp
       refine (pick_blk C a0 l0 c0 z0 [-1, 0, 1, 64] _ _ _ st.went.cur hq2 kq2 rfl (by simp) (by simp)).mono ?_
       rintro e wx ⟨m, hm, rfl, wtx⟩
       have hm : -1 ≤ m ∧ m ≤ 64 := by simp at hm; omega
       have st := st.draw wtx
       clear wtx x0 x1
       obtain ⟨⟨x0, x1⟩, -⟩ := cells2 st.box
       go_wp2_with fail
       refine hK.out _ _ (trivial) (fun hHeld => ?_)
       clear hK K
       try simp only [Act.put, lA, lB, lC]
       refine tR [9] ?_
       refine AllReadyH.cons (o := q201) rfl (fun K hK => ?_) ?_
       ·go_simp
        refine (below_any C a0 l0 c0 z0 3 _ st.went.cur (by omega)).mono ?_
        rintro e wx ⟨b, rfl, hb0, hb1, -, wtx⟩
        have hb1 := hb1 (by omega)
        have st := st.draw wtx
        clear wtx x0 x1
        obtain ⟨⟨x0, x1⟩, -⟩ := cells2 st.box
        go_wp2_with fail
        refine hK.out _ _ (trivial) (fun hHeld => ?_)
        clear hK K
        try simp only [Act.put, lA, lB, lC]
        refine kK 10 q202 ?_
        refine tR [11] ?_
        refine AllReadyH.cons (o := q203) rfl (fun K hK => ?_) ?_
        ·go_simp
         first
         | refine made_new (K := K _) (fun wx kr hbx => ?_)
         | refine made_drew (K := K _) (fun wx kr hbx => ?_)
         have gr : GRow vrowF wx _ 1 1 [⟨i, m, b⟩] := grow_own (F := vrowF) (own_one vrowF (x := ⟨i, m, b⟩) (base := 0) kr rfl (Nat.zero_le _))
         have st := st.below hbx
         clear hbx kr x0 x1
         obtain ⟨⟨x0, x1⟩, -⟩ := cells2 st.box
         refine hK.out _ _ (trivial) (fun hHeld => ?_)
         clear hK K
         try simp only [Act.put, lA, lB, lC]
         refine tR [12] ?_
         refine AllReadyH.cons (o := q204) rfl (fun K hK => ?_) ?_
         ·refine step_append_flat (F := vrowF) rfl _ _ 26 81 rfl B Tryz.underlying26 vrowInfo rfl (by decide) _ n v.rows rfl st.own.rows _ 1 1 [⟨i, m, b⟩] rfl gr (by omega) st.size ?_
          intro a7 c7 wx how hrow hgr hbx
          have st2 := st.pushed how hgr hbx
          obtain ⟨⟨x0, x1⟩, x2, x3⟩ := cells2 st2.1
          clear how hrow hgr hbx gr st
          refine hK.out _ _ (trivial) (fun hHeld => ?_)
          clear hK K
          try simp only [Act.put, lA, lB, lC]
          refine kK 13 q205 ?_
          refine tR [14] ?_
          refine AllReadyH.cons (o := q206) rfl (fun K hK => ?_) ?_
          ·go_simp
           have st := st2.2
           clear st2
           refine hK.out _ _ (trivial) (fun hHeld => ?_)
           clear hK K
           try simp only [Act.put, lA, lB, lC]
           refine wpAnyH_done (by kernel_rfl) ?_ _
           clear hHeld x0 x1 x2 x3
           obtain ⟨⟨x0, x1⟩, -⟩ := cells2 st.box
           obtain ⟨⟨g0, g1⟩, f0, f1⟩ := cells2 st.res
           have HO := hide st.out
           have HFF := hide (HF.out.more ⟨i, m, b⟩ (by unfold VR.Few VR.Rng I64; simp only; omega))
           clear st
           go_wp2
           exact bodyPost_ret (v := .tuple #[.agg #[.slice a7 (n + 1) c7, .slice o p q], .int .i64 (pp : Int)]) (by simp [results, Tryz.results81, go_sem, *]) rfl ⟨_, _, _, _, _, _, _, (pp : Int), pp, rfl, HO.out.1, HFF.out, by omega, by omega, by omega, HO.out.2⟩
          exact AllReadyH.nil
         exact AllReadyH.nil
        exact AllReadyH.nil
       exact AllReadyH.nil
      exact AllReadyH.nil
     exact AllReadyH.nil
    exact AllReadyH.nil
   exact AllReadyH.nil
  refine AllReadyH.cons (o := q197) rfl (fun K hK => ?_) ?_
  ·go_simp
   first
   | refine made_new (K := K _) (fun wx kq1 hbx => ?_)
   | refine made_drew (K := K _) (fun wx kq1 hbx => ?_)
   try have kq2 := kept_block kq2 hbx
   have hq1 := st.went.cur.lt
   have st := st.below hbx
   clear hbx x0 x1
   obtain ⟨⟨x0, x1⟩, -⟩ := cells2 st.box
   refine hK.out _ _ (trivial) (fun hHeld => ?_)
   clear hK K
   try simp only [Act.put, lA, lB, lC]
   refine tR [1, 4, 6] ?_
   refine AllReadyH.cons (o := q196) rfl (fun K hK => ?_) ?_
   ·go_simp
    refine hK.out _ _ (trivial) (fun hHeld => ?_)
    clear hK K
    try simp only [Act.put, lA, lB, lC]
    refine tR [4, 6] ?_
    refine AllReadyH.cons (o := q198) rfl (fun K hK => ?_) ?_
    ·go_simp
     refine (pick_blk C a0 l0 c0 z0 [0, 1, 9, 100] _ _ _ st.went.cur hq1 kq1 rfl (by simp) (by simp)).mono ?_
     rintro e wx ⟨i, hi, rfl, wtx⟩
     have hi : 0 ≤ i ∧ i ≤ 100 := by simp at hi; omega
     try have kq2 := kept_int kq2 st.went.cur wtx
     have st := st.draw wtx
     clear wtx x0 x1
     obtain ⟨⟨x0, x1⟩, -⟩ := cells2 st.box
     go_wp2_with fail
     refine hK.out _ _ (trivial) (fun hHeld => ?_)
     clear hK K
     try simp only [Act.put, lA, lB, lC]
     refine tR [6] ?_
     refine AllReadyH.cons (o := q199) rfl (fun K hK => ?_) ?_
     ·go_simp
      first
      | refine made_new (K := K _) (fun wx kq2 hbx => ?_)
      | refine made_drew (K := K _) (fun wx kq2 hbx => ?_)
      try have kq1 := kept_block kq1 hbx
      have hq2 := st.went.cur.lt
      have st := st.below hbx
      clear hbx x0 x1
      obtain ⟨⟨x0, x1⟩, -⟩ := cells2 st.box
      refine hK.out _ _ (trivial) (fun hHeld => ?_)
      clear hK K
      try simp only [Act.put, lA, lB, lC]
      refine tR [7] ?_
      refine AllReadyH.cons (o := q200) rfl (fun K hK => ?_) ?_
      ·go_simp
       refine (pick_blk C a0 l0 c0 z0 [-1, 0, 1, 64] _ _ _ st.went.cur hq2 kq2 rfl (by simp) (by simp)).mono ?_
       rintro e wx ⟨m, hm, rfl, wtx⟩
       have hm : -1 ≤ m ∧ m ≤ 64 := by simp at hm; omega
       have st := st.draw wtx
       clear wtx x0 x1
       obtain ⟨⟨x0, x1⟩, -⟩ := cells2 st.box
       go_wp2_with fail
       refine hK.out _ _ (trivial) (fun hHeld => ?_)
       clear hK K
       try simp only [Act.put, lA, lB, lC]
       refine tR [9] ?_
       refine AllReadyH.cons (o := q201) rfl (fun K hK => ?_) ?_
       ·go_simp
        refine (below_any C a0 l0 c0 z0 3 _ st.went.cur (by omega)).mono ?_
        rintro e wx ⟨b, rfl, hb0, hb1, -, wtx⟩
        have hb1 := hb1 (by omega)
        have st := st.draw wtx
        clear wtx x0 x1
        obtain ⟨⟨x0, x1⟩, -⟩ := cells2 st.box
        go_wp2_with fail
        refine hK.out _ _ (trivial) (fun hHeld => ?_)
        clear hK K
        try simp only [Act.put, lA, lB, lC]
        refine kK 10 q202 ?_
        refine tR [11] ?_
        refine AllReadyH.cons (o := q203) rfl (fun K hK => ?_) ?_
        ·go_simp
         first
         | refine made_new (K := K _) (fun wx kr hbx => ?_)
         | refine made_drew (K := K _) (fun wx kr hbx => ?_)
         have gr : GRow vrowF wx _ 1 1 [⟨i, m, b⟩] := grow_own (F := vrowF) (own_one vrowF (x := ⟨i, m, b⟩) (base := 0) kr rfl (Nat.zero_le _))
         have st := st.below hbx
         clear hbx kr x0 x1
         obtain ⟨⟨x0, x1⟩, -⟩ := cells2 st.box
         refine hK.out _ _ (trivial) (fun hHeld => ?_)
         clear hK K
         try simp only [Act.put, lA, lB, lC]
         refine tR [12] ?_
         refine AllReadyH.cons (o := q204) rfl (fun K hK => ?_) ?_
         ·refine step_append_flat (F := vrowF) rfl _ _ 26 81 rfl B Tryz.underlying26 vrowInfo rfl (by decide) _ n v.rows rfl st.own.rows _ 1 1 [⟨i, m, b⟩] rfl gr (by omega) st.size ?_
          intro a7 c7 wx how hrow hgr hbx
          have st2 := st.pushed how hgr hbx
          obtain ⟨⟨x0, x1⟩, x2, x3⟩ := cells2 st2.1
          clear how hrow hgr hbx gr st
          refine hK.out _ _ (trivial) (fun hHeld => ?_)
          clear hK K
          try simp only [Act.put, lA, lB, lC]
          refine kK 13 q205 ?_
          refine tR [14] ?_
          refine AllReadyH.cons (o := q206) rfl (fun K hK => ?_) ?_
          ·go_simp
           have st := st2.2
           clear st2
           refine hK.out _ _ (trivial) (fun hHeld => ?_)
           clear hK K
           try simp only [Act.put, lA, lB, lC]
           refine wpAnyH_done (by kernel_rfl) ?_ _
           clear hHeld x0 x1 x2 x3
           obtain ⟨⟨x0, x1⟩, -⟩ := cells2 st.box
           obtain ⟨⟨g0, g1⟩, f0, f1⟩ := cells2 st.res
           have HO := hide st.out
           have HFF := hide (HF.out.more ⟨i, m, b⟩ (by unfold VR.Few VR.Rng I64; simp only; omega))
           clear st
           go_wp2
           exact bodyPost_ret (v := .tuple #[.agg #[.slice a7 (n + 1) c7, .slice o p q], .int .i64 (pp : Int)]) (by simp [results, Tryz.results81, go_sem, *]) rfl ⟨_, _, _, _, _, _, _, (pp : Int), pp, rfl, HO.out.1, HFF.out, by omega, by omega, by omega, HO.out.2⟩
          exact AllReadyH.nil
         exact AllReadyH.nil
        exact AllReadyH.nil
       exact AllReadyH.nil
      exact AllReadyH.nil
     exact AllReadyH.nil
    refine AllReadyH.cons (o := q199) rfl (fun K hK => ?_) ?_
    ·go_simp
     first
     | refine made_new (K := K _) (fun wx kq2 hbx => ?_)
     | refine made_drew (K := K _) (fun wx kq2 hbx => ?_)
     try have kq1 := kept_block kq1 hbx
     have hq2 := st.went.cur.lt
     have st := st.below hbx
     clear hbx x0 x1
     obtain ⟨⟨x0, x1⟩, -⟩ := cells2 st.box
     refine hK.out _ _ (trivial) (fun hHeld => ?_)
     clear hK K
     try simp only [Act.put, lA, lB, lC]
     refine tR [4] ?_
     refine AllReadyH.cons (o := q198) rfl (fun K hK => ?_) ?_
     ·go_simp
      refine (pick_blk C a0 l0 c0 z0 [0, 1, 9, 100] _ _ _ st.went.cur hq1 kq1 rfl (by simp) (by simp)).mono ?_
      rintro e wx ⟨i, hi, rfl, wtx⟩
      have hi : 0 ≤ i ∧ i ≤ 100 := by simp at hi; omega
      try have kq2 := kept_int kq2 st.went.cur wtx
      have st := st.draw wtx
      clear wtx x0 x1
      obtain ⟨⟨x0, x1⟩, -⟩ := cells2 st.box
      go_wp2_with fail
      refine hK.out _ _ (trivial) (fun hHeld => ?_)
      clear hK K
      try simp only [Act.put, lA, lB, lC]
      refine tR [7] ?_
      refine AllReadyH.cons (o := q200) rfl (fun K hK => ?_) ?_
      ·go_simp
       refine (pick_blk C a0 l0 c0 z0 [-1, 0, 1, 64] _ _ _ st.went.cur hq2 kq2 rfl (by simp) (by simp)).mono ?_
       rintro e wx ⟨m, hm, rfl, wtx⟩
       have hm : -1 ≤ m ∧ m ≤ 64 := by simp at hm; omega
       have st := st.draw wtx
       clear wtx x0 x1
       obtain ⟨⟨x0, x1⟩, -⟩ := cells2 st.box
       go_wp2_with fail
       refine hK.out _ _ (trivial) (fun hHeld => ?_)
       clear hK K
       try simp only [Act.put, lA, lB, lC]
       refine tR [9] ?_
       refine AllReadyH.cons (o := q201) rfl (fun K hK => ?_) ?_
       ·go_simp
        refine (below_any C a0 l0 c0 z0 3 _ st.went.cur (by omega)).mono ?_
        rintro e wx ⟨b, rfl, hb0, hb1, -, wtx⟩
        have hb1 := hb1 (by omega)
        have st := st.draw wtx
        clear wtx x0 x1
        obtain ⟨⟨x0, x1⟩, -⟩ := cells2 st.box
        go_wp2_with fail
        refine hK.out _ _ (trivial) (fun hHeld => ?_)
        clear hK K
        try simp only [Act.put, lA, lB, lC]
        refine kK 10 q202 ?_
        refine tR [11] ?_
        refine AllReadyH.cons (o := q203) rfl (fun K hK => ?_) ?_
        ·go_simp
         first
         | refine made_new (K := K _) (fun wx kr hbx => ?_)
         | refine made_drew (K := K _) (fun wx kr hbx => ?_)
         have gr : GRow vrowF wx _ 1 1 [⟨i, m, b⟩] := grow_own (F := vrowF) (own_one vrowF (x := ⟨i, m, b⟩) (base := 0) kr rfl (Nat.zero_le _))
         have st := st.below hbx
         clear hbx kr x0 x1
         obtain ⟨⟨x0, x1⟩, -⟩ := cells2 st.box
         refine hK.out _ _ (trivial) (fun hHeld => ?_)
         clear hK K
         try simp only [Act.put, lA, lB, lC]
         refine tR [12] ?_
         refine AllReadyH.cons (o := q204) rfl (fun K hK => ?_) ?_
         ·refine step_append_flat (F := vrowF) rfl _ _ 26 81 rfl B Tryz.underlying26 vrowInfo rfl (by decide) _ n v.rows rfl st.own.rows _ 1 1 [⟨i, m, b⟩] rfl gr (by omega) st.size ?_
          intro a7 c7 wx how hrow hgr hbx
          have st2 := st.pushed how hgr hbx
          obtain ⟨⟨x0, x1⟩, x2, x3⟩ := cells2 st2.1
          clear how hrow hgr hbx gr st
          refine hK.out _ _ (trivial) (fun hHeld => ?_)
          clear hK K
          try simp only [Act.put, lA, lB, lC]
          refine kK 13 q205 ?_
          refine tR [14] ?_
          refine AllReadyH.cons (o := q206) rfl (fun K hK => ?_) ?_
          ·go_simp
           have st := st2.2
           clear st2
           refine hK.out _ _ (trivial) (fun hHeld => ?_)
           clear hK K
           try simp only [Act.put, lA, lB, lC]
           refine wpAnyH_done (by kernel_rfl) ?_ _
           clear hHeld x0 x1 x2 x3
           obtain ⟨⟨x0, x1⟩, -⟩ := cells2 st.box
           obtain ⟨⟨g0, g1⟩, f0, f1⟩ := cells2 st.res
           have HO := hide st.out
           have HFF := hide (HF.out.more ⟨i, m, b⟩ (by unfold VR.Few VR.Rng I64; simp only; omega))
           clear st
           go_wp2
           exact bodyPost_ret (v := .tuple #[.agg #[.slice a7 (n + 1) c7, .slice o p q], .int .i64 (pp : Int)]) (by simp [results, Tryz.results81, go_sem, *]) rfl ⟨_, _, _, _, _, _, _, (pp : Int), pp, rfl, HO.out.1, HFF.out, by omega, by omega, by omega, HO.out.2⟩
          exact AllReadyH.nil
         exact AllReadyH.nil
        exact AllReadyH.nil
       exact AllReadyH.nil
      exact AllReadyH.nil
     exact AllReadyH.nil
    exact AllReadyH.nil
   refine AllReadyH.cons (o := q198) rfl (fun K hK => ?_) ?_
   ·go_simp
    refine (pick_blk C a0 l0 c0 z0 [0, 1, 9, 100] _ _ _ st.went.cur hq1 kq1 rfl (by simp) (by simp)).mono ?_
    rintro e wx ⟨i, hi, rfl, wtx⟩
    have hi : 0 ≤ i ∧ i ≤ 100 := by simp at hi; omega
    try have kq2 := kept_int kq2 st.went.cur wtx
    have st := st.draw wtx
    clear wtx x0 x1
    obtain ⟨⟨x0, x1⟩, -⟩ := cells2 st.box
    go_wp2_with fail
    refine hK.out _ _ (trivial) (fun hHeld => ?_)
    clear hK K
    try simp only [Act.put, lA, lB, lC]
    refine tR [1, 6] ?_
    refine AllReadyH.cons (o := q196) rfl (fun K hK => ?_) ?_
    ·go_simp
     refine hK.out _ _ (trivial) (fun hHeld => ?_)
     clear hK K
     try simp only [Act.put, lA, lB, lC]
     refine tR [6] ?_
     refine AllReadyH.cons (o := q199) rfl (fun K hK => ?_) ?_
     ·go_simp
      first
      | refine made_new (K := K _) (fun wx kq2 hbx => ?_)
      | refine made_drew (K := K _) (fun wx kq2 hbx => ?_)
      try have kq1 := kept_block kq1 hbx
      have hq2 := st.went.cur.lt
      have st := st.below hbx
      clear hbx x0 x1
      obtain ⟨⟨x0, x1⟩, -⟩ := cells2 st.box
      refine hK.out _ _ (trivial) (fun hHeld => ?_)
      clear hK K
      try simp only [Act.put, lA, lB, lC]
      refine tR [7] ?_
      refine AllReadyH.cons (o := q200) rfl (fun K hK => ?_) ?_
      ·go_simp
       refine (pick_blk C a0 l0 c0 z0 [-1, 0, 1, 64] _ _ _ st.went.cur hq2 kq2 rfl (by simp) (by simp)).mono ?_
       rintro e wx ⟨m, hm, rfl, wtx⟩
       have hm : -1 ≤ m ∧ m ≤ 64 := by simp at hm; omega
       have st := st.draw wtx
       clear wtx x0 x1
       obtain ⟨⟨x0, x1⟩, -⟩ := cells2 st.box
       go_wp2_with fail
       refine hK.out _ _ (trivial) (fun hHeld => ?_)
       clear hK K
       try simp only [Act.put, lA, lB, lC]
       refine tR [9] ?_
       refine AllReadyH.cons (o := q201) rfl (fun K hK => ?_) ?_
       ·go_simp
        refine (below_any C a0 l0 c0 z0 3 _ st.went.cur (by omega)).mono ?_
        rintro e wx ⟨b, rfl, hb0, hb1, -, wtx⟩
        have hb1 := hb1 (by omega)
        have st := st.draw wtx
        clear wtx x0 x1
        obtain ⟨⟨x0, x1⟩, -⟩ := cells2 st.box
        go_wp2_with fail
        refine hK.out _ _ (trivial) (fun hHeld => ?_)
        clear hK K
        try simp only [Act.put, lA, lB, lC]
        refine kK 10 q202 ?_
        refine tR [11] ?_
        refine AllReadyH.cons (o := q203) rfl (fun K hK => ?_) ?_
        ·go_simp
         first
         | refine made_new (K := K _) (fun wx kr hbx => ?_)
         | refine made_drew (K := K _) (fun wx kr hbx => ?_)
         have gr : GRow vrowF wx _ 1 1 [⟨i, m, b⟩] := grow_own (F := vrowF) (own_one vrowF (x := ⟨i, m, b⟩) (base := 0) kr rfl (Nat.zero_le _))
         have st := st.below hbx
         clear hbx kr x0 x1
         obtain ⟨⟨x0, x1⟩, -⟩ := cells2 st.box
         refine hK.out _ _ (trivial) (fun hHeld => ?_)
         clear hK K
         try simp only [Act.put, lA, lB, lC]
         refine tR [12] ?_
         refine AllReadyH.cons (o := q204) rfl (fun K hK => ?_) ?_
         ·refine step_append_flat (F := vrowF) rfl _ _ 26 81 rfl B Tryz.underlying26 vrowInfo rfl (by decide) _ n v.rows rfl st.own.rows _ 1 1 [⟨i, m, b⟩] rfl gr (by omega) st.size ?_
          intro a7 c7 wx how hrow hgr hbx
          have st2 := st.pushed how hgr hbx
          obtain ⟨⟨x0, x1⟩, x2, x3⟩ := cells2 st2.1
          clear how hrow hgr hbx gr st
          refine hK.out _ _ (trivial) (fun hHeld => ?_)
          clear hK K
          try simp only [Act.put, lA, lB, lC]
          refine kK 13 q205 ?_
          refine tR [14] ?_
          refine AllReadyH.cons (o := q206) rfl (fun K hK => ?_) ?_
          ·go_simp
           have st := st2.2
           clear st2
           refine hK.out _ _ (trivial) (fun hHeld => ?_)
           clear hK K
           try simp only [Act.put, lA, lB, lC]
           refine wpAnyH_done (by kernel_rfl) ?_ _
           clear hHeld x0 x1 x2 x3
           obtain ⟨⟨x0, x1⟩, -⟩ := cells2 st.box
           obtain ⟨⟨g0, g1⟩, f0, f1⟩ := cells2 st.res
           have HO := hide st.out
           have HFF := hide (HF.out.more ⟨i, m, b⟩ (by unfold VR.Few VR.Rng I64; simp only; omega))
           clear st
           go_wp2
           exact bodyPost_ret (v := .tuple #[.agg #[.slice a7 (n + 1) c7, .slice o p q], .int .i64 (pp : Int)]) (by simp [results, Tryz.results81, go_sem, *]) rfl ⟨_, _, _, _, _, _, _, (pp : Int), pp, rfl, HO.out.1, HFF.out, by omega, by omega, by omega, HO.out.2⟩
          exact AllReadyH.nil
         exact AllReadyH.nil
        exact AllReadyH.nil
       exact AllReadyH.nil
      exact AllReadyH.nil
     exact AllReadyH.nil
    refine AllReadyH.cons (o := q199) rfl (fun K hK => ?_) ?_
    ·go_simp
     first
     | refine made_new (K := K _) (fun wx kq2 hbx => ?_)
     | refine made_drew (K := K _) (fun wx kq2 hbx => ?_)
     try have kq1 := kept_block kq1 hbx
     have hq2 := st.went.cur.lt
     have st := st.below hbx
     clear hbx x0 x1
     obtain ⟨⟨x0, x1⟩, -⟩ := cells2 st.box
     refine hK.out _ _ (trivial) (fun hHeld => ?_)
     clear hK K
     try simp only [Act.put, lA, lB, lC]
     refine tR [1, 7] ?_
     refine AllReadyH.cons (o := q196) rfl (fun K hK => ?_) ?_
     ·go_simp
      refine hK.out _ _ (trivial) (fun hHeld => ?_)
      clear hK K
      try simp only [Act.put, lA, lB, lC]
      refine tR [7] ?_
      refine AllReadyH.cons (o := q200) rfl (fun K hK => ?_) ?_
      ·go_simp
       refine (pick_blk C a0 l0 c0 z0 [-1, 0, 1, 64] _ _ _ st.went.cur hq2 kq2 rfl (by simp) (by simp)).mono ?_
       rintro e wx ⟨m, hm, rfl, wtx⟩
       have hm : -1 ≤ m ∧ m ≤ 64 := by simp at hm; omega
       have st := st.draw wtx
       clear wtx x0 x1
       obtain ⟨⟨x0, x1⟩, -⟩ := cells2 st.box
       go_wp2_with fail
       refine hK.out _ _ (trivial) (fun hHeld => ?_)
       clear hK K
       try simp only [Act.put, lA, lB, lC]
       refine tR [9] ?_
       refine AllReadyH.cons (o := q201) rfl (fun K hK => ?_) ?_
       ·go_simp
        refine (below_any C a0 l0 c0 z0 3 _ st.went.cur (by omega)).mono ?_
        rintro e wx ⟨b, rfl, hb0, hb1, -, wtx⟩
        have hb1 := hb1 (by omega)
        have st := st.draw wtx
        clear wtx x0 x1
        obtain ⟨⟨x0, x1⟩, -⟩ := cells2 st.box
        go_wp2_with fail
        refine hK.out _ _ (trivial) (fun hHeld => ?_)
        clear hK K
        try simp only [Act.put, lA, lB, lC]
        refine kK 10 q202 ?_
        refine tR [11] ?_
        refine AllReadyH.cons (o := q203) rfl (fun K hK => ?_) ?_
        ·go_simp
         first
         | refine made_new (K := K _) (fun wx kr hbx => ?_)
         | refine made_drew (K := K _) (fun wx kr hbx => ?_)
         have gr : GRow vrowF wx _ 1 1 [⟨i, m, b⟩] := grow_own (F := vrowF) (own_one vrowF (x := ⟨i, m, b⟩) (base := 0) kr rfl (Nat.zero_le _))
         have st := st.below hbx
         clear hbx kr x0 x1
         obtain ⟨⟨x0, x1⟩, -⟩ := cells2 st.box
         refine hK.out _ _ (trivial) (fun hHeld => ?_)
         clear hK K
         try simp only [Act.put, lA, lB, lC]
         refine tR [12] ?_
         refine AllReadyH.cons (o := q204) rfl (fun K hK => ?_) ?_
         ·refine step_append_flat (F := vrowF) rfl _ _ 26 81 rfl B Tryz.underlying26 vrowInfo rfl (by decide) _ n v.rows rfl st.own.rows _ 1 1 [⟨i, m, b⟩] rfl gr (by omega) st.size ?_
          intro a7 c7 wx how hrow hgr hbx
          have st2 := st.pushed how hgr hbx
          obtain ⟨⟨x0, x1⟩, x2, x3⟩ := cells2 st2.1
          clear how hrow hgr hbx gr st
          refine hK.out _ _ (trivial) (fun hHeld => ?_)
          clear hK K
          try simp only [Act.put, lA, lB, lC]
          refine kK 13 q205 ?_
          refine tR [14] ?_
          refine AllReadyH.cons (o := q206) rfl (fun K hK => ?_) ?_
          ·go_simp
           have st := st2.2
           clear st2
           refine hK.out _ _ (trivial) (fun hHeld => ?_)
           clear hK K
           try simp only [Act.put, lA, lB, lC]
           refine wpAnyH_done (by kernel_rfl) ?_ _
           clear hHeld x0 x1 x2 x3
           obtain ⟨⟨x0, x1⟩, -⟩ := cells2 st.box
           obtain ⟨⟨g0, g1⟩, f0, f1⟩ := cells2 st.res
           have HO := hide st.out
           have HFF := hide (HF.out.more ⟨i, m, b⟩ (by unfold VR.Few VR.Rng I64; simp only; omega))
           clear st
           go_wp2
           exact bodyPost_ret (v := .tuple #[.agg #[.slice a7 (n + 1) c7, .slice o p q], .int .i64 (pp : Int)]) (by simp [results, Tryz.results81, go_sem, *]) rfl ⟨_, _, _, _, _, _, _, (pp : Int), pp, rfl, HO.out.1, HFF.out, by omega, by omega, by omega, HO.out.2⟩
          exact AllReadyH.nil
         exact AllReadyH.nil
        exact AllReadyH.nil
       exact AllReadyH.nil
      exact AllReadyH.nil
     refine AllReadyH.cons (o := q200) rfl (fun K hK => ?_) ?_
     ·go_simp
      refine (pick_blk C a0 l0 c0 z0 [-1, 0, 1, 64] _ _ _ st.went.cur hq2 kq2 rfl (by simp) (by simp)).mono ?_
      rintro e wx ⟨m, hm, rfl, wtx⟩
      have hm : -1 ≤ m ∧ m ≤ 64 := by simp at hm; omega
      have st := st.draw wtx
      clear wtx x0 x1
      obtain ⟨⟨x0, x1⟩, -⟩ := cells2 st.box
      go_wp2_with fail
      refine hK.out _ _ (trivial) (fun hHeld => ?_)
      clear hK K
      try simp only [Act.put, lA, lB, lC]
      refine tR [1, 9] ?_
      refine AllReadyH.cons (o := q196) rfl (fun K hK => ?_) ?_
      ·go_simp
       refine hK.out _ _ (trivial) (fun hHeld => ?_)
       clear hK K
       try simp only [Act.put, lA, lB, lC]
       refine tR [9] ?_
       refine AllReadyH.cons (o := q201) rfl (fun K hK => ?_) ?_
       ·go_simp
        refine (below_any C a0 l0 c0 z0 3 _ st.went.cur (by omega)).mono ?_
        rintro e wx ⟨b, rfl, hb0, hb1, -, wtx⟩
        have hb1 := hb1 (by omega)
        have st := st.draw wtx
        clear wtx x0 x1
        obtain ⟨⟨x0, x1⟩, -⟩ := cells2 st.box
        go_wp2_with fail
        refine hK.out _ _ (trivial) (fun hHeld => ?_)
        clear hK K
        try simp only [Act.put, lA, lB, lC]
        refine kK 10 q202 ?_
        refine tR [11] ?_
        refine AllReadyH.cons (o := q203) rfl (fun K hK => ?_) ?_
        ·go_simp
         first
         | refine made_new (K := K _) (fun wx kr hbx => ?_)
         | refine made_drew (K := K _) (fun wx kr hbx => ?_)
         have gr : GRow vrowF wx _ 1 1 [⟨i, m, b⟩] := grow_own (F := vrowF) (own_one vrowF (x := ⟨i, m, b⟩) (base := 0) kr rfl (Nat.zero_le _))
         have st := st.below hbx
         clear hbx kr x0 x1
         obtain ⟨⟨x0, x1⟩, -⟩ := cells2 st.box
         refine hK.out _ _ (trivial) (fun hHeld => ?_)
         clear hK K
         try simp only [Act.put, lA, lB, lC]
         refine tR [12] ?_
         refine AllReadyH.cons (o := q204) rfl (fun K hK => ?_) ?_
         ·refine step_append_flat (F := vrowF) rfl _ _ 26 81 rfl B Tryz.underlying26 vrowInfo rfl (by decide) _ n v.rows rfl st.own.rows _ 1 1 [⟨i, m, b⟩] rfl gr (by omega) st.size ?_
          intro a7 c7 wx how hrow hgr hbx
          have st2 := st.pushed how hgr hbx
          obtain ⟨⟨x0, x1⟩, x2, x3⟩ := cells2 st2.1
          clear how hrow hgr hbx gr st
          refine hK.out _ _ (trivial) (fun hHeld => ?_)
          clear hK K
          try simp only [Act.put, lA, lB, lC]
          refine kK 13 q205 ?_
          refine tR [14] ?_
          refine AllReadyH.cons (o := q206) rfl (fun K hK => ?_) ?_
          ·go_simp
           have st := st2.2
           clear st2
           refine hK.out _ _ (trivial) (fun hHeld => ?_)
           clear hK K
           try simp only [Act.put, lA, lB, lC]
           refine wpAnyH_done (by kernel_rfl) ?_ _
           clear hHeld x0 x1 x2 x3
           obtain ⟨⟨x0, x1⟩, -⟩ := cells2 st.box
           obtain ⟨⟨g0, g1⟩, f0, f1⟩ := cells2 st.res
           have HO := hide st.out
           have HFF := hide (HF.out.more ⟨i, m, b⟩ (by unfold VR.Few VR.Rng I64; simp only; omega))
           clear st
           go_wp2
           exact bodyPost_ret (v := .tuple #[.agg #[.slice a7 (n + 1) c7, .slice o p q], .int .i64 (pp : Int)]) (by simp [results, Tryz.results81, go_sem, *]) rfl ⟨_, _, _, _, _, _, _, (pp : Int), pp, rfl, HO.out.1, HFF.out, by omega, by omega, by omega, HO.out.2⟩
          exact AllReadyH.nil
         exact AllReadyH.nil
        exact AllReadyH.nil
       exact AllReadyH.nil
      refine AllReadyH.cons (o := q201) rfl (fun K hK => ?_) ?_
      ·go_simp
       refine (below_any C a0 l0 c0 z0 3 _ st.went.cur (by omega)).mono ?_
       rintro e wx ⟨b, rfl, hb0, hb1, -, wtx⟩
       have hb1 := hb1 (by omega)
       have st := st.draw wtx
       clear wtx x0 x1
       obtain ⟨⟨x0, x1⟩, -⟩ := cells2 st.box
       go_wp2_with fail
       refine hK.out _ _ (trivial) (fun hHeld => ?_)
       clear hK K
       try simp only [Act.put, lA, lB, lC]
       refine kK 10 q202 ?_
       refine tR [1, 11] ?_
       refine AllReadyH.cons (o := q196) rfl (fun K hK => ?_) ?_
       ·go_simp
        refine hK.out _ _ (trivial) (fun hHeld => ?_)
        clear hK K
        try simp only [Act.put, lA, lB, lC]
        refine tR [11] ?_
        refine AllReadyH.cons (o := q203) rfl (fun K hK => ?_) ?_
        ·go_simp
         first
         | refine made_new (K := K _) (fun wx kr hbx => ?_)
         | refine made_drew (K := K _) (fun wx kr hbx => ?_)
         have gr : GRow vrowF wx _ 1 1 [⟨i, m, b⟩] := grow_own (F := vrowF) (own_one vrowF (x := ⟨i, m, b⟩) (base := 0) kr rfl (Nat.zero_le _))
         have st := st.below hbx
         clear hbx kr x0 x1
         obtain ⟨⟨x0, x1⟩, -⟩ := cells2 st.box
         refine hK.out _ _ (trivial) (fun hHeld => ?_)
         clear hK K
         try simp only [Act.put, lA, lB, lC]
         refine tR [12] ?_
         refine AllReadyH.cons (o := q204) rfl (fun K hK => ?_) ?_
         ·refine step_append_flat (F := vrowF) rfl _ _ 26 81 rfl B Tryz.underlying26 vrowInfo rfl (by decide) _ n v.rows rfl st.own.rows _ 1 1 [⟨i, m, b⟩] rfl gr (by omega) st.size ?_
          intro a7 c7 wx how hrow hgr hbx
          have st2 := st.pushed how hgr hbx
          obtain ⟨⟨x0, x1⟩, x2, x3⟩ := cells2 st2.1
          clear how hrow hgr hbx gr st
          refine hK.out _ _ (trivial) (fun hHeld => ?_)
          clear hK K
          try simp only [Act.put, lA, lB, lC]
          refine kK 13 q205 ?_
          refine tR [14] ?_
          refine AllReadyH.cons (o := q206) rfl (fun K hK => ?_) ?_
          ·go_simp
           have st := st2.2
           clear st2
           refine hK.out _ _ (trivial) (fun hHeld => ?_)
           clear hK K
           try simp only [Act.put, lA, lB, lC]
           refine wpAnyH_done (by kernel_rfl) ?_ _
           clear hHeld x0 x1 x2 x3
           obtain ⟨⟨x0, x1⟩, -⟩ := cells2 st.box
           obtain ⟨⟨g0, g1⟩, f0, f1⟩ := cells2 st.res
           have HO := hide st.out
           have HFF := hide (HF.out.more ⟨i, m, b⟩ (by unfold VR.Few VR.Rng I64; simp only; omega))
           clear st
           go_wp2
           exact bodyPost_ret (v := .tuple #[.agg #[.slice a7 (n + 1) c7, .slice o p q], .int .i64 (pp : Int)]) (by simp [results, Tryz.results81, go_sem, *]) rfl ⟨_, _, _, _, _, _, _, (pp : Int), pp, rfl, HO.out.1, HFF.out, by omega, by omega, by omega, HO.out.2⟩
          exact AllReadyH.nil
         exact AllReadyH.nil
        exact AllReadyH.nil
       refine AllReadyH.cons (o := q203) rfl (fun K hK => ?_) ?_
       ·go_simp
        first
        | refine made_new (K := K _) (fun wx kr hbx => ?_)
        | refine made_drew (K := K _) (fun wx kr hbx => ?_)
        have gr : GRow vrowF wx _ 1 1 [⟨i, m, b⟩] := grow_own (F := vrowF) (own_one vrowF (x := ⟨i, m, b⟩) (base := 0) kr rfl (Nat.zero_le _))
        have st := st.below hbx
        clear hbx kr x0 x1
        obtain ⟨⟨x0, x1⟩, -⟩ := cells2 st.box
        refine hK.out _ _ (trivial) (fun hHeld => ?_)
        clear hK K
        try simp only [Act.put, lA, lB, lC]
        refine tR [1] ?_
        refine AllReadyH.cons (o := q196) rfl (fun K hK => ?_) ?_
        ·go_simp
         refine hK.out _ _ (trivial) (fun hHeld => ?_)
         clear hK K
         try simp only [Act.put, lA, lB, lC]
         refine tR [12] ?_
         refine AllReadyH.cons (o := q204) rfl (fun K hK => ?_) ?_
         ·refine step_append_flat (F := vrowF) rfl _ _ 26 81 rfl B Tryz.underlying26 vrowInfo rfl (by decide) _ n v.rows rfl st.own.rows _ 1 1 [⟨i, m, b⟩] rfl gr (by omega) st.size ?_
          intro a7 c7 wx how hrow hgr hbx
          have st2 := st.pushed how hgr hbx
          obtain ⟨⟨x0, x1⟩, x2, x3⟩ := cells2 st2.1
          clear how hrow hgr hbx gr st
          refine hK.out _ _ (trivial) (fun hHeld => ?_)
          clear hK K
          try simp only [Act.put, lA, lB, lC]
          refine kK 13 q205 ?_
          refine tR [14] ?_
          refine AllReadyH.cons (o := q206) rfl (fun K hK => ?_) ?_
          ·go_simp
           have st := st2.2
           clear st2
           refine hK.out _ _ (trivial) (fun hHeld => ?_)
           clear hK K
           try simp only [Act.put, lA, lB, lC]
           refine wpAnyH_done (by kernel_rfl) ?_ _
           clear hHeld x0 x1 x2 x3
           obtain ⟨⟨x0, x1⟩, -⟩ := cells2 st.box
           obtain ⟨⟨g0, g1⟩, f0, f1⟩ := cells2 st.res
           have HO := hide st.out
           have HFF := hide (HF.out.more ⟨i, m, b⟩ (by unfold VR.Few VR.Rng I64; simp only; omega))
           clear st
           go_wp2
           exact bodyPost_ret (v := .tuple #[.agg #[.slice a7 (n + 1) c7, .slice o p q], .int .i64 (pp : Int)]) (by simp [results, Tryz.results81, go_sem, *]) rfl ⟨_, _, _, _, _, _, _, (pp : Int), pp, rfl, HO.out.1, HFF.out, by omega, by omega, by omega, HO.out.2⟩
          exact AllReadyH.nil
         exact AllReadyH.nil
        exact AllReadyH.nil
       exact AllReadyH.nil
      exact AllReadyH.nil
     exact AllReadyH.nil
    exact AllReadyH.nil
   refine AllReadyH.cons (o := q199) rfl (fun K hK => ?_) ?_
   ·go_simp
    first
    | refine made_new (K := K _) (fun wx kq2 hbx => ?_)
    | refine made_drew (K := K _) (fun wx kq2 hbx => ?_)
    try have kq1 := kept_block kq1 hbx
    have hq2 := st.went.cur.lt
    have st := st.below hbx
    clear hbx x0 x1
    obtain ⟨⟨x0, x1⟩, -⟩ := cells2 st.box
    refine hK.out _ _ (trivial) (fun hHeld => ?_)
    clear hK K
    try simp only [Act.put, lA, lB, lC]
    refine tR [1, 4] ?_
    refine AllReadyH.cons (o := q196) rfl (fun K hK => ?_) ?_
    ·go_simp
     refine hK.out _ _ (trivial) (fun hHeld => ?_)
     clear hK K
     try simp only [Act.put, lA, lB, lC]
     refine tR [4] ?_
     refine AllReadyH.cons (o := q198) rfl (fun K hK => ?_) ?_
     ·go_simp
      refine (pick_blk C a0 l0 c0 z0 [0, 1, 9, 100] _ _ _ st.went.cur hq1 kq1 rfl (by simp) (by simp)).mono ?_
      rintro e wx ⟨i, hi, rfl, wtx⟩
      have hi : 0 ≤ i ∧ i ≤ 100 := by simp at hi; omega
      try have kq2 := kept_int kq2 st.went.cur wtx
      have st := st.draw wtx
      clear wtx x0 x1
      obtain ⟨⟨x0, x1⟩, -⟩ := cells2 st.box
      go_wp2_with fail
      refine hK.out _ _ (trivial) (fun hHeld => ?_)
      clear hK K
      try simp only [Act.put, lA, lB, lC]
      refine tR [7] ?_
      refine AllReadyH.cons (o := q200) rfl (fun K hK => ?_) ?_
      ·go_simp
       refine (pick_blk C a0 l0 c0 z0 [-1, 0, 1, 64] _ _ _ st.went.cur hq2 kq2 rfl (by simp) (by simp)).mono ?_
       rintro e wx ⟨m, hm, rfl, wtx⟩
       have hm : -1 ≤ m ∧ m ≤ 64 := by simp at hm; omega
       have st := st.draw wtx
       clear wtx x0 x1
       obtain ⟨⟨x0, x1⟩, -⟩ := cells2 st.box
       go_wp2_with fail
       refine hK.out _ _ (trivial) (fun hHeld => ?_)
       clear hK K
       try simp only [Act.put, lA, lB, lC]
       refine tR [9] ?_
       refine AllReadyH.cons (o := q201) rfl (fun K hK => ?_) ?_
       ·go_simp
        refine (below_any C a0 l0 c0 z0 3 _ st.went.cur (by omega)).mono ?_
        rintro e wx ⟨b, rfl, hb0, hb1, -, wtx⟩
        have hb1 := hb1 (by omega)
        have st := st.draw wtx
        clear wtx x0 x1
        obtain ⟨⟨x0, x1⟩, -⟩ := cells2 st.box
        go_wp2_with fail
        refine hK.out _ _ (trivial) (fun hHeld => ?_)
        clear hK K
        try simp only [Act.put, lA, lB, lC]
        refine kK 10 q202 ?_
        refine tR [11] ?_
        refine AllReadyH.cons (o := q203) rfl (fun K hK => ?_) ?_
        ·go_simp
         first
         | refine made_new (K := K _) (fun wx kr hbx => ?_)
         | refine made_drew (K := K _) (fun wx kr hbx => ?_)
         have gr : GRow vrowF wx _ 1 1 [⟨i, m, b⟩] := grow_own (F := vrowF) (own_one vrowF (x := ⟨i, m, b⟩) (base := 0) kr rfl (Nat.zero_le _))
         have st := st.below hbx
         clear hbx kr x0 x1
         obtain ⟨⟨x0, x1⟩, -⟩ := cells2 st.box
         refine hK.out _ _ (trivial) (fun hHeld => ?_)
         clear hK K
         try simp only [Act.put, lA, lB, lC]
         refine tR [12] ?_
         refine AllReadyH.cons (o := q204) rfl (fun K hK => ?_) ?_
         ·refine step_append_flat (F := vrowF) rfl _ _ 26 81 rfl B Tryz.underlying26 vrowInfo rfl (by decide) _ n v.rows rfl st.own.rows _ 1 1 [⟨i, m, b⟩] rfl gr (by omega) st.size ?_
          intro a7 c7 wx how hrow hgr hbx
          have st2 := st.pushed how hgr hbx
          obtain ⟨⟨x0, x1⟩, x2, x3⟩ := cells2 st2.1
          clear how hrow hgr hbx gr st
          refine hK.out _ _ (trivial) (fun hHeld => ?_)
          clear hK K
          try simp only [Act.put, lA, lB, lC]
          refine kK 13 q205 ?_
          refine tR [14] ?_
          refine AllReadyH.cons (o := q206) rfl (fun K hK => ?_) ?_
          ·go_simp
           have st := st2.2
           clear st2
           refine hK.out _ _ (trivial) (fun hHeld => ?_)
           clear hK K
           try simp only [Act.put, lA, lB, lC]
           refine wpAnyH_done (by kernel_rfl) ?_ _
           clear hHeld x0 x1 x2 x3
           obtain ⟨⟨x0, x1⟩, -⟩ := cells2 st.box
           obtain ⟨⟨g0, g1⟩, f0, f1⟩ := cells2 st.res
           have HO := hide st.out
           have HFF := hide (HF.out.more ⟨i, m, b⟩ (by unfold VR.Few VR.Rng I64; simp only; omega))
           clear st
           go_wp2
           exact bodyPost_ret (v := .tuple #[.agg #[.slice a7 (n + 1) c7, .slice o p q], .int .i64 (pp : Int)]) (by simp [results, Tryz.results81, go_sem, *]) rfl ⟨_, _, _, _, _, _, _, (pp : Int), pp, rfl, HO.out.1, HFF.out, by omega, by omega, by omega, HO.out.2⟩
          exact AllReadyH.nil
         exact AllReadyH.nil
        exact AllReadyH.nil
       exact AllReadyH.nil
      exact AllReadyH.nil
     exact AllReadyH.nil
    refine AllReadyH.cons (o := q198) rfl (fun K hK => ?_) ?_
    ·go_simp
     refine (pick_blk C a0 l0 c0 z0 [0, 1, 9, 100] _ _ _ st.went.cur hq1 kq1 rfl (by simp) (by simp)).mono ?_
     rintro e wx ⟨i, hi, rfl, wtx⟩
     have hi : 0 ≤ i ∧ i ≤ 100 := by simp at hi; omega
     try have kq2 := kept_int kq2 st.went.cur wtx
     have st := st.draw wtx
     clear wtx x0 x1
     obtain ⟨⟨x0, x1⟩, -⟩ := cells2 st.box
     go_wp2_with fail
     refine hK.out _ _ (trivial) (fun hHeld => ?_)
     clear hK K
     try simp only [Act.put, lA, lB, lC]
     refine tR [1, 7] ?_
     refine AllReadyH.cons (o := q196) rfl (fun K hK => ?_) ?_
     ·go_simp
      refine hK.out _ _ (trivial) (fun hHeld => ?_)
      clear hK K
      try simp only [Act.put, lA, lB, lC]
      refine tR [7] ?_
      refine AllReadyH.cons (o := q200) rfl (fun K hK => ?_) ?_
      ·go_simp
       refine (pick_blk C a0 l0 c0 z0 [-1, 0, 1, 64] _ _ _ st.went.cur hq2 kq2 rfl (by simp) (by simp)).mono ?_
       rintro e wx ⟨m, hm, rfl, wtx⟩
       have hm : -1 ≤ m ∧ m ≤ 64 := by simp at hm; omega
       have st := st.draw wtx
       clear wtx x0 x1
       obtain ⟨⟨x0, x1⟩, -⟩ := cells2 st.box
       go_wp2_with fail
       refine hK.out _ _ (trivial) (fun hHeld => ?_)
       clear hK K
       try simp only [Act.put, lA, lB, lC]
       refine tR [9] ?_
       refine AllReadyH.cons (o := q201) rfl (fun K hK => ?_) ?_
       ·go_simp
        refine (below_any C a0 l0 c0 z0 3 _ st.went.cur (by omega)).mono ?_
        rintro e wx ⟨b, rfl, hb0, hb1, -, wtx⟩
        have hb1 := hb1 (by omega)
        have st := st.draw wtx
        clear wtx x0 x1
        obtain ⟨⟨x0, x1⟩, -⟩ := cells2 st.box
        go_wp2_with fail
        refine hK.out _ _ (trivial) (fun hHeld => ?_)
        clear hK K
        try simp only [Act.put, lA, lB, lC]
        refine kK 10 q202 ?_
        refine tR [11] ?_
        refine AllReadyH.cons (o := q203) rfl (fun K hK => ?_) ?_
        ·go_simp
         first
         | refine made_new (K := K _) (fun wx kr hbx => ?_)
         | refine made_drew (K := K _) (fun wx kr hbx => ?_)
         have gr : GRow vrowF wx _ 1 1 [⟨i, m, b⟩] := grow_own (F := vrowF) (own_one vrowF (x := ⟨i, m, b⟩) (base := 0) kr rfl (Nat.zero_le _))
         have st := st.below hbx
         clear hbx kr x0 x1
         obtain ⟨⟨x0, x1⟩, -⟩ := cells2 st.box
         refine hK.out _ _ (trivial) (fun hHeld => ?_)
         clear hK K
         try simp only [Act.put, lA, lB, lC]
         refine tR [12] ?_
         refine AllReadyH.cons (o := q204) rfl (fun K hK => ?_) ?_
         ·refine step_append_flat (F := vrowF) rfl _ _ 26 81 rfl B Tryz.underlying26 vrowInfo rfl (by decide) _ n v.rows rfl st.own.rows _ 1 1 [⟨i, m, b⟩] rfl gr (by omega) st.size ?_
          intro a7 c7 wx how hrow hgr hbx
          have st2 := st.pushed how hgr hbx
          obtain ⟨⟨x0, x1⟩, x2, x3⟩ := cells2 st2.1
          clear how hrow hgr hbx gr st
          refine hK.out _ _ (trivial) (fun hHeld => ?_)
          clear hK K
          try simp only [Act.put, lA, lB, lC]
          refine kK 13 q205 ?_
          refine tR [14] ?_
          refine AllReadyH.cons (o := q206) rfl (fun K hK => ?_) ?_
          ·go_simp
           have st := st2.2
           clear st2
           refine hK.out _ _ (trivial) (fun hHeld => ?_)
           clear hK K
           try simp only [Act.put, lA, lB, lC]
           refine wpAnyH_done (by kernel_rfl) ?_ _
           clear hHeld x0 x1 x2 x3
           obtain ⟨⟨x0, x1⟩, -⟩ := cells2 st.box
           obtain ⟨⟨g0, g1⟩, f0, f1⟩ := cells2 st.res
           have HO := hide st.out
           have HFF := hide (HF.out.more ⟨i, m, b⟩ (by unfold VR.Few VR.Rng I64; simp only; omega))
           clear st
           go_wp2
           exact bodyPost_ret (v := .tuple #[.agg #[.slice a7 (n + 1) c7, .slice o p q], .int .i64 (pp : Int)]) (by simp [results, Tryz.results81, go_sem, *]) rfl ⟨_, _, _, _, _, _, _, (pp : Int), pp, rfl, HO.out.1, HFF.out, by omega, by omega, by omega, HO.out.2⟩
          exact AllReadyH.nil
         exact AllReadyH.nil
        exact AllReadyH.nil
       exact AllReadyH.nil
      exact AllReadyH.nil
     refine AllReadyH.cons (o := q200) rfl (fun K hK => ?_) ?_
     ·go_simp
      refine (pick_blk C a0 l0 c0 z0 [-1, 0, 1, 64] _ _ _ st.went.cur hq2 kq2 rfl (by simp) (by simp)).mono ?_
      rintro e wx ⟨m, hm, rfl, wtx⟩
      have hm : -1 ≤ m ∧ m ≤ 64 := by simp at hm; omega
      have st := st.draw wtx
      clear wtx x0 x1
      obtain ⟨⟨x0, x1⟩, -⟩ := cells2 st.box
      go_wp2_with fail
      refine hK.out _ _ (trivial) (fun hHeld => ?_)
      clear hK K
      try simp only [Act.put, lA, lB, lC]
      refine tR [1, 9] ?_
      refine AllReadyH.cons (o := q196) rfl (fun K hK => ?_) ?_
      ·go_simp
       refine hK.out _ _ (trivial) (fun hHeld => ?_)
       clear hK K
       try simp only [Act.put, lA, lB, lC]
       refine tR [9] ?_
       refine AllReadyH.cons (o := q201) rfl (fun K hK => ?_) ?_
       ·go_simp
        refine (below_any C a0 l0 c0 z0 3 _ st.went.cur (by omega)).mono ?_
        rintro e wx ⟨b, rfl, hb0, hb1, -, wtx⟩
        have hb1 := hb1 (by omega)
        have st := st.draw wtx
        clear wtx x0 x1
        obtain ⟨⟨x0, x1⟩, -⟩ := cells2 st.box
        go_wp2_with fail
        refine hK.out _ _ (trivial) (fun hHeld => ?_)
        clear hK K
        try simp only [Act.put, lA, lB, lC]
        refine kK 10 q202 ?_
        refine tR [11] ?_
        refine AllReadyH.cons (o := q203) rfl (fun K hK => ?_) ?_
        ·go_simp
         first
         | refine made_new (K := K _) (fun wx kr hbx => ?_)
         | refine made_drew (K := K _) (fun wx kr hbx => ?_)
         have gr : GRow vrowF wx _ 1 1 [⟨i, m, b⟩] := grow_own (F := vrowF) (own_one vrowF (x := ⟨i, m, b⟩) (base := 0) kr rfl (Nat.zero_le _))
         have st := st.below hbx
         clear hbx kr x0 x1
         obtain ⟨⟨x0, x1⟩, -⟩ := cells2 st.box
         refine hK.out _ _ (trivial) (fun hHeld => ?_)
         clear hK K
         try simp only [Act.put, lA, lB, lC]
         refine tR [12] ?_
         refine AllReadyH.cons (o := q204) rfl (fun K hK => ?_) ?_
         ·refine step_append_flat (F := vrowF) rfl _ _ 26 81 rfl B Tryz.underlying26 vrowInfo rfl (by decide) _ n v.rows rfl st.own.rows _ 1 1 [⟨i, m, b⟩] rfl gr (by omega) st.size ?_
          intro a7 c7 wx how hrow hgr hbx
          have st2 := st.pushed how hgr hbx
          obtain ⟨⟨x0, x1⟩, x2, x3⟩ := cells2 st2.1
          clear how hrow hgr hbx gr st
          refine hK.out _ _ (trivial) (fun hHeld => ?_)
          clear hK K
          try simp only [Act.put, lA, lB, lC]
          refine kK 13 q205 ?_
          refine tR [14] ?_
          refine AllReadyH.cons (o := q206) rfl (fun K hK => ?_) ?_
          ·go_simp
           have st := st2.2
           clear st2
           refine hK.out _ _ (trivial) (fun hHeld => ?_)
           clear hK K
           try simp only [Act.put, lA, lB, lC]
           refine wpAnyH_done (by kernel_rfl) ?_ _
           clear hHeld x0 x1 x2 x3
           obtain ⟨⟨x0, x1⟩, -⟩ := cells2 st.box
           obtain ⟨⟨g0, g1⟩, f0, f1⟩ := cells2 st.res
           have HO := hide st.out
           have HFF := hide (HF.out.more ⟨i, m, b⟩ (by unfold VR.Few VR.Rng I64; simp only; omega))
           clear st
           go_wp2
           exact bodyPost_ret (v := .tuple #[.agg #[.slice a7 (n + 1) c7, .slice o p q], .int .i64 (pp : Int)]) (by simp [results, Tryz.results81, go_sem, *]) rfl ⟨_, _, _, _, _, _, _, (pp : Int), pp, rfl, HO.out.1, HFF.out, by omega, by omega, by omega, HO.out.2⟩
          exact AllReadyH.nil
         exact AllReadyH.nil
        exact AllReadyH.nil
       exact AllReadyH.nil
      refine AllReadyH.cons (o := q201) rfl (fun K hK => ?_) ?_
      ·go_simp
       refine (below_any C a0 l0 c0 z0 3 _ st.went.cur (by omega)).mono ?_
       rintro e wx ⟨b, rfl, hb0, hb1, -, wtx⟩
       have hb1 := hb1 (by omega)
       have st := st.draw wtx
       clear wtx x0 x1
       obtain ⟨⟨x0, x1⟩, -⟩ := cells2 st.box
       go_wp2_with fail
       refine hK.out _ _ (trivial) (fun hHeld => ?_)
       clear hK K
       try simp only [Act.put, lA, lB, lC]
       refine kK 10 q202 ?_
       refine tR [1, 11] ?_
       refine AllReadyH.cons (o := q196) rfl (fun K hK => ?_) ?_
       ·go_simp
        refine hK.out _ _ (trivial) (fun hHeld => ?_)
        clear hK K
        try simp only [Act.put, lA, lB, lC]
        refine tR [11] ?_
        refine AllReadyH.cons (o := q203) rfl (fun K hK => ?_) ?_
        ·go_simp
         first
         | refine made_new (K := K _) (fun wx kr hbx => ?_)
         | refine made_drew (K := K _) (fun wx kr hbx => ?_)
         have gr : GRow vrowF wx _ 1 1 [⟨i, m, b⟩] := grow_own (F := vrowF) (own_one vrowF (x := ⟨i, m, b⟩) (base := 0) kr rfl (Nat.zero_le _))
         have st := st.below hbx
         clear hbx kr x0 x1
         obtain ⟨⟨x0, x1⟩, -⟩ := cells2 st.box
         refine hK.out _ _ (trivial) (fun hHeld => ?_)
         clear hK K
         try simp only [Act.put, lA, lB, lC]
         refine tR [12] ?_
         refine AllReadyH.cons (o := q204) rfl (fun K hK => ?_) ?_
         ·refine step_append_flat (F := vrowF) rfl _ _ 26 81 rfl B Tryz.underlying26 vrowInfo rfl (by decide) _ n v.rows rfl st.own.rows _ 1 1 [⟨i, m, b⟩] rfl gr (by omega) st.size ?_
          intro a7 c7 wx how hrow hgr hbx
          have st2 := st.pushed how hgr hbx
          obtain ⟨⟨x0, x1⟩, x2, x3⟩ := cells2 st2.1
          clear how hrow hgr hbx gr st
          refine hK.out _ _ (trivial) (fun hHeld => ?_)
          clear hK K
          try simp only [Act.put, lA, lB, lC]
          refine kK 13 q205 ?_
          refine tR [14] ?_
          refine AllReadyH.cons (o := q206) rfl (fun K hK => ?_) ?_
          ·go_simp
           have st := st2.2
           clear st2
           refine hK.out _ _ (trivial) (fun hHeld => ?_)
           clear hK K
           try simp only [Act.put, lA, lB, lC]
           refine wpAnyH_done (by kernel_rfl) ?_ _
           clear hHeld x0 x1 x2 x3
           obtain ⟨⟨x0, x1⟩, -⟩ := cells2 st.box
           obtain ⟨⟨g0, g1⟩, f0, f1⟩ := cells2 st.res
           have HO := hide st.out
           have HFF := hide (HF.out.more ⟨i, m, b⟩ (by unfold VR.Few VR.Rng I64; simp only; omega))
           clear st
           go_wp2
           exact bodyPost_ret (v := .tuple #[.agg #[.slice a7 (n + 1) c7, .slice o p q], .int .i64 (pp : Int)]) (by simp [results, Tryz.results81, go_sem, *]) rfl ⟨_, _, _, _, _, _, _, (pp : Int), pp, rfl, HO.out.1, HFF.out, by omega, by omega, by omega, HO.out.2⟩
          exact AllReadyH.nil
         exact AllReadyH.nil
        exact AllReadyH.nil
       refine AllReadyH.cons (o := q203) rfl (fun K hK => ?_) ?_
       ·go_simp
        first
        | refine made_new (K := K _) (fun wx kr hbx => ?_)
        | refine made_drew (K := K _) (fun wx kr hbx => ?_)
        have gr : GRow vrowF wx _ 1 1 [⟨i, m, b⟩] := grow_own (F := vrowF) (own_one vrowF (x := ⟨i, m, b⟩) (base := 0) kr rfl (Nat.zero_le _))
        have st := st.below hbx
        clear hbx kr x0 x1
        obtain ⟨⟨x0, x1⟩, -⟩ := cells2 st.box
        refine hK.out _ _ (trivial) (fun hHeld => ?_)
        clear hK K
        try simp only [Act.put, lA, lB, lC]
        refine tR [1] ?_
        refine AllReadyH.cons (o := q196) rfl (fun K hK => ?_) ?_
        ·go_simp
         refine hK.out _ _ (trivial) (fun hHeld => ?_)
         clear hK K
         try simp only [Act.put, lA, lB, lC]
         refine tR [12] ?_
         refine AllReadyH.cons (o := q204) rfl (fun K hK => ?_) ?_
         ·refine step_append_flat (F := vrowF) rfl _ _ 26 81 rfl B Tryz.underlying26 vrowInfo rfl (by decide) _ n v.rows rfl st.own.rows _ 1 1 [⟨i, m, b⟩] rfl gr (by omega) st.size ?_
          intro a7 c7 wx how hrow hgr hbx
          have st2 := st.pushed how hgr hbx
          obtain ⟨⟨x0, x1⟩, x2, x3⟩ := cells2 st2.1
          clear how hrow hgr hbx gr st
          refine hK.out _ _ (trivial) (fun hHeld => ?_)
          clear hK K
          try simp only [Act.put, lA, lB, lC]
          refine kK 13 q205 ?_
          refine tR [14] ?_
          refine AllReadyH.cons (o := q206) rfl (fun K hK => ?_) ?_
          ·go_simp
           have st := st2.2
           clear st2
           refine hK.out _ _ (trivial) (fun hHeld => ?_)
           clear hK K
           try simp only [Act.put, lA, lB, lC]
           refine wpAnyH_done (by kernel_rfl) ?_ _
           clear hHeld x0 x1 x2 x3
           obtain ⟨⟨x0, x1⟩, -⟩ := cells2 st.box
           obtain ⟨⟨g0, g1⟩, f0, f1⟩ := cells2 st.res
           have HO := hide st.out
           have HFF := hide (HF.out.more ⟨i, m, b⟩ (by unfold VR.Few VR.Rng I64; simp only; omega))
           clear st
           go_wp2
           exact bodyPost_ret (v := .tuple #[.agg #[.slice a7 (n + 1) c7, .slice o p q], .int .i64 (pp : Int)]) (by simp [results, Tryz.results81, go_sem, *]) rfl ⟨_, _, _, _, _, _, _, (pp : Int), pp, rfl, HO.out.1, HFF.out, by omega, by omega, by omega, HO.out.2⟩
          exact AllReadyH.nil
         exact AllReadyH.nil
        exact AllReadyH.nil
       exact AllReadyH.nil
      exact AllReadyH.nil
     exact AllReadyH.nil
    exact AllReadyH.nil
   exact AllReadyH.nil
  refine AllReadyH.cons (o := q199) rfl (fun K hK => ?_) ?_
  ·go_simp
   first
   | refine made_new (K := K _) (fun wx kq2 hbx => ?_)
   | refine made_drew (K := K _) (fun wx kq2 hbx => ?_)
   try have kq1 := kept_block kq1 hbx
   have hq2 := st.went.cur.lt
   have st := st.below hbx
   clear hbx x0 x1
   obtain ⟨⟨x0, x1⟩, -⟩ := cells2 st.box
   refine hK.out _ _ (trivial) (fun hHeld => ?_)
   clear hK K
   try simp only [Act.put, lA, lB, lC]
   refine tR [1, 3] ?_
   refine AllReadyH.cons (o := q196) rfl (fun K hK => ?_) ?_
   ·go_simp
    refine hK.out _ _ (trivial) (fun hHeld => ?_)
    clear hK K
    try simp only [Act.put, lA, lB, lC]
    refine tR [3] ?_
    refine AllReadyH.cons (o := q197) rfl (fun K hK => ?_) ?_
    ·go_simp
     first
     | refine made_new (K := K _) (fun wx kq1 hbx => ?_)
     | refine made_drew (K := K _) (fun wx kq1 hbx => ?_)
     try have kq2 := kept_block kq2 hbx
     have hq1 := st.went.cur.lt
     have st := st.below hbx
     clear hbx x0 x1
     obtain ⟨⟨x0, x1⟩, -⟩ := cells2 st.box
     refine hK.out _ _ (trivial) (fun hHeld => ?_)
     clear hK K
     try simp only [Act.put, lA, lB, lC]
     refine tR [4] ?_
     refine AllReadyH.cons (o := q198) rfl (fun K hK => ?_) ?_
     ·go_simp
      refine (pick_blk C a0 l0 c0 z0 [0, 1, 9, 100] _ _ _ st.went.cur hq1 kq1 rfl (by simp) (by simp)).mono ?_
      rintro e wx ⟨i, hi, rfl, wtx⟩
      have hi : 0 ≤ i ∧ i ≤ 100 := by simp at hi; omega
      try have kq2 := kept_int kq2 st.went.cur wtx
      have st := st.draw wtx
      clear wtx x0 x1
      obtain ⟨⟨x0, x1⟩, -⟩ := cells2 st.box
      go_wp2_with fail
      refine hK.out _ _ (trivial) (fun hHeld => ?_)
      clear hK K
      try simp only [Act.put, lA, lB, lC]
      refine tR [7] ?_
      refine AllReadyH.cons (o := q200) rfl (fun K hK => ?_) ?_
      ·go_simp
       refine (pick_blk C a0 l0 c0 z0 [-1, 0, 1, 64] _ _ _ st.went.cur hq2 kq2 rfl (by simp) (by simp)).mono ?_
       rintro e wx ⟨m, hm, rfl, wtx⟩
       have hm : -1 ≤ m ∧ m ≤ 64 := by simp at hm; omega
       have st := st.draw wtx
       clear wtx x0 x1
       obtain ⟨⟨x0, x1⟩, -⟩ := cells2 st.box
       go_wp2_with fail
       refine hK.out _ _ (trivial) (fun hHeld => ?_)
       clear hK K
       try simp only [Act.put, lA, lB, lC]
       refine tR [9] ?_
       refine AllReadyH.cons (o := q201) rfl (fun K hK => ?_) ?_
       ·go_simp
        refine (below_any C a0 l0 c0 z0 3 _ st.went.cur (by omega)).mono ?_
        rintro e wx ⟨b, rfl, hb0, hb1, -, wtx⟩
        have hb1 := hb1 (by omega)
        have st := st.draw wtx
        clear wtx x0 x1
        obtain ⟨⟨x0, x1⟩, -⟩ := cells2 st.box
        go_wp2_with fail
        refine hK.out _ _ (trivial) (fun hHeld => ?_)
        clear hK K
        try simp only [Act.put, lA, lB, lC]
        refine kK 10 q202 ?_
        refine tR [11] ?_
        refine AllReadyH.cons (o := q203) rfl (fun K hK => ?_) ?_
        ·go_simp
         first
         | refine made_new (K := K _) (fun wx kr hbx => ?_)
         | refine made_drew (K := K _) (fun wx kr hbx => ?_)
         have gr : GRow vrowF wx _ 1 1 [⟨i, m, b⟩] := grow_own (F := vrowF) (own_one vrowF (x := ⟨i, m, b⟩) (base := 0) kr rfl (Nat.zero_le _))
         have st := st.below hbx
         clear hbx kr x0 x1
         obtain ⟨⟨x0, x1⟩, -⟩ := cells2 st.box
         refine hK.out _ _ (trivial) (fun hHeld => ?_)
         clear hK K
         try simp only [Act.put, lA, lB, lC]
         refine tR [12] ?_
         refine AllReadyH.cons (o := q204) rfl (fun K hK => ?_) ?_
         ·refine step_append_flat (F := vrowF) rfl _ _ 26 81 rfl B Tryz.underlying26 vrowInfo rfl (by decide) _ n v.rows rfl st.own.rows _ 1 1 [⟨i, m, b⟩] rfl gr (by omega) st.size ?_
          intro a7 c7 wx how hrow hgr hbx
          have st2 := st.pushed how hgr hbx
          obtain ⟨⟨x0, x1⟩, x2, x3⟩ := cells2 st2.1
          clear how hrow hgr hbx gr st
          refine hK.out _ _ (trivial) (fun hHeld => ?_)
          clear hK K
          try simp only [Act.put, lA, lB, lC]
          refine kK 13 q205 ?_
          refine tR [14] ?_
          refine AllReadyH.cons (o := q206) rfl (fun K hK => ?_) ?_
          ·go_simp
           have st := st2.2
           clear st2
           refine hK.out _ _ (trivial) (fun hHeld => ?_)
           clear hK K
           try simp only [Act.put, lA, lB, lC]
           refine wpAnyH_done (by kernel_rfl) ?_ _
           clear hHeld x0 x1 x2 x3
           obtain ⟨⟨x0, x1⟩, -⟩ := cells2 st.box
           obtain ⟨⟨g0, g1⟩, f0, f1⟩ := cells2 st.res
           have HO := hide st.out
           have HFF := hide (HF.out.more ⟨i, m, b⟩ (by unfold VR.Few VR.Rng I64; simp only; omega))
           clear st
           go_wp2
           exact bodyPost_ret (v := .tuple #[.agg #[.slice a7 (n + 1) c7, .slice o p q], .int .i64 (pp : Int)]) (by simp [results, Tryz.results81, go_sem, *]) rfl ⟨_, _, _, _, _, _, _, (pp : Int), pp, rfl, HO.out.1, HFF.out, by omega, by omega, by omega, HO.out.2⟩
          exact AllReadyH.nil
         exact AllReadyH.nil
        exact AllReadyH.nil
       exact AllReadyH.nil
      exact AllReadyH.nil
     exact AllReadyH.nil
    exact AllReadyH.nil
   refine AllReadyH.cons (o := q197) rfl (fun K hK => ?_) ?_
   ·go_simp
    first
    | refine made_new (K := K _) (fun wx kq1 hbx => ?_)
    | refine made_drew (K := K _) (fun wx kq1 hbx => ?_)
    try have kq2 := kept_block kq2 hbx
    have hq1 := st.went.cur.lt
    have st := st.below hbx
    clear hbx x0 x1
    obtain ⟨⟨x0, x1⟩, -⟩ := cells2 st.box
    refine hK.out _ _ (trivial) (fun hHeld => ?_)
    clear hK K
    try simp only [Act.put, lA, lB, lC]
    refine tR [1, 4] ?_
    refine AllReadyH.cons (o := q196) rfl (fun K hK => ?_) ?_
    ·go_simp
     refine hK.out _ _ (trivial) (fun hHeld => ?_)
     clear hK K
     try simp only [Act.put, lA, lB, lC]
     refine tR [4] ?_
     refine AllReadyH.cons (o := q198) rfl (fun K hK => ?_) ?_
     ·go_simp
      refine (pick_blk C a0 l0 c0 z0 [0, 1, 9, 100] _ _ _ st.went.cur hq1 kq1 rfl (by simp) (by simp)).mono ?_
      rintro e wx ⟨i, hi, rfl, wtx⟩
      have hi : 0 ≤ i ∧ i ≤ 100 := by simp at hi; omega
      try have kq2 := kept_int kq2 st.went.cur wtx
      have st := st.draw wtx
      clear wtx x0 x1
      obtain ⟨⟨x0, x1⟩, -⟩ := cells2 st.box
      go_wp2_with fail
      refine hK.out _ _ (trivial) (fun hHeld => ?_)
      clear hK K
      try simp only [Act.put, lA, lB, lC]
      refine tR [7] ?_
      refine AllReadyH.cons (o := q200) rfl (fun K hK => ?_) ?_
      ·go_simp
       refine (pick_blk C a0 l0 c0 z0 [-1, 0, 1, 64] _ _ _ st.went.cur hq2 kq2 rfl (by simp) (by simp)).mono ?_
       rintro e wx ⟨m, hm, rfl, wtx⟩
       have hm : -1 ≤ m ∧ m ≤ 64 := by simp at hm; omega
       have st := st.draw wtx
       clear wtx x0 x1
       obtain ⟨⟨x0, x1⟩, -⟩ := cells2 st.box
       go_wp2_with fail
       refine hK.out _ _ (trivial) (fun hHeld => ?_)
       clear hK K
       try simp only [Act.put, lA, lB, lC]
       refine tR [9] ?_
       refine AllReadyH.cons (o := q201) rfl (fun K hK => ?_) ?_
       ·go_simp
        refine (below_any C a0 l0 c0 z0 3 _ st.went.cur (by omega)).mono ?_
        rintro e wx ⟨b, rfl, hb0, hb1, -, wtx⟩
        have hb1 := hb1 (by omega)
        have st := st.draw wtx
        clear wtx x0 x1
        obtain ⟨⟨x0, x1⟩, -⟩ := cells2 st.box
        go_wp2_with fail
        refine hK.out _ _ (trivial) (fun hHeld => ?_)
        clear hK K
        try simp only [Act.put, lA, lB, lC]
        refine kK 10 q202 ?_
        refine tR [11] ?_
        refine AllReadyH.cons (o := q203) rfl (fun K hK => ?_) ?_
        ·go_simp
         first
         | refine made_new (K := K _) (fun wx kr hbx => ?_)
         | refine made_drew (K := K _) (fun wx kr hbx => ?_)
         have gr : GRow vrowF wx _ 1 1 [⟨i, m, b⟩] := grow_own (F := vrowF) (own_one vrowF (x := ⟨i, m, b⟩) (base := 0) kr rfl (Nat.zero_le _))
         have st := st.below hbx
         clear hbx kr x0 x1
         obtain ⟨⟨x0, x1⟩, -⟩ := cells2 st.box
         refine hK.out _ _ (trivial) (fun hHeld => ?_)
         clear hK K
         try simp only [Act.put, lA, lB, lC]
         refine tR [12] ?_
         refine AllReadyH.cons (o := q204) rfl (fun K hK => ?_) ?_
         ·refine step_append_flat (F := vrowF) rfl _ _ 26 81 rfl B Tryz.underlying26 vrowInfo rfl (by decide) _ n v.rows rfl st.own.rows _ 1 1 [⟨i, m, b⟩] rfl gr (by omega) st.size ?_
          intro a7 c7 wx how hrow hgr hbx
          have st2 := st.pushed how hgr hbx
          obtain ⟨⟨x0, x1⟩, x2, x3⟩ := cells2 st2.1
          clear how hrow hgr hbx gr st
          refine hK.out _ _ (trivial) (fun hHeld => ?_)
          clear hK K
          try simp only [Act.put, lA, lB, lC]
          refine kK 13 q205 ?_
          refine tR [14] ?_
          refine AllReadyH.cons (o := q206) rfl (fun K hK => ?_) ?_
          ·go_simp
           have st := st2.2
           clear st2
           refine hK.out _ _ (trivial) (fun hHeld => ?_)
           clear hK K
           try simp only [Act.put, lA, lB, lC]
           refine wpAnyH_done (by kernel_rfl) ?_ _
           clear hHeld x0 x1 x2 x3
           obtain ⟨⟨x0, x1⟩, -⟩ := cells2 st.box
           obtain ⟨⟨g0, g1⟩, f0, f1⟩ := cells2 st.res
           have HO := hide st.out
           have HFF := hide (HF.out.more ⟨i, m, b⟩ (by unfold VR.Few VR.Rng I64; simp only; omega))
           clear st
           go_wp2
           exact bodyPost_ret (v := .tuple #[.agg #[.slice a7 (n + 1) c7, .slice o p q], .int .i64 (pp : Int)]) (by simp [results, Tryz.results81, go_sem, *]) rfl ⟨_, _, _, _, _, _, _, (pp : Int), pp, rfl, HO.out.1, HFF.out, by omega, by omega, by omega, HO.out.2⟩
          exact AllReadyH.nil
         exact AllReadyH.nil
        exact AllReadyH.nil
       exact AllReadyH.nil
      exact AllReadyH.nil
     exact AllReadyH.nil
    refine AllReadyH.cons (o := q198) rfl (fun K hK => ?_) ?_
    ·go_simp
     refine (pick_blk C a0 l0 c0 z0 [0, 1, 9, 100] _ _ _ st.went.cur hq1 kq1 rfl (by simp) (by simp)).mono ?_
     rintro e wx ⟨i, hi, rfl, wtx⟩
     have hi : 0 ≤ i ∧ i ≤ 100 := by simp at hi; omega
     try have kq2 := kept_int kq2 st.went.cur wtx
     have st := st.draw wtx
     clear wtx x0 x1
     obtain ⟨⟨x0, x1⟩, -⟩ := cells2 st.box
     go_wp2_with fail
     refine hK.out _ _ (trivial) (fun hHeld => ?_)
     clear hK K
     try simp only [Act.put, lA, lB, lC]
     refine tR [1, 7] ?_
     refine AllReadyH.cons (o := q196) rfl (fun K hK => ?_) ?_
     ·go_simp
      refine hK.out _ _ (trivial) (fun hHeld => ?_)
      clear hK K
      try simp only [Act.put, lA, lB, lC]
      refine tR [7] ?_
      refine AllReadyH.cons (o := q200) rfl (fun K hK => ?_) ?_
      ·go_simp
       refine (pick_blk C a0 l0 c0 z0 [-1, 0, 1, 64] _ _ _ st.went.cur hq2 kq2 rfl (by simp) (by simp)).mono ?_
       rintro e wx ⟨m, hm, rfl, wtx⟩
       have hm : -1 ≤ m ∧ m ≤ 64 := by simp at hm; omega
       have st := st.draw wtx
       clear wtx x0 x1
       obtain ⟨⟨x0, x1⟩, -⟩ := cells2 st.box
       go_wp2_with fail
       refine hK.out _ _ (trivial) (fun hHeld => ?_)
       clear hK K
       try simp only [Act.put, lA, lB, lC]
       refine tR [9] ?_
       refine AllReadyH.cons (o := q201) rfl (fun K hK => ?_) ?_
       ·go_simp
        refine (below_any C a0 l0 c0 z0 3 _ st.went.cur (by omega)).mono ?_
        rintro e wx ⟨b, rfl, hb0, hb1, -, wtx⟩
        have hb1 := hb1 (by omega)
        have st := st.draw wtx
        clear wtx x0 x1
        obtain ⟨⟨x0, x1⟩, -⟩ := cells2 st.box
        go_wp2_with fail
        refine hK.out _ _ (trivial) (fun hHeld => ?_)
        clear hK K
        try simp only [Act.put, lA, lB, lC]
        refine kK 10 q202 ?_
        refine tR [11] ?_
        refine AllReadyH.cons (o := q203) rfl (fun K hK => ?_) ?_
        ·go_simp
         first
         | refine made_new (K := K _) (fun wx kr hbx => ?_)
         | refine made_drew (K := K _) (fun wx kr hbx => ?_)
         have gr : GRow vrowF wx _ 1 1 [⟨i, m, b⟩] := grow_own (F := vrowF) (own_one vrowF (x := ⟨i, m, b⟩) (base := 0) kr rfl (Nat.zero_le _))
         have st := st.below hbx
         clear hbx kr x0 x1
         obtain ⟨⟨x0, x1⟩, -⟩ := cells2 st.box
         refine hK.out _ _ (trivial) (fun hHeld => ?_)
         clear hK K
         try simp only [Act.put, lA, lB, lC]
         refine tR [12] ?_
         refine AllReadyH.cons (o := q204) rfl (fun K hK => ?_) ?_
         ·refine step_append_flat (F := vrowF) rfl _ _ 26 81 rfl B Tryz.underlying26 vrowInfo rfl (by decide) _ n v.rows rfl st.own.rows _ 1 1 [⟨i, m, b⟩] rfl gr (by omega) st.size ?_
          intro a7 c7 wx how hrow hgr hbx
          have st2 := st.pushed how hgr hbx
          obtain ⟨⟨x0, x1⟩, x2, x3⟩ := cells2 st2.1
          clear how hrow hgr hbx gr st
          refine hK.out _ _ (trivial) (fun hHeld => ?_)
          clear hK K
          try simp only [Act.put, lA, lB, lC]
          refine kK 13 q205 ?_
          refine tR [14] ?_
          refine AllReadyH.cons (o := q206) rfl (fun K hK => ?_) ?_
          ·go_simp
           have st := st2.2
           clear st2
           refine hK.out _ _ (trivial) (fun hHeld => ?_)
           clear hK K
           try simp only [Act.put, lA, lB, lC]
           refine wpAnyH_done (by kernel_rfl) ?_ _
           clear hHeld x0 x1 x2 x3
           obtain ⟨⟨x0, x1⟩, -⟩ := cells2 st.box
           obtain ⟨⟨g0, g1⟩, f0, f1⟩ := cells2 st.res
           have HO := hide st.out
           have HFF := hide (HF.out.more ⟨i, m, b⟩ (by unfold VR.Few VR.Rng I64; simp only; omega))
           clear st
           go_wp2
           exact bodyPost_ret (v := .tuple #[.agg #[.slice a7 (n + 1) c7, .slice o p q], .int .i64 (pp : Int)]) (by simp [results, Tryz.results81, go_sem, *]) rfl ⟨_, _, _, _, _, _, _, (pp : Int), pp, rfl, HO.out.1, HFF.out, by omega, by omega, by omega, HO.out.2⟩
          exact AllReadyH.nil
         exact AllReadyH.nil
        exact AllReadyH.nil
       exact AllReadyH.nil
      exact AllReadyH.nil
     refine AllReadyH.cons (o := q200) rfl (fun K hK => ?_) ?_
     ·go_simp
      refine (pick_blk C a0 l0 c0 z0 [-1, 0, 1, 64] _ _ _ st.went.cur hq2 kq2 rfl (by simp) (by simp)).mono ?_
      rintro e wx ⟨m, hm, rfl, wtx⟩
      have hm : -1 ≤ m ∧ m ≤ 64 := by simp at hm; omega
      have st := st.draw wtx
      clear wtx x0 x1
      obtain ⟨⟨x0, x1⟩, -⟩ := cells2 st.box
      go_wp2_with fail
      refine hK.out _ _ (trivial) (fun hHeld => ?_)
      clear hK K
      try simp only [Act.put, lA, lB, lC]
      refine tR [1, 9] ?_
      refine AllReadyH.cons (o := q196) rfl (fun K hK => ?_) ?_
      ·go_simp
       refine hK.out _ _ (trivial) (fun hHeld => ?_)
       clear hK K
       try simp only [Act.put, lA, lB, lC]
       refine tR [9] ?_
       refine AllReadyH.cons (o := q201) rfl (fun K hK => ?_) ?_
       ·go_simp
        refine (below_any C a0 l0 c0 z0 3 _ st.went.cur (by omega)).mono ?_
        rintro e wx ⟨b, rfl, hb0, hb1, -, wtx⟩
        have hb1 := hb1 (by omega)
        have st := st.draw wtx
        clear wtx x0 x1
        obtain ⟨⟨x0, x1⟩, -⟩ := cells2 st.box
        go_wp2_with fail
        refine hK.out _ _ (trivial) (fun hHeld => ?_)
        clear hK K
        try simp only [Act.put, lA, lB, lC]
        refine kK 10 q202 ?_
        refine tR [11] ?_
        refine AllReadyH.cons (o := q203) rfl (fun K hK => ?_) ?_
        ·go_simp
         first
         | refine made_new (K := K _) (fun wx kr hbx => ?_)
         | refine made_drew (K := K _) (fun wx kr hbx => ?_)
         have gr : GRow vrowF wx _ 1 1 [⟨i, m, b⟩] := grow_own (F := vrowF) (own_one vrowF (x := ⟨i, m, b⟩) (base := 0) kr rfl (Nat.zero_le _))
         have st := st.below hbx
         clear hbx kr x0 x1
         obtain ⟨⟨x0, x1⟩, -⟩ := cells2 st.box
         refine hK.out _ _ (trivial) (fun hHeld => ?_)
         clear hK K
         try simp only [Act.put, lA, lB, lC]
         refine tR [12] ?_
         refine AllReadyH.cons (o := q204) rfl (fun K hK => ?_) ?_
         ·refine step_append_flat (F := vrowF) rfl _ _ 26 81 rfl B Tryz.underlying26 vrowInfo rfl (by decide) _ n v.rows rfl st.own.rows _ 1 1 [⟨i, m, b⟩] rfl gr (by omega) st.size ?_
          intro a7 c7 wx how hrow hgr hbx
          have st2 := st.pushed how hgr hbx
          obtain ⟨⟨x0, x1⟩, x2, x3⟩ := cells2 st2.1
          clear how hrow hgr hbx gr st
          refine hK.out _ _ (trivial) (fun hHeld => ?_)
          clear hK K
          try simp only [Act.put, lA, lB, lC]
          refine kK 13 q205 ?_
          refine tR [14] ?_
          refine AllReadyH.cons (o := q206) rfl (fun K hK => ?_) ?_
          ·go_simp
           have st := st2.2
           clear st2
           refine hK.out _ _ (trivial) (fun hHeld => ?_)
           clear hK K
           try simp only [Act.put, lA, lB, lC]
           refine wpAnyH_done (by kernel_rfl) ?_ _
           clear hHeld x0 x1 x2 x3
           obtain ⟨⟨x0, x1⟩, -⟩ := cells2 st.box
           obtain ⟨⟨g0, g1⟩, f0, f1⟩ := cells2 st.res
           have HO := hide st.out
           have HFF := hide (HF.out.more ⟨i, m, b⟩ (by unfold VR.Few VR.Rng I64; simp only; omega))
           clear st
           go_wp2
           exact bodyPost_ret (v := .tuple #[.agg #[.slice a7 (n + 1) c7, .slice o p q], .int .i64 (pp : Int)]) (by simp [results, Tryz.results81, go_sem, *]) rfl ⟨_, _, _, _, _, _, _, (pp : Int), pp, rfl, HO.out.1, HFF.out, by omega, by omega, by omega, HO.out.2⟩
          exact AllReadyH.nil
         exact AllReadyH.nil
        exact AllReadyH.nil
       exact AllReadyH.nil
      refine AllReadyH.cons (o := q201) rfl (fun K hK => ?_) ?_
      ·go_simp
       refine (below_any C a0 l0 c0 z0 3 _ st.went.cur (by omega)).mono ?_
       rintro e wx ⟨b, rfl, hb0, hb1, -, wtx⟩
       have hb1 := hb1 (by omega)
       have st := st.draw wtx
       clear wtx x0 x1
       obtain ⟨⟨x0, x1⟩, -⟩ := cells2 st.box
       go_wp2_with fail
       refine hK.out _ _ (trivial) (fun hHeld => ?_)
       clear hK K
       try simp only [Act.put, lA, lB, lC]
       refine kK 10 q202 ?_
       refine tR [1, 11] ?_
       refine AllReadyH.cons (o := q196) rfl (fun K hK => ?_) ?_
       ·go_simp
        refine hK.out _ _ (trivial) (fun hHeld => ?_)
        clear hK K
        try simp only [Act.put, lA, lB, lC]
        refine tR [11] ?_
        refine AllReadyH.cons (o := q203) rfl (fun K hK => ?_) ?_
        ·go_simp
         first
         | refine made_new (K := K _) (fun wx kr hbx => ?_)
         | refine made_drew (K := K _) (fun wx kr hbx => ?_)
         have gr : GRow vrowF wx _ 1 1 [⟨i, m, b⟩] := grow_own (F := vrowF) (own_one vrowF (x := ⟨i, m, b⟩) (base := 0) kr rfl (Nat.zero_le _))
         have st := st.below hbx
         clear hbx kr x0 x1
         obtain ⟨⟨x0, x1⟩, -⟩ := cells2 st.box
         refine hK.out _ _ (trivial) (fun hHeld => ?_)
         clear hK K
         try simp only [Act.put, lA, lB, lC]
         refine tR [12] ?_
         refine AllReadyH.cons (o := q204) rfl (fun K hK => ?_) ?_
         ·refine step_append_flat (F := vrowF) rfl _ _ 26 81 rfl B Tryz.underlying26 vrowInfo rfl (by decide) _ n v.rows rfl st.own.rows _ 1 1 [⟨i, m, b⟩] rfl gr (by omega) st.size ?_
          intro a7 c7 wx how hrow hgr hbx
          have st2 := st.pushed how hgr hbx
          obtain ⟨⟨x0, x1⟩, x2, x3⟩ := cells2 st2.1
          clear how hrow hgr hbx gr st
          refine hK.out _ _ (trivial) (fun hHeld => ?_)
          clear hK K
          try simp only [Act.put, lA, lB, lC]
          refine kK 13 q205 ?_
          refine tR [14] ?_
          refine AllReadyH.cons (o := q206) rfl (fun K hK => ?_) ?_
          ·go_simp
           have st := st2.2
           clear st2
           refine hK.out _ _ (trivial) (fun hHeld => ?_)
           clear hK K
           try simp only [Act.put, lA, lB, lC]
           refine wpAnyH_done (by kernel_rfl) ?_ _
           clear hHeld x0 x1 x2 x3
           obtain ⟨⟨x0, x1⟩, -⟩ := cells2 st.box
           obtain ⟨⟨g0, g1⟩, f0, f1⟩ := cells2 st.res
           have HO := hide st.out
           have HFF := hide (HF.out.more ⟨i, m, b⟩ (by unfold VR.Few VR.Rng I64; simp only; omega))
           clear st
           go_wp2
           exact bodyPost_ret (v := .tuple #[.agg #[.slice a7 (n + 1) c7, .slice o p q], .int .i64 (pp : Int)]) (by simp [results, Tryz.results81, go_sem, *]) rfl ⟨_, _, _, _, _, _, _, (pp : Int), pp, rfl, HO.out.1, HFF.out, by omega, by omega, by omega, HO.out.2⟩
          exact AllReadyH.nil
         exact AllReadyH.nil
        exact AllReadyH.nil
       refine AllReadyH.cons (o := q203) rfl (fun K hK => ?_) ?_
       ·go_simp
        first
        | refine made_new (K := K _) (fun wx kr hbx => ?_)
        | refine made_drew (K := K _) (fun wx kr hbx => ?_)
        have gr : GRow vrowF wx _ 1 1 [⟨i, m, b⟩] := grow_own (F := vrowF) (own_one vrowF (x := ⟨i, m, b⟩) (base := 0) kr rfl (Nat.zero_le _))
        have st := st.below hbx
        clear hbx kr x0 x1
        obtain ⟨⟨x0, x1⟩, -⟩ := cells2 st.box
        refine hK.out _ _ (trivial) (fun hHeld => ?_)
        clear hK K
        try simp only [Act.put, lA, lB, lC]
        refine tR [1] ?_
        refine AllReadyH.cons (o := q196) rfl (fun K hK => ?_) ?_
        ·go_simp
         refine hK.out _ _ (trivial) (fun hHeld => ?_)
         clear hK K
         try simp only [Act.put, lA, lB, lC]
         refine tR [12] ?_
         refine AllReadyH.cons (o := q204) rfl (fun K hK => ?_) ?_
         ·refine step_append_flat (F := vrowF) rfl _ _ 26 81 rfl B Tryz.underlying26 vrowInfo rfl (by decide) _ n v.rows rfl st.own.rows _ 1 1 [⟨i, m, b⟩] rfl gr (by omega) st.size ?_
          intro a7 c7 wx how hrow hgr hbx
          have st2 := st.pushed how hgr hbx
          obtain ⟨⟨x0, x1⟩, x2, x3⟩ := cells2 st2.1
          clear how hrow hgr hbx gr st
          refine hK.out _ _ (trivial) (fun hHeld => ?_)
          clear hK K
          try simp only [Act.put, lA, lB, lC]
          refine kK 13 q205 ?_
          refine tR [14] ?_
          refine AllReadyH.cons (o := q206) rfl (fun K hK => ?_) ?_
          ·go_simp
           have st := st2.2
           clear st2
           refine hK.out _ _ (trivial) (fun hHeld => ?_)
           clear hK K
           try simp only [Act.put, lA, lB, lC]
           refine wpAnyH_done (by kernel_rfl) ?_ _
           clear hHeld x0 x1 x2 x3
           obtain ⟨⟨x0, x1⟩, -⟩ := cells2 st.box
           obtain ⟨⟨g0, g1⟩, f0, f1⟩ := cells2 st.res
           have HO := hide st.out
           have HFF := hide (HF.out.more ⟨i, m, b⟩ (by unfold VR.Few VR.Rng I64; simp only; omega))
           clear st
           go_wp2
           exact bodyPost_ret (v := .tuple #[.agg #[.slice a7 (n + 1) c7, .slice o p q], .int .i64 (pp : Int)]) (by simp [results, Tryz.results81, go_sem, *]) rfl ⟨_, _, _, _, _, _, _, (pp : Int), pp, rfl, HO.out.1, HFF.out, by omega, by omega, by omega, HO.out.2⟩
          exact AllReadyH.nil
         exact AllReadyH.nil
        exact AllReadyH.nil
       exact AllReadyH.nil
      exact AllReadyH.nil
     exact AllReadyH.nil
    exact AllReadyH.nil
   exact AllReadyH.nil
  exact AllReadyH.nil
 by_cases y1 : y = 1
 ·subst y1
  obtain ⟨g, rfl, -, -⟩ := st.own.addr (by have := H67.out; omega)
  have hpp : 0 < p := by have := H67.out; omega
  have i1 : (0 : Int) < (p : Int) := by omega
  have st := st.below (gr_drew (Below.refl _ _))
  go_wp2_with fail
  refine wp_region_held_drew (S := (fun W => W.cell? ⟨X, 1, none⟩ = some (.slice (some ⟨g, 0, none⟩) p q))) (by kernel_rfl) ((cells2 st.box).1.2) (fun hHeld => ?_)
  refine kK 0 ⟨some 33, .fieldAddr 29 (.tmp 5) 1, 0, "l09_vlan.go:163", #[], none⟩ ?_
  refine kK 1 ⟨some 34, .load 27 (.tmp 33), 27, "l09_vlan.go:163", #[⟨0, .data⟩], none⟩ ?_
  refine kK 2 ⟨some 35, .move (.tmp 0), 60, "l09_vlan.go:163", #[], none⟩ ?_
  refine tR [3] ?_
  refine AllReadyH.cons (o := ⟨some 36, .buildSlice 27 2 #[(0, .const (.int .i64 0)), (1, .const (.int .i64 7))], 27, "l09_vlan.go:163", #[], none⟩) rfl (fun K hK => ?_) ?_
  ·go_simp
   first
   | refine made_new (K := K _) (fun wx kq1 hbx => ?_)
   | refine made_drew (K := K _) (fun wx kq1 hbx => ?_)
   have hq1 := st.went.cur.lt
   have st := st.below hbx
   clear hbx
   refine hK.out _ _ ((cells2 st.box).1.2) (fun hHeld => ?_)
   clear hK K
   try simp only [Act.put, lA, lB, lC]
   refine tR [4] ?_
   refine AllReadyH.cons (o := ⟨some 37, .call ⟨.value (.func 33), #[.tmp 35, .tmp 36], #[60, 27]⟩, 3, "l09_vlan.go:163", #[⟨2, .data⟩, ⟨3, .data⟩], none⟩) rfl (fun K hK => ?_) ?_
   ·go_simp
    refine (pick_blk C a0 l0 c0 z0 [0, 7] _ _ _ st.went.cur hq1 kq1 rfl (by simp) (by simp)).mono ?_
    rintro e wx ⟨i, hi, rfl, wtx⟩
    have hi : 0 ≤ i ∧ i ≤ 7 := by simp at hi; omega
    have st := st.draw wtx
    clear wtx kq1
    go_wp2_with fail
    refine hK.out _ _ ((cells2 st.box).1.2) (fun hHeld => ?_)
    clear hK K
    try simp only [Act.put, lA, lB, lC]
    refine kK 5 ⟨some 38, .indexAddr 27 (.tmp 34) (.const (.int .i64 0)), 0, "l09_vlan.go:163", #[⟨1, .data⟩, ⟨0, .phase⟩, ⟨1, .phase⟩, ⟨2, .phase⟩, ⟨3, .phase⟩, ⟨4, .phase⟩], none⟩ ?_
    refine tR [6] ?_
    refine AllReadyH.cons (o := ⟨none, .store 3 (.tmp 38) (.tmp 37), 0, "l09_vlan.go:163", #[⟨5, .data⟩, ⟨4, .data⟩, ⟨4, .chain⟩, ⟨0, .phase⟩, ⟨1, .phase⟩, ⟨2, .phase⟩, ⟨3, .phase⟩, ⟨4, .phase⟩], none⟩) rfl (fun K hK => ?_) ?_
    ·obtain ⟨⟨⟨u, cu⟩, cf⟩, st⟩ := st.setOwn hpp (id := i) (by omega)
     go_simp
     clear cu cf
     refine hK.out _ _ ((cells2 st.box).1.2) (fun hHeld => ?_)
     clear hK K
     try simp only [Act.put, lA, lB, lC]
     refine wpAnyH_done (by kernel_rfl) ?_ _
     clear hHeld
     obtain ⟨⟨x0, x1⟩, -⟩ := cells2 st.box
     obtain ⟨⟨g0, g1⟩, f0, f1⟩ := cells2 st.res
     have HO := hide st.out
     have HFF := hide (HF.out.owned i)
     clear st
     go_wp2
     exact bodyPost_ret (v := .tuple #[.agg #[.slice a n c, .slice (some ⟨g, 0, none⟩) p q], .int .i64 (pp : Int)]) (by simp [results, Tryz.results81, go_sem, *]) rfl ⟨_, _, _, _, _, _, _, (pp : Int), pp, rfl, HO.out.1, HFF.out, by omega, by omega, by omega, HO.out.2⟩
    exact AllReadyH.nil
   exact AllReadyH.nil
  exact AllReadyH.nil
 by_cases y2 : y = 2
 ·subst y2
  obtain ⟨⟨x0, x1⟩, -⟩ := cells2 st.box
  go_wp2_with fail
  refine (pick_any C a0 l0 c0 z0 [0, 6, 7] _ _ w4 st.went.cur rfl rfl (by simp) (by simp)).mono ?_
  rintro e w5 ⟨i, hi, rfl, wtx⟩
  have hi : 0 ≤ i ∧ i ≤ 7 := by simp at hi; omega
  have st := st.draw wtx
  clear wtx x0 x1
  obtain ⟨⟨x0, x1⟩, -⟩ := cells2 st.box
  obtain ⟨⟨g0, g1⟩, f0, f1⟩ := cells2 st.res
  have HO := hide st.out
  have HFF := hide (HF.out.mono (m' := 13) (by omega))
  clear st
  go_wp2
  exact bodyPost_ret (v := .tuple #[.agg #[.slice a n c, .slice o p q], .int .i64 i]) (by simp [results, Tryz.results81, go_sem, *]) rfl ⟨_, _, _, _, _, _, _, i, pp, rfl, HO.out.1, HFF.out, by omega, by omega, by omega, HO.out.2⟩
 by_cases y3 : y = 3
 ·subst y3
  go_wp2
  go_loopw [6] (fun i wr => ∃ (k : Nat) (a : Option Addr) (n c : Nat) (o : Option Addr) (p q : Nat) (v : VT), k ≤ 6 ∧ i = .int .i64 k ∧ VSt w wr C a0 l0 c0 z0 X B a n c o p q v ∧ Fine v pp (6 + k)) (fun i _ => 6 - (intOf i).toNat)
  case atStart => exact ⟨0, a, n, c, o, p, q, v, Nat.zero_le _, rfl, st, HF.out⟩
  case round =>
   clear st HF HLN H67 hn6
   obtain ⟨k, a, n, c, o, p, q, v, hk, rfl, st, hF⟩ := hrel
   have hln := st.own.len
   have hFl := hF.len
   have hFo := hF.own
   have hn12 : n ≤ 12 := by omega
   have hp12 : p ≤ 4 := by omega
   have HF := hide hF
   clear hF hln hFl hFo
   by_cases hk6 : k < 6
   ·obtain ⟨⟨x0, x1⟩, -⟩ := cells2 st.box
    have hwk : IntKind.i64.wrap (10 + (k : Int)) = 10 + (k : Int) := by rw [IntKind.wrap_i64]; omega
    go_wp2_with fail
    refine (specRow_made a n c o p q v ⟨10 + (k : Int), 0, 0⟩ _ st.own.tab (by omega) (by omega)).mono ?_
    rintro e w5 ⟨a7, n7, c7, o7, q7, rfl, hO, hb⟩
    have hF2 := HF.out.row (r := ⟨10 + (k : Int), 0, 0⟩) (by unfold VR.Few VR.Rng I64; simp only; omega)
    have hO := hO.lt (base' := B) st.size
    have st := st.below hb
    obtain ⟨⟨g0, g1⟩, f0, f1⟩ := cells2 st.box
    have HS := hide (st.set hO)
    have HF2 := hide hF2
    clear hb x0 x1 hO st hF2
    go_wp2
    go_roundw
    case rel => exact ⟨k + 1, a7, n7, c7, o7, p, q7, _, by omega, by go_num, HS.out, HF2.out⟩
    case measure => simp [intOf]; omega
   ·have hk' : k = 6 := by omega
    subst hk'
    obtain ⟨⟨x0, x1⟩, -⟩ := cells2 st.box
    obtain ⟨⟨g0, g1⟩, f0, f1⟩ := cells2 st.res
    have HO := hide st.out
    have HFF := hide (HF.out.mono (m' := 13) (by omega))
    clear st
    go_wp2
    exact bodyPost_ret (v := .tuple #[.agg #[.slice a n c, .slice o p q], .int .i64 (pp : Int)]) (by simp [results, Tryz.results81, go_sem, *]) rfl ⟨_, _, _, _, _, _, _, (pp : Int), pp, rfl, HO.out.1, HFF.out, by omega, by omega, by omega, HO.out.2⟩
 ·have e0 : (y == 0) = false := by simp; omega
  have e1 : (y == 1) = false := by simp; omega
  have e2 : (y == 2) = false := by simp; omega
  have e3 : (y == 3) = false := by simp; omega
  obtain ⟨⟨x0, x1⟩, -⟩ := cells2 st.box
  obtain ⟨⟨g0, g1⟩, f0, f1⟩ := cells2 st.res
  have HO := hide st.out
  have HFF := hide (HF.out.mono (m' := 13) (by omega))
  clear st
  go_wp2
  exact bodyPost_ret (v := .tuple #[.agg #[.slice a n c, .slice o p q], .int .i64 (pp : Int)]) (by simp [results, Tryz.results81, go_sem, *]) rfl ⟨_, _, _, _, _, _, _, (pp : Int), pp, rfl, HO.out.1, HFF.out, by omega, by omega, by omega, HO.out.2⟩

end Go.Proofs.YtfknffdlmcckkaaGreat
