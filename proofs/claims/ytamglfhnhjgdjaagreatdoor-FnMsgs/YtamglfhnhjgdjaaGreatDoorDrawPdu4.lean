/-
  A request that is drawn, right or not: l4Any by its contract.
-/
import Derived.Test.YtamglfhnhjgdjaaGreatDoorDrawPdu3
import Derived.Test.YtamglfhnhjgdjaaGreatDoorPduSpec3
namespace Go.Proofs.YtamglfhnhjgdjaaGreatDoor
open Go.RowKit

theorem own_none (w : World) (base : Nat) : w.ownsRow base 3 1 (.slice none 0 0) 0 (cI []) := ⟨rfl, .inl ⟨rfl, rfl⟩⟩

set_option maxRecDepth 100000 in
set_option maxHeartbeats 4000000 in
theorem l4Any_any (C : Nat) (a0 : Option Addr) (l0 c0 : Nat) (z0 : List Int) (w : World) (hc : Cur w C a0 l0 c0 z0) :
    Calls Tryz.prog 18 #[.pointer (some ⟨C, 0, none⟩)] w fun e w' => DrawnQ w w' C a0 l0 c0 z0 e := by
  have hlt := hc.lt
  have q0 := below_one w (.cells #[.int .i64 0, .int .i64 0, .int .i64 0, .int .i64 0, .slice none 0 0] 26)
  have wn0 := Went.start hc q0
  have hk0 := block_last w (.cells #[.int .i64 0, .int .i64 0, .int .i64 0, .int .i64 0, .slice none 0 0] 26)
  go_enter Tryz.func18, Tryz.ntmps18
  go_wp2_with fail
  refine (l4Draw_any C a0 l0 c0 z0 _ wn0.cur).mono ?_
  rintro e w1 ⟨k, id, a, b, ys, lo, cap, rfl, hys, hbo1, went1⟩
  have hsz : (w.alloc (.cells #[.int .i64 0, .int .i64 0, .int .i64 0, .int .i64 0, .slice none 0 0] 26)).heap.size = w.heap.size + 1 := by simp
  rw [hsz] at hbo1
  have wn1 := wn0.trans went1
  have k1 := kept_grown hk0 went1.grown (fun j hj => by cases hj; omega)
  have hw1 : w.heap.size < w1.heap.size := (Array.getElem?_eq_some_iff.1 k1).1
  have q1 := below_one w1 (.cells #[.int .i64 k, .int .i64 id, .int .i64 a, .int .i64 b, .slice lo ys.length cap] 26)
  have DP : ASt w (w1.alloc (.cells #[.int .i64 k, .int .i64 id, .int .i64 a, .int .i64 b, .slice lo ys.length cap] 26)) w1.heap.size C a0 l0 c0 z0 k id a b ys lo cap := ⟨block_last w1 _, kept_block k1 q1, hbo1.below q1, wn1.made q1, hw1⟩
  have HDP := hide DP
  clear DP wn0 wn1 went1 k1 hk0 hbo1 q1 q0 hsz
  go_wp2_with fail
  generalize hwp : (w1.alloc (.cells #[.int .i64 k, .int .i64 id, .int .i64 a, .int .i64 b, .slice lo ys.length cap] 26)) = wp at *
  clear hwp
  generalize hpb : w1.heap.size = pb at *
  clear hpb
  refine (below_any C a0 l0 c0 z0 12 _ HDP.out.went.cur (by omega)).mono ?_
  rintro e wr ⟨xs, rfl, hx0, -, -, went2⟩
  have HDS := hide (HDP.out.bind hlt (World.grownBy.refl _ _) went2.grown went2.cur)
  have hpl := HDS.out.low
  clear HDP went2
  by_cases j0 : xs = 0
  · subst j0
    go_wp2_with fail
    refine (below_any C a0 l0 c0 z0 256 _ HDS.out.went.cur (by omega)).mono ?_
    rintro e w3 ⟨xk, rfl, -, -, -, went3⟩
    have D3 := HDS.out.bind hlt (World.grownBy.refl _ _) went3.grown went3.cur
    clear HDS went3
    obtain ⟨⟨p0, p1, p2, p3, p4⟩, f0, f1, f2, f3, f4⟩ := cells5 D3.pbox
    have HDS := hide (D3.set0 xk hlt)
    clear D3
    have m1 : ¬ pb = w.heap.size := by have := HDS.out.low; omega
    obtain ⟨⟨t0, t1, t2, t3, t4⟩, -⟩ := cells5 HDS.out.pbox
    obtain ⟨⟨d0, d1, d2, d3, d4⟩, e0, e1, e2, e3, e4⟩ := cells5 HDS.out.rbox
    go_wp2
    refine bodyPost_ret (v := .agg #[.int .i64 xk, .int .i64 id, .int .i64 a, .int .i64 b, .slice lo ys.length cap]) (by simp [results, Tryz.results18, go_sem, *]) rfl ⟨_, _, _, _, ys, _, _, rfl, by omega, ?_, ?_⟩
    · refine BOwns.lt (base := w.heap.size + 1) ?_ (by omega)
      repeat (refine BOwns.set_below ?_ (by omega))
      exact HDS.out.bo
    · refine HDS.out.went.madeAt (B := w.heap.size) ?_ hlt (Nat.le_refl _)
      repeat (refine below_set ?_ (Nat.le_refl _) _ _)
      exact Below.refl _ _
  by_cases j1 : xs = 1
  · subst j1
    go_wp2_with fail
    refine (pick_any C a0 l0 c0 z0 [-1, 1, 1000, 1001] wr.heap.size 4 wr HDS.out.went.cur (by simp) rfl (by omega) (by omega)).mono ?_
    rintro e w3 ⟨xk, -, rfl, went3⟩
    have D3 := HDS.out.bind hlt (World.grownBy.refl _ _) went3.grown went3.cur
    clear HDS went3
    obtain ⟨⟨p0, p1, p2, p3, p4⟩, f0, f1, f2, f3, f4⟩ := cells5 D3.pbox
    have HDS := hide (D3.set2 xk hlt)
    clear D3
    have m1 : ¬ pb = w.heap.size := by have := HDS.out.low; omega
    obtain ⟨⟨t0, t1, t2, t3, t4⟩, -⟩ := cells5 HDS.out.pbox
    obtain ⟨⟨d0, d1, d2, d3, d4⟩, e0, e1, e2, e3, e4⟩ := cells5 HDS.out.rbox
    go_wp2
    refine bodyPost_ret (v := .agg #[.int .i64 k, .int .i64 id, .int .i64 xk, .int .i64 b, .slice lo ys.length cap]) (by simp [results, Tryz.results18, go_sem, *]) rfl ⟨_, _, _, _, ys, _, _, rfl, by omega, ?_, ?_⟩
    · refine BOwns.lt (base := w.heap.size + 1) ?_ (by omega)
      repeat (refine BOwns.set_below ?_ (by omega))
      exact HDS.out.bo
    · refine HDS.out.went.madeAt (B := w.heap.size) ?_ hlt (Nat.le_refl _)
      repeat (refine below_set ?_ (Nat.le_refl _) _ _)
      exact Below.refl _ _
  by_cases j2 : xs = 2
  · subst j2
    obtain ⟨⟨p0, p1, p2, p3, p4⟩, -⟩ := cells5 HDS.out.pbox
    go_wp2_with fail
    refine wp_region_held_drew (S := fun _ => True) (by kernel_rfl) trivial (fun _ => ?_)
    refine wpAnyH_take (i := 0) (oi := _) (v := ?_) rfl (by kernel_rfl) (by kernel_rfl) (by kernel_rfl) (fun _ _ _ h => h) (Or.inl ⟨by rfl, ?_⟩) trivial ?_
    rotate_left
    · (intro wY _; go_simp; try with_reducible rfl)
    try simp only [Act.put]
    try simp only [List.setIfInBounds_toArray]
    try simp only [List.set_cons_succ]
    try simp only [List.set_cons_zero]
    refine wpAnyH_take (i := 2) (oi := _) (v := ?_) rfl (by kernel_rfl) (by kernel_rfl) (by kernel_rfl) (fun _ _ _ h => h) (Or.inl ⟨by rfl, ?_⟩) trivial ?_
    rotate_left
    · (intro wY _; go_simp; try with_reducible rfl)
    try simp only [Act.put]
    try simp only [List.setIfInBounds_toArray]
    try simp only [List.set_cons_succ]
    try simp only [List.set_cons_zero]
    refine wpAnyH_take (i := 4) (oi := _) (v := ?_) rfl (by kernel_rfl) (by kernel_rfl) (by kernel_rfl) (fun _ _ _ h => h) (Or.inl ⟨by rfl, ?_⟩) trivial ?_
    rotate_left
    · (intro wY _; go_simp; try with_reducible rfl)
    try simp only [Act.put]
    try simp only [List.setIfInBounds_toArray]
    try simp only [List.set_cons_succ]
    try simp only [List.set_cons_zero]
    refine wpAnyH_ready (rs := [1, 3]) (by kernel_rfl) (by simp) ?_
    refine AllReadyH.cons rfl (fun K hK => ?_) ?_
    · go_simp
      refine hK.out _ _ trivial (fun _ => ?_)
      clear hK K
      refine wpAnyH_ready (rs := [3]) (by kernel_rfl) (by simp) ?_
      refine AllReadyH.cons rfl (fun K hK => ?_) ?_
      · go_simp
        go_wp2_with (go_at_call 40; refine (oidAny_any C a0 l0 c0 z0 _ (HDS.out.went.cur.below (below_drewN (Below.refl _ _) _))).mono ?_; rintro e w2 ⟨oa, on, oc, o, rfl, hlo2, hhi2, hol2, hok2, how2, went2⟩; have g2 : wr.grownBy w2 (some C) := ⟨went2.grown.os, went2.grown.tape, went2.grown.output, went2.grown.size, went2.grown.block⟩; have kp2 := kept_grown HDS.out.pbox g2 (fun j hj => by cases hj; omega); obtain ⟨⟨qa0, qa1, qa2, qa3, qa4⟩, -⟩ := cells5 kp2; have hpw : w.heap.size + 1 ≤ wr.heap.size := HDS.out.big)
        refine hK.out _ _ trivial (fun _ => ?_)
        clear hK K
        refine wpAnyH_ready (rs := [5]) (by kernel_rfl) (by simp) ?_
        refine AllReadyH.cons rfl (fun K hK => ?_) ?_
        · go_simp
          go_wp2_with (go_at_call 41; refine (l3Any_any C a0 l0 c0 z0 _ went2.cur).mono ?_; rintro e w3 ⟨K', N, S, za, zn, zc, z, rfl, hS3', hn3, hz3, hzi3, how3, went3⟩; have kp3 := kept_grown kp2 went3.grown (fun j hj => by cases hj; omega); obtain ⟨⟨qb0, qb1, qb2, qb3, qb4⟩, -⟩ := cells5 kp3; have D3 := HDS.out.bind hlt g2 went3.grown went3.cur; have NEW := drawn_bind (K := K') (N := N) (S := S) (own_lt how2 (base' := w.heap.size + 1) hpw) hok2 went3.grown (by omega) how3 hzi3 (Nat.le_refl _) (Nat.le_trans hpw g2.size) hS3'; have D4 := D3.below (below_one w3 (.cells #[.slice oa on oc, .int .i64 K', .int .i64 N, .string S, .slice za zn zc] 80)); obtain ⟨⟨qd0, qd1, qd2, qd3, qd4⟩, -⟩ := cells5 D4.pbox; have NEW4 := NEW.own.below (below_one w3 (.cells #[.slice oa on oc, .int .i64 K', .int .i64 N, .string S, .slice za zn zc] 80)); have HAP : ∀ z' ∈ ys, ∀ b' ∈ z'.blks, b' ∉ (BI.mk oa on oc o K' N S za zn zc z).blks := (fun z' hz' b' hb' hc => apart_new (HDS.out.bo.item z' hz') how2 how3 (Nat.le_refl _) g2.size hb' hc); have hsz4 : w.heap.size + 1 ≤ (w3.alloc (.cells #[.slice oa on oc, .int .i64 K', .int .i64 N, .string S, .slice za zn zc] 80)).heap.size := (by have h1 := g2.size; have h2 := went3.grown.size; simp; omega))
          refine hK.out _ _ trivial (fun _ => ?_)
          clear hK K
          refine wpAnyH_take (i := 6) (oi := _) (v := ?_) rfl (by kernel_rfl) (by kernel_rfl) (by kernel_rfl) (fun _ _ _ h => h) (Or.inl ⟨by rfl, ?_⟩) trivial ?_
          rotate_left
          · (intro wY _; go_simp; try with_reducible rfl)
          try simp only [Act.put]
          try simp only [List.setIfInBounds_toArray]
          try simp only [List.set_cons_succ]
          try simp only [List.set_cons_zero]
          refine wpAnyH_ready (rs := [7]) (by kernel_rfl) (by simp) ?_
          refine AllReadyH.cons rfl (fun K hK => ?_) ?_
          · go_simp
            refine hK.out _ _ trivial (fun _ => ?_)
            clear hK K
            refine wpAnyH_ready (rs := [8]) (by kernel_rfl) (by simp) ?_
            refine AllReadyH.cons rfl (fun K hK => ?_) ?_
            · (refine step_append_bind rfl _ _ 24 rfl (w.heap.size + 1) Tryz.underlying24 Tryz.infoBind' lo cap ys rfl D4.bo w3.heap.size (BI.mk oa on oc o K' N S za zn zc z) rfl (bind_news w3 (BI.mk oa on oc o K' N S za zn zc z)) NEW4 NEW.nd HAP (by omega) hsz4 ?_; intro lo' cap' w5 hb5 hg5; have D5 := D4.push hg5 hb5 hlt; have kp5 := (Only.of_grown hg5).kept D4.pbox (fun hc => box_apart D4.bo D4.pbox (List.mem_append_left _ hc)); obtain ⟨⟨qc0, qc1, qc2, qc3, qc4⟩, pf0, pf1, pf2, pf3, pf4⟩ := cells5 kp5)
              refine hK.out _ _ trivial (fun _ => ?_)
              clear hK K
              refine wpAnyH_take (i := 9) (oi := _) (v := ?_) rfl (by kernel_rfl) (by kernel_rfl) (by kernel_rfl) (fun _ _ _ h => h) (Or.inl ⟨by rfl, ?_⟩) trivial ?_
              rotate_left
              · (intro wY _; go_simp; try with_reducible rfl)
              try simp only [Act.put]
              try simp only [List.setIfInBounds_toArray]
              try simp only [List.set_cons_succ]
              try simp only [List.set_cons_zero]
              refine wpAnyH_ready (rs := [10]) (by kernel_rfl) (by simp) ?_
              refine AllReadyH.cons rfl (fun K hK => ?_) ?_
              · go_simp
                refine hK.out _ _ trivial (fun _ => ?_)
                clear hK K
                refine wpAnyH_done (by kernel_rfl) ?_ _
                obtain ⟨yy, hyl, DX⟩ : ∃ yy : List BI, yy.length = ys.length + 1 ∧ ASt w (w5.setCell ⟨pb, 4, none⟩ (.slice lo' (ys.length + 1) cap')) pb C a0 l0 c0 z0 k id a b yy lo' cap' := ⟨_, by simp, D5⟩
                clear HDS
                have HDS := hide DX
                clear DX D5 p0 p1 p2 p3 p4 qb0 qb1 qb2 qb3 qb4 qa0 qa1 qa2 qa3 qa4 qc0 qc1 qc2 qc3 qc4 qd0 qd1 qd2 qd3 qd4 pf0 pf1 pf2 pf3 pf4
                generalize w5.setCell ⟨pb, 4, none⟩ (.slice lo' (ys.length + 1) cap') = wx at *
                have m1 : ¬ pb = w.heap.size := by have := HDS.out.low; omega
                obtain ⟨⟨t0, t1, t2, t3, t4⟩, -⟩ := cells5 HDS.out.pbox
                obtain ⟨⟨d0, d1, d2, d3, d4⟩, e0, e1, e2, e3, e4⟩ := cells5 HDS.out.rbox
                go_wp2
                refine bodyPost_ret (v := .agg #[.int .i64 k, .int .i64 id, .int .i64 a, .int .i64 b, .slice lo' yy.length cap']) (by simp [results, Tryz.results18, go_sem, *]) rfl ⟨_, _, _, _, yy, _, _, rfl, by omega, ?_, ?_⟩
                · refine BOwns.lt (base := w.heap.size + 1) ?_ (by omega)
                  repeat (refine BOwns.set_below ?_ (by omega))
                  exact HDS.out.bo
                · refine HDS.out.went.madeAt (B := w.heap.size) ?_ hlt (Nat.le_refl _)
                  repeat (refine below_set ?_ (Nat.le_refl _) _ _)
                  exact Below.refl _ _
              exact AllReadyH.nil

            exact AllReadyH.nil

          exact AllReadyH.nil

        exact AllReadyH.nil

      exact AllReadyH.nil

    refine AllReadyH.cons rfl (fun K hK => ?_) ?_
    · go_simp
      go_wp2_with (go_at_call 40; refine (oidAny_any C a0 l0 c0 z0 _ (HDS.out.went.cur.below (below_drewN (Below.refl _ _) _))).mono ?_; rintro e w2 ⟨oa, on, oc, o, rfl, hlo2, hhi2, hol2, hok2, how2, went2⟩; have g2 : wr.grownBy w2 (some C) := ⟨went2.grown.os, went2.grown.tape, went2.grown.output, went2.grown.size, went2.grown.block⟩; have kp2 := kept_grown HDS.out.pbox g2 (fun j hj => by cases hj; omega); obtain ⟨⟨qa0, qa1, qa2, qa3, qa4⟩, -⟩ := cells5 kp2; have hpw : w.heap.size + 1 ≤ wr.heap.size := HDS.out.big)
      refine hK.out _ _ trivial (fun _ => ?_)
      clear hK K
      refine wpAnyH_ready (rs := [1, 5]) (by kernel_rfl) (by simp) ?_
      refine AllReadyH.cons rfl (fun K hK => ?_) ?_
      · go_simp
        refine hK.out _ _ trivial (fun _ => ?_)
        clear hK K
        refine wpAnyH_ready (rs := [5]) (by kernel_rfl) (by simp) ?_
        refine AllReadyH.cons rfl (fun K hK => ?_) ?_
        · go_simp
          go_wp2_with (go_at_call 41; refine (l3Any_any C a0 l0 c0 z0 _ went2.cur).mono ?_; rintro e w3 ⟨K', N, S, za, zn, zc, z, rfl, hS3', hn3, hz3, hzi3, how3, went3⟩; have kp3 := kept_grown kp2 went3.grown (fun j hj => by cases hj; omega); obtain ⟨⟨qb0, qb1, qb2, qb3, qb4⟩, -⟩ := cells5 kp3; have D3 := HDS.out.bind hlt g2 went3.grown went3.cur; have NEW := drawn_bind (K := K') (N := N) (S := S) (own_lt how2 (base' := w.heap.size + 1) hpw) hok2 went3.grown (by omega) how3 hzi3 (Nat.le_refl _) (Nat.le_trans hpw g2.size) hS3'; have D4 := D3.below (below_one w3 (.cells #[.slice oa on oc, .int .i64 K', .int .i64 N, .string S, .slice za zn zc] 80)); obtain ⟨⟨qd0, qd1, qd2, qd3, qd4⟩, -⟩ := cells5 D4.pbox; have NEW4 := NEW.own.below (below_one w3 (.cells #[.slice oa on oc, .int .i64 K', .int .i64 N, .string S, .slice za zn zc] 80)); have HAP : ∀ z' ∈ ys, ∀ b' ∈ z'.blks, b' ∉ (BI.mk oa on oc o K' N S za zn zc z).blks := (fun z' hz' b' hb' hc => apart_new (HDS.out.bo.item z' hz') how2 how3 (Nat.le_refl _) g2.size hb' hc); have hsz4 : w.heap.size + 1 ≤ (w3.alloc (.cells #[.slice oa on oc, .int .i64 K', .int .i64 N, .string S, .slice za zn zc] 80)).heap.size := (by have h1 := g2.size; have h2 := went3.grown.size; simp; omega))
          refine hK.out _ _ trivial (fun _ => ?_)
          clear hK K
          refine wpAnyH_take (i := 6) (oi := _) (v := ?_) rfl (by kernel_rfl) (by kernel_rfl) (by kernel_rfl) (fun _ _ _ h => h) (Or.inl ⟨by rfl, ?_⟩) trivial ?_
          rotate_left
          · (intro wY _; go_simp; try with_reducible rfl)
          try simp only [Act.put]
          try simp only [List.setIfInBounds_toArray]
          try simp only [List.set_cons_succ]
          try simp only [List.set_cons_zero]
          refine wpAnyH_ready (rs := [7]) (by kernel_rfl) (by simp) ?_
          refine AllReadyH.cons rfl (fun K hK => ?_) ?_
          · go_simp
            refine hK.out _ _ trivial (fun _ => ?_)
            clear hK K
            refine wpAnyH_ready (rs := [8]) (by kernel_rfl) (by simp) ?_
            refine AllReadyH.cons rfl (fun K hK => ?_) ?_
            · (refine step_append_bind rfl _ _ 24 rfl (w.heap.size + 1) Tryz.underlying24 Tryz.infoBind' lo cap ys rfl D4.bo w3.heap.size (BI.mk oa on oc o K' N S za zn zc z) rfl (bind_news w3 (BI.mk oa on oc o K' N S za zn zc z)) NEW4 NEW.nd HAP (by omega) hsz4 ?_; intro lo' cap' w5 hb5 hg5; have D5 := D4.push hg5 hb5 hlt; have kp5 := (Only.of_grown hg5).kept D4.pbox (fun hc => box_apart D4.bo D4.pbox (List.mem_append_left _ hc)); obtain ⟨⟨qc0, qc1, qc2, qc3, qc4⟩, pf0, pf1, pf2, pf3, pf4⟩ := cells5 kp5)
              refine hK.out _ _ trivial (fun _ => ?_)
              clear hK K
              refine wpAnyH_take (i := 9) (oi := _) (v := ?_) rfl (by kernel_rfl) (by kernel_rfl) (by kernel_rfl) (fun _ _ _ h => h) (Or.inl ⟨by rfl, ?_⟩) trivial ?_
              rotate_left
              · (intro wY _; go_simp; try with_reducible rfl)
              try simp only [Act.put]
              try simp only [List.setIfInBounds_toArray]
              try simp only [List.set_cons_succ]
              try simp only [List.set_cons_zero]
              refine wpAnyH_ready (rs := [10]) (by kernel_rfl) (by simp) ?_
              refine AllReadyH.cons rfl (fun K hK => ?_) ?_
              · go_simp
                refine hK.out _ _ trivial (fun _ => ?_)
                clear hK K
                refine wpAnyH_done (by kernel_rfl) ?_ _
                obtain ⟨yy, hyl, DX⟩ : ∃ yy : List BI, yy.length = ys.length + 1 ∧ ASt w (w5.setCell ⟨pb, 4, none⟩ (.slice lo' (ys.length + 1) cap')) pb C a0 l0 c0 z0 k id a b yy lo' cap' := ⟨_, by simp, D5⟩
                clear HDS
                have HDS := hide DX
                clear DX D5 p0 p1 p2 p3 p4 qb0 qb1 qb2 qb3 qb4 qa0 qa1 qa2 qa3 qa4 qc0 qc1 qc2 qc3 qc4 qd0 qd1 qd2 qd3 qd4 pf0 pf1 pf2 pf3 pf4
                generalize w5.setCell ⟨pb, 4, none⟩ (.slice lo' (ys.length + 1) cap') = wx at *
                have m1 : ¬ pb = w.heap.size := by have := HDS.out.low; omega
                obtain ⟨⟨t0, t1, t2, t3, t4⟩, -⟩ := cells5 HDS.out.pbox
                obtain ⟨⟨d0, d1, d2, d3, d4⟩, e0, e1, e2, e3, e4⟩ := cells5 HDS.out.rbox
                go_wp2
                refine bodyPost_ret (v := .agg #[.int .i64 k, .int .i64 id, .int .i64 a, .int .i64 b, .slice lo' yy.length cap']) (by simp [results, Tryz.results18, go_sem, *]) rfl ⟨_, _, _, _, yy, _, _, rfl, by omega, ?_, ?_⟩
                · refine BOwns.lt (base := w.heap.size + 1) ?_ (by omega)
                  repeat (refine BOwns.set_below ?_ (by omega))
                  exact HDS.out.bo
                · refine HDS.out.went.madeAt (B := w.heap.size) ?_ hlt (Nat.le_refl _)
                  repeat (refine below_set ?_ (Nat.le_refl _) _ _)
                  exact Below.refl _ _
              exact AllReadyH.nil

            exact AllReadyH.nil

          exact AllReadyH.nil

        exact AllReadyH.nil

      refine AllReadyH.cons rfl (fun K hK => ?_) ?_
      · go_simp
        go_wp2_with (go_at_call 41; refine (l3Any_any C a0 l0 c0 z0 _ went2.cur).mono ?_; rintro e w3 ⟨K', N, S, za, zn, zc, z, rfl, hS3', hn3, hz3, hzi3, how3, went3⟩; have kp3 := kept_grown kp2 went3.grown (fun j hj => by cases hj; omega); obtain ⟨⟨qb0, qb1, qb2, qb3, qb4⟩, -⟩ := cells5 kp3; have D3 := HDS.out.bind hlt g2 went3.grown went3.cur; have NEW := drawn_bind (K := K') (N := N) (S := S) (own_lt how2 (base' := w.heap.size + 1) hpw) hok2 went3.grown (by omega) how3 hzi3 (Nat.le_refl _) (Nat.le_trans hpw g2.size) hS3'; have D4 := D3.below (below_one w3 (.cells #[.slice oa on oc, .int .i64 K', .int .i64 N, .string S, .slice za zn zc] 80)); obtain ⟨⟨qd0, qd1, qd2, qd3, qd4⟩, -⟩ := cells5 D4.pbox; have NEW4 := NEW.own.below (below_one w3 (.cells #[.slice oa on oc, .int .i64 K', .int .i64 N, .string S, .slice za zn zc] 80)); have HAP : ∀ z' ∈ ys, ∀ b' ∈ z'.blks, b' ∉ (BI.mk oa on oc o K' N S za zn zc z).blks := (fun z' hz' b' hb' hc => apart_new (HDS.out.bo.item z' hz') how2 how3 (Nat.le_refl _) g2.size hb' hc); have hsz4 : w.heap.size + 1 ≤ (w3.alloc (.cells #[.slice oa on oc, .int .i64 K', .int .i64 N, .string S, .slice za zn zc] 80)).heap.size := (by have h1 := g2.size; have h2 := went3.grown.size; simp; omega))
        refine hK.out _ _ trivial (fun _ => ?_)
        clear hK K
        refine wpAnyH_take (i := 6) (oi := _) (v := ?_) rfl (by kernel_rfl) (by kernel_rfl) (by kernel_rfl) (fun _ _ _ h => h) (Or.inl ⟨by rfl, ?_⟩) trivial ?_
        rotate_left
        · (intro wY _; go_simp; try with_reducible rfl)
        try simp only [Act.put]
        try simp only [List.setIfInBounds_toArray]
        try simp only [List.set_cons_succ]
        try simp only [List.set_cons_zero]
        refine wpAnyH_ready (rs := [1, 7]) (by kernel_rfl) (by simp) ?_
        refine AllReadyH.cons rfl (fun K hK => ?_) ?_
        · go_simp
          refine hK.out _ _ trivial (fun _ => ?_)
          clear hK K
          refine wpAnyH_ready (rs := [7]) (by kernel_rfl) (by simp) ?_
          refine AllReadyH.cons rfl (fun K hK => ?_) ?_
          · go_simp
            refine hK.out _ _ trivial (fun _ => ?_)
            clear hK K
            refine wpAnyH_ready (rs := [8]) (by kernel_rfl) (by simp) ?_
            refine AllReadyH.cons rfl (fun K hK => ?_) ?_
            · (refine step_append_bind rfl _ _ 24 rfl (w.heap.size + 1) Tryz.underlying24 Tryz.infoBind' lo cap ys rfl D4.bo w3.heap.size (BI.mk oa on oc o K' N S za zn zc z) rfl (bind_news w3 (BI.mk oa on oc o K' N S za zn zc z)) NEW4 NEW.nd HAP (by omega) hsz4 ?_; intro lo' cap' w5 hb5 hg5; have D5 := D4.push hg5 hb5 hlt; have kp5 := (Only.of_grown hg5).kept D4.pbox (fun hc => box_apart D4.bo D4.pbox (List.mem_append_left _ hc)); obtain ⟨⟨qc0, qc1, qc2, qc3, qc4⟩, pf0, pf1, pf2, pf3, pf4⟩ := cells5 kp5)
              refine hK.out _ _ trivial (fun _ => ?_)
              clear hK K
              refine wpAnyH_take (i := 9) (oi := _) (v := ?_) rfl (by kernel_rfl) (by kernel_rfl) (by kernel_rfl) (fun _ _ _ h => h) (Or.inl ⟨by rfl, ?_⟩) trivial ?_
              rotate_left
              · (intro wY _; go_simp; try with_reducible rfl)
              try simp only [Act.put]
              try simp only [List.setIfInBounds_toArray]
              try simp only [List.set_cons_succ]
              try simp only [List.set_cons_zero]
              refine wpAnyH_ready (rs := [10]) (by kernel_rfl) (by simp) ?_
              refine AllReadyH.cons rfl (fun K hK => ?_) ?_
              · go_simp
                refine hK.out _ _ trivial (fun _ => ?_)
                clear hK K
                refine wpAnyH_done (by kernel_rfl) ?_ _
                obtain ⟨yy, hyl, DX⟩ : ∃ yy : List BI, yy.length = ys.length + 1 ∧ ASt w (w5.setCell ⟨pb, 4, none⟩ (.slice lo' (ys.length + 1) cap')) pb C a0 l0 c0 z0 k id a b yy lo' cap' := ⟨_, by simp, D5⟩
                clear HDS
                have HDS := hide DX
                clear DX D5 p0 p1 p2 p3 p4 qb0 qb1 qb2 qb3 qb4 qa0 qa1 qa2 qa3 qa4 qc0 qc1 qc2 qc3 qc4 qd0 qd1 qd2 qd3 qd4 pf0 pf1 pf2 pf3 pf4
                generalize w5.setCell ⟨pb, 4, none⟩ (.slice lo' (ys.length + 1) cap') = wx at *
                have m1 : ¬ pb = w.heap.size := by have := HDS.out.low; omega
                obtain ⟨⟨t0, t1, t2, t3, t4⟩, -⟩ := cells5 HDS.out.pbox
                obtain ⟨⟨d0, d1, d2, d3, d4⟩, e0, e1, e2, e3, e4⟩ := cells5 HDS.out.rbox
                go_wp2
                refine bodyPost_ret (v := .agg #[.int .i64 k, .int .i64 id, .int .i64 a, .int .i64 b, .slice lo' yy.length cap']) (by simp [results, Tryz.results18, go_sem, *]) rfl ⟨_, _, _, _, yy, _, _, rfl, by omega, ?_, ?_⟩
                · refine BOwns.lt (base := w.heap.size + 1) ?_ (by omega)
                  repeat (refine BOwns.set_below ?_ (by omega))
                  exact HDS.out.bo
                · refine HDS.out.went.madeAt (B := w.heap.size) ?_ hlt (Nat.le_refl _)
                  repeat (refine below_set ?_ (Nat.le_refl _) _ _)
                  exact Below.refl _ _
              exact AllReadyH.nil

            exact AllReadyH.nil

          exact AllReadyH.nil

        refine AllReadyH.cons rfl (fun K hK => ?_) ?_
        · go_simp
          refine hK.out _ _ trivial (fun _ => ?_)
          clear hK K
          refine wpAnyH_ready (rs := [1]) (by kernel_rfl) (by simp) ?_
          refine AllReadyH.cons rfl (fun K hK => ?_) ?_
          · go_simp
            refine hK.out _ _ trivial (fun _ => ?_)
            clear hK K
            refine wpAnyH_ready (rs := [8]) (by kernel_rfl) (by simp) ?_
            refine AllReadyH.cons rfl (fun K hK => ?_) ?_
            · (refine step_append_bind rfl _ _ 24 rfl (w.heap.size + 1) Tryz.underlying24 Tryz.infoBind' lo cap ys rfl D4.bo w3.heap.size (BI.mk oa on oc o K' N S za zn zc z) rfl (bind_news w3 (BI.mk oa on oc o K' N S za zn zc z)) NEW4 NEW.nd HAP (by omega) hsz4 ?_; intro lo' cap' w5 hb5 hg5; have D5 := D4.push hg5 hb5 hlt; have kp5 := (Only.of_grown hg5).kept D4.pbox (fun hc => box_apart D4.bo D4.pbox (List.mem_append_left _ hc)); obtain ⟨⟨qc0, qc1, qc2, qc3, qc4⟩, pf0, pf1, pf2, pf3, pf4⟩ := cells5 kp5)
              refine hK.out _ _ trivial (fun _ => ?_)
              clear hK K
              refine wpAnyH_take (i := 9) (oi := _) (v := ?_) rfl (by kernel_rfl) (by kernel_rfl) (by kernel_rfl) (fun _ _ _ h => h) (Or.inl ⟨by rfl, ?_⟩) trivial ?_
              rotate_left
              · (intro wY _; go_simp; try with_reducible rfl)
              try simp only [Act.put]
              try simp only [List.setIfInBounds_toArray]
              try simp only [List.set_cons_succ]
              try simp only [List.set_cons_zero]
              refine wpAnyH_ready (rs := [10]) (by kernel_rfl) (by simp) ?_
              refine AllReadyH.cons rfl (fun K hK => ?_) ?_
              · go_simp
                refine hK.out _ _ trivial (fun _ => ?_)
                clear hK K
                refine wpAnyH_done (by kernel_rfl) ?_ _
                obtain ⟨yy, hyl, DX⟩ : ∃ yy : List BI, yy.length = ys.length + 1 ∧ ASt w (w5.setCell ⟨pb, 4, none⟩ (.slice lo' (ys.length + 1) cap')) pb C a0 l0 c0 z0 k id a b yy lo' cap' := ⟨_, by simp, D5⟩
                clear HDS
                have HDS := hide DX
                clear DX D5 p0 p1 p2 p3 p4 qb0 qb1 qb2 qb3 qb4 qa0 qa1 qa2 qa3 qa4 qc0 qc1 qc2 qc3 qc4 qd0 qd1 qd2 qd3 qd4 pf0 pf1 pf2 pf3 pf4
                generalize w5.setCell ⟨pb, 4, none⟩ (.slice lo' (ys.length + 1) cap') = wx at *
                have m1 : ¬ pb = w.heap.size := by have := HDS.out.low; omega
                obtain ⟨⟨t0, t1, t2, t3, t4⟩, -⟩ := cells5 HDS.out.pbox
                obtain ⟨⟨d0, d1, d2, d3, d4⟩, e0, e1, e2, e3, e4⟩ := cells5 HDS.out.rbox
                go_wp2
                refine bodyPost_ret (v := .agg #[.int .i64 k, .int .i64 id, .int .i64 a, .int .i64 b, .slice lo' yy.length cap']) (by simp [results, Tryz.results18, go_sem, *]) rfl ⟨_, _, _, _, yy, _, _, rfl, by omega, ?_, ?_⟩
                · refine BOwns.lt (base := w.heap.size + 1) ?_ (by omega)
                  repeat (refine BOwns.set_below ?_ (by omega))
                  exact HDS.out.bo
                · refine HDS.out.went.madeAt (B := w.heap.size) ?_ hlt (Nat.le_refl _)
                  repeat (refine below_set ?_ (Nat.le_refl _) _ _)
                  exact Below.refl _ _
              exact AllReadyH.nil

            exact AllReadyH.nil

          exact AllReadyH.nil

        exact AllReadyH.nil

      exact AllReadyH.nil

    exact AllReadyH.nil

  by_cases j3 : xs = 3
  · subst j3
    go_wp2
    go_loopw [40] (fun _ ws => ∃ (ys : List BI) (lo : Option Addr) (cap : Nat), ys.length ≤ 20 ∧ ASt w ws pb C a0 l0 c0 z0 k id a b ys lo cap) (fun _ ws => 41 - lenOf ((ws.cell? ⟨pb, 4, none⟩).getD (.slice none 0 0)))
    case atStart => exact ⟨ys, lo, cap, hys, HDS.out⟩
    case round =>
      clear HDS hys
      obtain ⟨ys, lo, cap, hml, DS⟩ := hrel
      have HDS := hide DS
      obtain ⟨⟨p0, p1, p2, p3, p4⟩, -⟩ := cells5 DS.pbox
      have HC0 := hide p4
      clear DS
      go_wp2_with fail
      go_region_held3 (fun W => W.cell? ⟨pb, 4, none⟩ = some (.slice lo ys.length cap)) (first | assumption | go_keep) ((go_at_call 31; refine (below_any C a0 l0 c0 z0 2 _ (HDS.out.went.cur.below (below_drewN (Below.refl _ _) _)) (by omega)).mono ?_; rintro e w8 ⟨x8, rfl, hx80, hx81, -, went8⟩; have g8 : wr.grownBy w8 (some C) := ⟨went8.grown.os, went8.grown.tape, went8.grown.output, went8.grown.size, went8.grown.block⟩; have D8 := HDS.out.bind hlt (World.grownBy.refl _ _) g8 went8.cur; have hS8 := (cells5 D8.pbox).1.2.2.2.2))
      clear p0 p1 p2 p3 p4 hS8 HDS
      have HDS := hide D8
      obtain ⟨⟨p0, p1, p2, p3, p4⟩, -⟩ := cells5 D8.pbox
      have hx8 := hx81 (by omega)
      clear D8 g8 went8 hx81
      have hwr : IntKind.i64.wrap (10 + x8) = 10 + x8 := by rcases (show x8 = 0 ∨ x8 = 1 by omega) with rfl | rfl <;> rfl
      by_cases hl : (ys.length : Int) < 10 + x8
      · go_wp2_with fail
        refine wp_region_held_drew (S := fun _ => True) (by kernel_rfl) trivial (fun _ => ?_)
        refine wpAnyH_take (i := 0) (oi := _) (v := ?_) rfl (by kernel_rfl) (by kernel_rfl) (by kernel_rfl) (fun _ _ _ h => h) (Or.inl ⟨by rfl, ?_⟩) trivial ?_
        rotate_left
        · (intro wY _; go_simp; try with_reducible rfl)
        try simp only [Act.put]
        try simp only [List.setIfInBounds_toArray]
        try simp only [List.set_cons_succ]
        try simp only [List.set_cons_zero]
        refine wpAnyH_take (i := 2) (oi := _) (v := ?_) rfl (by kernel_rfl) (by kernel_rfl) (by kernel_rfl) (fun _ _ _ h => h) (Or.inl ⟨by rfl, ?_⟩) trivial ?_
        rotate_left
        · (intro wY _; go_simp; try with_reducible rfl)
        try simp only [Act.put]
        try simp only [List.setIfInBounds_toArray]
        try simp only [List.set_cons_succ]
        try simp only [List.set_cons_zero]
        refine wpAnyH_take (i := 4) (oi := _) (v := ?_) rfl (by kernel_rfl) (by kernel_rfl) (by kernel_rfl) (fun _ _ _ h => h) (Or.inl ⟨by rfl, ?_⟩) trivial ?_
        rotate_left
        · (intro wY _; go_simp; try with_reducible rfl)
        try simp only [Act.put]
        try simp only [List.setIfInBounds_toArray]
        try simp only [List.set_cons_succ]
        try simp only [List.set_cons_zero]
        refine wpAnyH_ready (rs := [1, 3]) (by kernel_rfl) (by simp) ?_
        refine AllReadyH.cons rfl (fun K hK => ?_) ?_
        · go_simp
          refine hK.out _ _ trivial (fun _ => ?_)
          clear hK K
          refine wpAnyH_ready (rs := [3]) (by kernel_rfl) (by simp) ?_
          refine AllReadyH.cons rfl (fun K hK => ?_) ?_
          · go_simp
            go_wp2_with (go_at_call 42; refine (oidDraw_any C a0 l0 c0 z0 _ (HDS.out.went.cur.below (below_drewN (Below.refl _ _) _))).mono ?_; rintro e w2 ⟨oa, on, oc, o, rfl, hlo2, hhi2, hol2, hok2, how2, went2⟩; have g2 : w8.grownBy w2 (some C) := ⟨went2.grown.os, went2.grown.tape, went2.grown.output, went2.grown.size, went2.grown.block⟩; have kp2 := kept_grown HDS.out.pbox g2 (fun j hj => by cases hj; omega); obtain ⟨⟨qa0, qa1, qa2, qa3, qa4⟩, -⟩ := cells5 kp2; have hpw : w.heap.size + 1 ≤ w8.heap.size := HDS.out.big; have g3 := World.grownBy.refl w2 (some C); have D3 := HDS.out.bind hlt g2 g3 went2.cur; have how3 := own_none w2 w2.heap.size; have NEW := drawn_bind (K := 4) (N := 0) (S := ⟨#[116, 119, 101, 110, 116, 121, 45, 98, 121, 116, 101, 115, 45, 111, 102, 45, 116, 101, 120, 116]⟩) (own_lt how2 (base' := w.heap.size + 1) hpw) hok2.i64 g3 (by omega) how3 i64s_nil (Nat.le_refl _) (Nat.le_trans hpw g2.size) (by decide); have D4 := D3.below (below_one w2 (.cells #[.slice oa on oc, .int .i64 4, .int .i64 0, .string ⟨#[116, 119, 101, 110, 116, 121, 45, 98, 121, 116, 101, 115, 45, 111, 102, 45, 116, 101, 120, 116]⟩, .slice none 0 0] 80)); obtain ⟨⟨qd0, qd1, qd2, qd3, qd4⟩, -⟩ := cells5 D4.pbox; have NEW4 := NEW.own.below (below_one w2 (.cells #[.slice oa on oc, .int .i64 4, .int .i64 0, .string ⟨#[116, 119, 101, 110, 116, 121, 45, 98, 121, 116, 101, 115, 45, 111, 102, 45, 116, 101, 120, 116]⟩, .slice none 0 0] 80)); have HAP : ∀ z' ∈ ys, ∀ b' ∈ z'.blks, b' ∉ (BI.mk oa on oc o 4 0 ⟨#[116, 119, 101, 110, 116, 121, 45, 98, 121, 116, 101, 115, 45, 111, 102, 45, 116, 101, 120, 116]⟩ none 0 0 []).blks := (fun z' hz' b' hb' hc => apart_new (HDS.out.bo.item z' hz') how2 how3 (Nat.le_refl _) g2.size hb' hc); have hsz4 : w.heap.size + 1 ≤ (w2.alloc (.cells #[.slice oa on oc, .int .i64 4, .int .i64 0, .string ⟨#[116, 119, 101, 110, 116, 121, 45, 98, 121, 116, 101, 115, 45, 111, 102, 45, 116, 101, 120, 116]⟩, .slice none 0 0] 80)).heap.size := (by have h1 := g2.size; simp; omega))
            refine hK.out _ _ trivial (fun _ => ?_)
            clear hK K
            refine wpAnyH_take (i := 5) (oi := _) (v := ?_) rfl (by kernel_rfl) (by kernel_rfl) (by kernel_rfl) (fun _ _ _ h => h) (Or.inl ⟨by rfl, ?_⟩) trivial ?_
            rotate_left
            · (intro wY _; go_simp; try with_reducible rfl)
            try simp only [Act.put]
            try simp only [List.setIfInBounds_toArray]
            try simp only [List.set_cons_succ]
            try simp only [List.set_cons_zero]
            refine wpAnyH_ready (rs := [6]) (by kernel_rfl) (by simp) ?_
            refine AllReadyH.cons rfl (fun K hK => ?_) ?_
            · go_simp
              refine hK.out _ _ trivial (fun _ => ?_)
              clear hK K
              refine wpAnyH_ready (rs := [7]) (by kernel_rfl) (by simp) ?_
              refine AllReadyH.cons rfl (fun K hK => ?_) ?_
              · (refine step_append_bind rfl _ _ 24 rfl (w.heap.size + 1) Tryz.underlying24 Tryz.infoBind' lo cap ys rfl D4.bo w2.heap.size (BI.mk oa on oc o 4 0 ⟨#[116, 119, 101, 110, 116, 121, 45, 98, 121, 116, 101, 115, 45, 111, 102, 45, 116, 101, 120, 116]⟩ none 0 0 []) rfl (bind_news w2 (BI.mk oa on oc o 4 0 ⟨#[116, 119, 101, 110, 116, 121, 45, 98, 121, 116, 101, 115, 45, 111, 102, 45, 116, 101, 120, 116]⟩ none 0 0 [])) NEW4 NEW.nd HAP (by omega) hsz4 ?_; intro lo' cap' w5 hb5 hg5; have D5 := D4.push hg5 hb5 hlt; have kp5 := (Only.of_grown hg5).kept D4.pbox (fun hc => box_apart D4.bo D4.pbox (List.mem_append_left _ hc)); obtain ⟨⟨qc0, qc1, qc2, qc3, qc4⟩, pf0, pf1, pf2, pf3, pf4⟩ := cells5 kp5)
                refine hK.out _ _ trivial (fun _ => ?_)
                clear hK K
                refine wpAnyH_take (i := 8) (oi := _) (v := ?_) rfl (by kernel_rfl) (by kernel_rfl) (by kernel_rfl) (fun _ _ _ h => h) (Or.inl ⟨by rfl, ?_⟩) trivial ?_
                rotate_left
                · (intro wY _; go_simp; try with_reducible rfl)
                try simp only [Act.put]
                try simp only [List.setIfInBounds_toArray]
                try simp only [List.set_cons_succ]
                try simp only [List.set_cons_zero]
                refine wpAnyH_ready (rs := [9]) (by kernel_rfl) (by simp) ?_
                refine AllReadyH.cons rfl (fun K hK => ?_) ?_
                · go_simp
                  refine hK.out _ _ trivial (fun _ => ?_)
                  clear hK K
                  refine wpAnyH_done (by kernel_rfl) ?_ _
                  obtain ⟨yy, hyl, DX⟩ : ∃ yy : List BI, yy.length = ys.length + 1 ∧ ASt w (w5.setCell ⟨pb, 4, none⟩ (.slice lo' (ys.length + 1) cap')) pb C a0 l0 c0 z0 k id a b yy lo' cap' := ⟨_, by simp, D5⟩
                  clear HDS
                  have HDX := hide DX
                  have HC5 := hide (cells5 DX.pbox).1.2.2.2.2
                  clear DX D5 p0 p1 p2 p3 p4 qa0 qa1 qa2 qa3 qa4 qc0 qc1 qc2 qc3 qc4 qd0 qd1 qd2 qd3 qd4 pf0 pf1 pf2 pf3 pf4
                  generalize w5.setCell ⟨pb, 4, none⟩ (.slice lo' (ys.length + 1) cap') = wx at *
                  go_wp2
                  go_roundw
                  case rel => exact ⟨yy, lo', cap', by omega, HDX.out⟩
                  case measure =>
                    rw [HC5.out, HC0.out]
                    simp only [Option.getD_some, lenOf]
                    omega
                exact AllReadyH.nil

              exact AllReadyH.nil

            exact AllReadyH.nil

          exact AllReadyH.nil

        refine AllReadyH.cons rfl (fun K hK => ?_) ?_
        · go_simp
          go_wp2_with (go_at_call 42; refine (oidDraw_any C a0 l0 c0 z0 _ (HDS.out.went.cur.below (below_drewN (Below.refl _ _) _))).mono ?_; rintro e w2 ⟨oa, on, oc, o, rfl, hlo2, hhi2, hol2, hok2, how2, went2⟩; have g2 : w8.grownBy w2 (some C) := ⟨went2.grown.os, went2.grown.tape, went2.grown.output, went2.grown.size, went2.grown.block⟩; have kp2 := kept_grown HDS.out.pbox g2 (fun j hj => by cases hj; omega); obtain ⟨⟨qa0, qa1, qa2, qa3, qa4⟩, -⟩ := cells5 kp2; have hpw : w.heap.size + 1 ≤ w8.heap.size := HDS.out.big; have g3 := World.grownBy.refl w2 (some C); have D3 := HDS.out.bind hlt g2 g3 went2.cur; have how3 := own_none w2 w2.heap.size; have NEW := drawn_bind (K := 4) (N := 0) (S := ⟨#[116, 119, 101, 110, 116, 121, 45, 98, 121, 116, 101, 115, 45, 111, 102, 45, 116, 101, 120, 116]⟩) (own_lt how2 (base' := w.heap.size + 1) hpw) hok2.i64 g3 (by omega) how3 i64s_nil (Nat.le_refl _) (Nat.le_trans hpw g2.size) (by decide); have D4 := D3.below (below_one w2 (.cells #[.slice oa on oc, .int .i64 4, .int .i64 0, .string ⟨#[116, 119, 101, 110, 116, 121, 45, 98, 121, 116, 101, 115, 45, 111, 102, 45, 116, 101, 120, 116]⟩, .slice none 0 0] 80)); obtain ⟨⟨qd0, qd1, qd2, qd3, qd4⟩, -⟩ := cells5 D4.pbox; have NEW4 := NEW.own.below (below_one w2 (.cells #[.slice oa on oc, .int .i64 4, .int .i64 0, .string ⟨#[116, 119, 101, 110, 116, 121, 45, 98, 121, 116, 101, 115, 45, 111, 102, 45, 116, 101, 120, 116]⟩, .slice none 0 0] 80)); have HAP : ∀ z' ∈ ys, ∀ b' ∈ z'.blks, b' ∉ (BI.mk oa on oc o 4 0 ⟨#[116, 119, 101, 110, 116, 121, 45, 98, 121, 116, 101, 115, 45, 111, 102, 45, 116, 101, 120, 116]⟩ none 0 0 []).blks := (fun z' hz' b' hb' hc => apart_new (HDS.out.bo.item z' hz') how2 how3 (Nat.le_refl _) g2.size hb' hc); have hsz4 : w.heap.size + 1 ≤ (w2.alloc (.cells #[.slice oa on oc, .int .i64 4, .int .i64 0, .string ⟨#[116, 119, 101, 110, 116, 121, 45, 98, 121, 116, 101, 115, 45, 111, 102, 45, 116, 101, 120, 116]⟩, .slice none 0 0] 80)).heap.size := (by have h1 := g2.size; simp; omega))
          refine hK.out _ _ trivial (fun _ => ?_)
          clear hK K
          refine wpAnyH_take (i := 5) (oi := _) (v := ?_) rfl (by kernel_rfl) (by kernel_rfl) (by kernel_rfl) (fun _ _ _ h => h) (Or.inl ⟨by rfl, ?_⟩) trivial ?_
          rotate_left
          · (intro wY _; go_simp; try with_reducible rfl)
          try simp only [Act.put]
          try simp only [List.setIfInBounds_toArray]
          try simp only [List.set_cons_succ]
          try simp only [List.set_cons_zero]
          refine wpAnyH_ready (rs := [1, 6]) (by kernel_rfl) (by simp) ?_
          refine AllReadyH.cons rfl (fun K hK => ?_) ?_
          · go_simp
            refine hK.out _ _ trivial (fun _ => ?_)
            clear hK K
            refine wpAnyH_ready (rs := [6]) (by kernel_rfl) (by simp) ?_
            refine AllReadyH.cons rfl (fun K hK => ?_) ?_
            · go_simp
              refine hK.out _ _ trivial (fun _ => ?_)
              clear hK K
              refine wpAnyH_ready (rs := [7]) (by kernel_rfl) (by simp) ?_
              refine AllReadyH.cons rfl (fun K hK => ?_) ?_
              · (refine step_append_bind rfl _ _ 24 rfl (w.heap.size + 1) Tryz.underlying24 Tryz.infoBind' lo cap ys rfl D4.bo w2.heap.size (BI.mk oa on oc o 4 0 ⟨#[116, 119, 101, 110, 116, 121, 45, 98, 121, 116, 101, 115, 45, 111, 102, 45, 116, 101, 120, 116]⟩ none 0 0 []) rfl (bind_news w2 (BI.mk oa on oc o 4 0 ⟨#[116, 119, 101, 110, 116, 121, 45, 98, 121, 116, 101, 115, 45, 111, 102, 45, 116, 101, 120, 116]⟩ none 0 0 [])) NEW4 NEW.nd HAP (by omega) hsz4 ?_; intro lo' cap' w5 hb5 hg5; have D5 := D4.push hg5 hb5 hlt; have kp5 := (Only.of_grown hg5).kept D4.pbox (fun hc => box_apart D4.bo D4.pbox (List.mem_append_left _ hc)); obtain ⟨⟨qc0, qc1, qc2, qc3, qc4⟩, pf0, pf1, pf2, pf3, pf4⟩ := cells5 kp5)
                refine hK.out _ _ trivial (fun _ => ?_)
                clear hK K
                refine wpAnyH_take (i := 8) (oi := _) (v := ?_) rfl (by kernel_rfl) (by kernel_rfl) (by kernel_rfl) (fun _ _ _ h => h) (Or.inl ⟨by rfl, ?_⟩) trivial ?_
                rotate_left
                · (intro wY _; go_simp; try with_reducible rfl)
                try simp only [Act.put]
                try simp only [List.setIfInBounds_toArray]
                try simp only [List.set_cons_succ]
                try simp only [List.set_cons_zero]
                refine wpAnyH_ready (rs := [9]) (by kernel_rfl) (by simp) ?_
                refine AllReadyH.cons rfl (fun K hK => ?_) ?_
                · go_simp
                  refine hK.out _ _ trivial (fun _ => ?_)
                  clear hK K
                  refine wpAnyH_done (by kernel_rfl) ?_ _
                  obtain ⟨yy, hyl, DX⟩ : ∃ yy : List BI, yy.length = ys.length + 1 ∧ ASt w (w5.setCell ⟨pb, 4, none⟩ (.slice lo' (ys.length + 1) cap')) pb C a0 l0 c0 z0 k id a b yy lo' cap' := ⟨_, by simp, D5⟩
                  clear HDS
                  have HDX := hide DX
                  have HC5 := hide (cells5 DX.pbox).1.2.2.2.2
                  clear DX D5 p0 p1 p2 p3 p4 qa0 qa1 qa2 qa3 qa4 qc0 qc1 qc2 qc3 qc4 qd0 qd1 qd2 qd3 qd4 pf0 pf1 pf2 pf3 pf4
                  generalize w5.setCell ⟨pb, 4, none⟩ (.slice lo' (ys.length + 1) cap') = wx at *
                  go_wp2
                  go_roundw
                  case rel => exact ⟨yy, lo', cap', by omega, HDX.out⟩
                  case measure =>
                    rw [HC5.out, HC0.out]
                    simp only [Option.getD_some, lenOf]
                    omega
                exact AllReadyH.nil

              exact AllReadyH.nil

            exact AllReadyH.nil

          refine AllReadyH.cons rfl (fun K hK => ?_) ?_
          · go_simp
            refine hK.out _ _ trivial (fun _ => ?_)
            clear hK K
            refine wpAnyH_ready (rs := [1]) (by kernel_rfl) (by simp) ?_
            refine AllReadyH.cons rfl (fun K hK => ?_) ?_
            · go_simp
              refine hK.out _ _ trivial (fun _ => ?_)
              clear hK K
              refine wpAnyH_ready (rs := [7]) (by kernel_rfl) (by simp) ?_
              refine AllReadyH.cons rfl (fun K hK => ?_) ?_
              · (refine step_append_bind rfl _ _ 24 rfl (w.heap.size + 1) Tryz.underlying24 Tryz.infoBind' lo cap ys rfl D4.bo w2.heap.size (BI.mk oa on oc o 4 0 ⟨#[116, 119, 101, 110, 116, 121, 45, 98, 121, 116, 101, 115, 45, 111, 102, 45, 116, 101, 120, 116]⟩ none 0 0 []) rfl (bind_news w2 (BI.mk oa on oc o 4 0 ⟨#[116, 119, 101, 110, 116, 121, 45, 98, 121, 116, 101, 115, 45, 111, 102, 45, 116, 101, 120, 116]⟩ none 0 0 [])) NEW4 NEW.nd HAP (by omega) hsz4 ?_; intro lo' cap' w5 hb5 hg5; have D5 := D4.push hg5 hb5 hlt; have kp5 := (Only.of_grown hg5).kept D4.pbox (fun hc => box_apart D4.bo D4.pbox (List.mem_append_left _ hc)); obtain ⟨⟨qc0, qc1, qc2, qc3, qc4⟩, pf0, pf1, pf2, pf3, pf4⟩ := cells5 kp5)
                refine hK.out _ _ trivial (fun _ => ?_)
                clear hK K
                refine wpAnyH_take (i := 8) (oi := _) (v := ?_) rfl (by kernel_rfl) (by kernel_rfl) (by kernel_rfl) (fun _ _ _ h => h) (Or.inl ⟨by rfl, ?_⟩) trivial ?_
                rotate_left
                · (intro wY _; go_simp; try with_reducible rfl)
                try simp only [Act.put]
                try simp only [List.setIfInBounds_toArray]
                try simp only [List.set_cons_succ]
                try simp only [List.set_cons_zero]
                refine wpAnyH_ready (rs := [9]) (by kernel_rfl) (by simp) ?_
                refine AllReadyH.cons rfl (fun K hK => ?_) ?_
                · go_simp
                  refine hK.out _ _ trivial (fun _ => ?_)
                  clear hK K
                  refine wpAnyH_done (by kernel_rfl) ?_ _
                  obtain ⟨yy, hyl, DX⟩ : ∃ yy : List BI, yy.length = ys.length + 1 ∧ ASt w (w5.setCell ⟨pb, 4, none⟩ (.slice lo' (ys.length + 1) cap')) pb C a0 l0 c0 z0 k id a b yy lo' cap' := ⟨_, by simp, D5⟩
                  clear HDS
                  have HDX := hide DX
                  have HC5 := hide (cells5 DX.pbox).1.2.2.2.2
                  clear DX D5 p0 p1 p2 p3 p4 qa0 qa1 qa2 qa3 qa4 qc0 qc1 qc2 qc3 qc4 qd0 qd1 qd2 qd3 qd4 pf0 pf1 pf2 pf3 pf4
                  generalize w5.setCell ⟨pb, 4, none⟩ (.slice lo' (ys.length + 1) cap') = wx at *
                  go_wp2
                  go_roundw
                  case rel => exact ⟨yy, lo', cap', by omega, HDX.out⟩
                  case measure =>
                    rw [HC5.out, HC0.out]
                    simp only [Option.getD_some, lenOf]
                    omega
                exact AllReadyH.nil

              exact AllReadyH.nil

            exact AllReadyH.nil

          exact AllReadyH.nil

        exact AllReadyH.nil

      · clear p0 p1 p2 p3 p4
        have m1 : ¬ pb = w.heap.size := by have := HDS.out.low; omega
        obtain ⟨⟨t0, t1, t2, t3, t4⟩, -⟩ := cells5 HDS.out.pbox
        obtain ⟨⟨d0, d1, d2, d3, d4⟩, e0, e1, e2, e3, e4⟩ := cells5 HDS.out.rbox
        go_wp2
        refine bodyPost_ret (v := .agg #[.int .i64 k, .int .i64 id, .int .i64 a, .int .i64 b, .slice lo ys.length cap]) (by simp [results, Tryz.results18, go_sem, *]) rfl ⟨_, _, _, _, ys, _, _, rfl, by omega, ?_, ?_⟩
        · refine BOwns.lt (base := w.heap.size + 1) ?_ (by omega)
          repeat (refine BOwns.set_below ?_ (by omega))
          exact HDS.out.bo
        · refine HDS.out.went.madeAt (B := w.heap.size) ?_ hlt (Nat.le_refl _)
          repeat (refine below_set ?_ (Nat.le_refl _) _ _)
          exact Below.refl _ _
  have m1 : ¬ pb = w.heap.size := by have := HDS.out.low; omega
  obtain ⟨⟨t0, t1, t2, t3, t4⟩, -⟩ := cells5 HDS.out.pbox
  obtain ⟨⟨d0, d1, d2, d3, d4⟩, e0, e1, e2, e3, e4⟩ := cells5 HDS.out.rbox
  go_wp2
  refine bodyPost_ret (v := .agg #[.int .i64 k, .int .i64 id, .int .i64 a, .int .i64 b, .slice lo ys.length cap]) (by simp [results, Tryz.results18, go_sem, *]) rfl ⟨_, _, _, _, ys, _, _, rfl, by omega, ?_, ?_⟩
  · refine BOwns.lt (base := w.heap.size + 1) ?_ (by omega)
    repeat (refine BOwns.set_below ?_ (by omega))
    exact HDS.out.bo
  · refine HDS.out.went.madeAt (B := w.heap.size) ?_ hlt (Nat.le_refl _)
    repeat (refine below_set ?_ (Nat.le_refl _) _ _)
    exact Below.refl _ _

end Go.Proofs.YtamglfhnhjgdjaaGreatDoor
