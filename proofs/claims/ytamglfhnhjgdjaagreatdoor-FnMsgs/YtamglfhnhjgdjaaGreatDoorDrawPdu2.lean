/-
  A request that is drawn, right but for its bytes: l4Draw by its contract.
-/
import Derived.Test.YtamglfhnhjgdjaaGreatDoorDrawPdu
import Derived.Deep.RegionHeldLaw
namespace Go.Proofs.YtamglfhnhjgdjaaGreatDoor
open Go.RowKit

theorem apart_new {wr w2 w3 : World} {base base2 s2 : Nat} {x : BI} {oa za : Option Addr} {on oc zn zc : Nat} {o z : List Int} {K N : Int} {S : ByteArray} {us vs : List Value} (hx : BOwn wr base x) (ho : w2.ownsRow base2 3 1 (.slice oa on oc) on us) (hz : w3.ownsRow s2 3 1 (.slice za zn zc) zn vs) (h1 : wr.heap.size ≤ base2) (h2 : wr.heap.size ≤ s2) {b : Nat} (hb : b ∈ x.blks) (hc : b ∈ (BI.mk oa on oc o K N S za zn zc z).blks) : False := by
  have hl := (hx.blk b hb).2
  rcases List.mem_append.1 hc with hc | hc
  · have := (ho.lt b (mem_blkL.2 hc)).1; omega
  · have := (hz.lt b (mem_blkL.2 hc)).1; omega

theorem DSt.set2 {w wr : World} {pb C : Nat} {a0 : Option Addr} {l0 c0 : Nat} {z0 : List Int} {k id a b : Int} {ys : List BI} {lo : Option Addr} {cap : Nat} (h : DSt w wr pb C a0 l0 c0 z0 k id a b ys lo cap) (x : Int) (hC : C < w.heap.size) : DSt w (wr.setCell ⟨pb, 2, none⟩ (.int .i64 x)) pb C a0 l0 c0 z0 k id x b ys lo cap :=
  ⟨by have := heap_setCell_same wr pb 2 _ _ (.int .i64 x) h.pbox; simpa using this, kept_set h.rbox (by have := h.low; omega), h.bo.set_below (by omega), h.went.madeAt (below_set (Below.refl pb wr) (Nat.le_refl _) 2 _) (by have := h.low; omega) (by have := h.low; omega), h.low⟩
theorem DSt.set3 {w wr : World} {pb C : Nat} {a0 : Option Addr} {l0 c0 : Nat} {z0 : List Int} {k id a b : Int} {ys : List BI} {lo : Option Addr} {cap : Nat} (h : DSt w wr pb C a0 l0 c0 z0 k id a b ys lo cap) (x : Int) (hC : C < w.heap.size) : DSt w (wr.setCell ⟨pb, 3, none⟩ (.int .i64 x)) pb C a0 l0 c0 z0 k id a x ys lo cap :=
  ⟨by have := heap_setCell_same wr pb 3 _ _ (.int .i64 x) h.pbox; simpa using this, kept_set h.rbox (by have := h.low; omega), h.bo.set_below (by omega), h.went.madeAt (below_set (Below.refl pb wr) (Nat.le_refl _) 3 _) (by have := h.low; omega) (by have := h.low; omega), h.low⟩

set_option maxRecDepth 100000 in
set_option maxHeartbeats 4000000 in
theorem l4Draw_any (C : Nat) (a0 : Option Addr) (l0 c0 : Nat) (z0 : List Int) (w : World) (hc : Cur w C a0 l0 c0 z0) :
    Calls Tryz.prog 29 #[.pointer (some ⟨C, 0, none⟩)] w fun e w' => DrawnP w w' C a0 l0 c0 z0 e := by
  have hlt := hc.lt
  have q0 := below_one w (.cells #[.int .i64 0, .int .i64 0, .int .i64 0, .int .i64 0, .slice none 0 0] 26)
  have wn0 := Went.start hc q0
  have hk0 := block_last w (.cells #[.int .i64 0, .int .i64 0, .int .i64 0, .int .i64 0, .slice none 0 0] 26)
  go_enter Tryz.func29, Tryz.ntmps29
  go_wp2_with fail
  refine (pick_any C a0 l0 c0 z0 [160, 161, 162, 163, 165] (w.heap.size + 1) 5 (w.alloc (.cells #[.int .i64 0, .int .i64 0, .int .i64 0, .int .i64 0, .slice none 0 0] 26)) wn0.cur (by simp) rfl (by omega) (by omega)).mono ?_
  rintro e w1 ⟨k, -, rfl, went1⟩
  have wn1 := wn0.trans went1
  have k1 := kept_grown hk0 went1.grown (fun j hj => by cases hj; omega)
  clear wn0 went1 hk0
  go_wp2_with fail
  refine (num_any C a0 l0 c0 z0 _ wn1.cur).mono ?_
  rintro e w2 ⟨x2, rfl, -, -, went2⟩
  have wn2 := wn1.trans went2
  have k2 := kept_grown k1 went2.grown (fun j hj => by cases hj; omega)
  clear wn1 went2 k1
  go_wp2_with fail
  refine (clip_any x2 _).mono ?_
  rintro e w3 ⟨rfl, rfl⟩
  have hw3 : w.heap.size < w3.heap.size := (Array.getElem?_eq_some_iff.1 k2).1
  have q3 := below_one w3 (.cells #[.int .i64 k, .int .i64 (clip x2), .int .i64 0, .int .i64 0, .slice none 0 0] 26)
  have DP : DSt w (w3.alloc (.cells #[.int .i64 k, .int .i64 (clip x2), .int .i64 0, .int .i64 0, .slice none 0 0] 26)) w3.heap.size C a0 l0 c0 z0 k (clip x2) 0 0 [] none 0 := ⟨block_last w3 _, kept_block k2 q3, bowns_nil _ _, wn2.made q3, hw3⟩
  have HDP := hide DP
  have kk : ((k == 162) = true) ∨ ((k == 162) = false ∧ (k == 165) = true) ∨ ((k == 162) = false ∧ (k == 165) = false) := by
    cases h1 : (k == 162)
    · cases h2 : (k == 165)
      · exact .inr (.inr ⟨rfl, rfl⟩)
      · exact .inr (.inl ⟨rfl, rfl⟩)
    · exact .inl rfl
  obtain ⟨⟨s0, s1, s2, s3, s4⟩, -⟩ := cells5 DP.pbox
  generalize hid : clip x2 = id at *
  clear DP wn2 k2 hid
  rcases kk with t1 | ⟨t1, t2⟩ | ⟨t1, t2⟩
  · go_wp2_with fail
    generalize hwp : (w3.alloc (.cells #[.int .i64 k, .int .i64 id, .int .i64 0, .int .i64 0, .slice none 0 0] 26)) = wp at *
    clear hwp
    generalize hpb : w3.heap.size = pb at *
    clear hpb s0 s1 s2 s3 s4
    refine (below_any C a0 l0 c0 z0 4 _ HDP.out.went.cur (by omega)).mono ?_
    rintro e w4 ⟨xa, rfl, -, -, -, went4⟩
    have D4 := HDP.out.bind hlt (World.grownBy.refl _ _) went4.grown went4.cur
    obtain ⟨⟨p0, p1, p2, p3, p4⟩, f0, f1, f2, f3, f4⟩ := cells5 D4.pbox
    have D4a := D4.set2 xa hlt
    have HD4 := hide D4a
    clear D4 D4a HDP went4
    go_wp2_with fail
    generalize (w4.setCell ⟨pb, 2, none⟩ (.int .i64 xa)) = w4a at *
    refine (below_any C a0 l0 c0 z0 5 _ HD4.out.went.cur (by omega)).mono ?_
    rintro e w5 ⟨xb, rfl, -, -, -, went5⟩
    have D5 := HD4.out.bind hlt (World.grownBy.refl _ _) went5.grown went5.cur
    clear p0 p1 p2 p3 p4 f0 f1 f2 f3 f4
    obtain ⟨⟨p0, p1, p2, p3, p4⟩, f0, f1, f2, f3, f4⟩ := cells5 D5.pbox
    have HSP := hide (D5.set3 xb hlt)
    clear D5 HD4 went5
    go_wp2_with fail
    generalize (w5.setCell ⟨pb, 3, none⟩ (.int .i64 xb)) = w5a at *
    clear p0 p1 p2 p3 p4 f0 f1 f2 f3 f4
    refine (below_any C a0 l0 c0 z0 4 _ HSP.out.went.cur (by omega)).mono ?_
    rintro e w8 ⟨x8, rfl, hx8, hx8', -, went8⟩
    have hx8'' := hx8' (by omega)
    obtain ⟨mx, rfl⟩ : ∃ m : Nat, x8 = m := ⟨x8.toNat, by omega⟩
    have D8 := HSP.out.bind hlt (World.grownBy.refl _ _) went8.grown went8.cur
    have HST := hide D8
    clear D8 HSP went8 hx8' q0
    go_wp2
    go_loopw [4] (fun i wr => ∃ (m : Nat) (a b : Int) (ys : List BI) (lo : Option Addr) (cap : Nat), i = .int .i64 m ∧ ys.length + m ≤ 3 ∧ DSt w wr pb C a0 l0 c0 z0 k id a b ys lo cap) (fun i _ => (intOf i).toNat)
    case atStart => exact ⟨mx, _, _, [], none, 0, rfl, by simp; omega, HST.out⟩
    case round =>
      obtain ⟨m, a, b, ys, lo, cap, rfl, hml, DS⟩ := hrel
      have HDS := hide DS
      have hpl := DS.low
      obtain ⟨⟨p0, p1, p2, p3, p4⟩, f0, f1, f2, f3, f4⟩ := cells5 DS.pbox
      obtain ⟨⟨d0, d1, d2, d3, d4⟩, e0, e1, e2, e3, e4⟩ := cells5 DS.rbox
      clear DS HST
      by_cases hm : 0 < m
      · go_wp2_with fail
        refine wp_region_held_drew (S := fun _ => True) (by kernel_rfl) trivial (fun _ => ?_)
        refine wpAnyH_take (i := 0) (oi := _) (v := ?_) rfl (by kernel_rfl) (by kernel_rfl) (by kernel_rfl) (fun _ _ _ h => h) (Or.inl ⟨by rfl, ?_⟩) trivial ?_
        rotate_left
        · (intro wY _; go_simp; try with_reducible rfl)
        try simp only [Act.put]
        try simp only [List.setIfInBounds_toArray]
        try simp only [List.set_cons_succ]
        try simp only [List.set_cons_zero]
        refine wpAnyH_take (i := 2) (oi := _) (v := ?_) rfl (by kernel_rfl) (by kernel_rfl) (by kernel_rfl) (fun _ _ _ h => h) (Or.inl ⟨by rfl, ?_⟩) trivial ?_
        rotate_left
        · (intro wY _; go_simp; try with_reducible rfl)
        try simp only [Act.put]
        try simp only [List.setIfInBounds_toArray]
        try simp only [List.set_cons_succ]
        try simp only [List.set_cons_zero]
        refine wpAnyH_take (i := 4) (oi := _) (v := ?_) rfl (by kernel_rfl) (by kernel_rfl) (by kernel_rfl) (fun _ _ _ h => h) (Or.inl ⟨by rfl, ?_⟩) trivial ?_
        rotate_left
        · (intro wY _; go_simp; try with_reducible rfl)
        try simp only [Act.put]
        try simp only [List.setIfInBounds_toArray]
        try simp only [List.set_cons_succ]
        try simp only [List.set_cons_zero]
        refine wpAnyH_ready (rs := [1, 3]) (by kernel_rfl) (by simp) ?_
        refine AllReadyH.cons rfl (fun K hK => ?_) ?_
        · go_simp
          refine hK.out _ _ trivial (fun _ => ?_)
          clear hK K
          refine wpAnyH_ready (rs := [3]) (by kernel_rfl) (by simp) ?_
          refine AllReadyH.cons rfl (fun K hK => ?_) ?_
          · go_simp
            go_wp2_with (go_at_call 42; refine (oidDraw_any C a0 l0 c0 z0 _ (HDS.out.went.cur.below (below_drewN (Below.refl _ _) _))).mono ?_; rintro e w2 ⟨oa, on, oc, o, rfl, hlo2, hhi2, hol2, hok2, how2, went2⟩; have g2 : wr.grownBy w2 (some C) := ⟨went2.grown.os, went2.grown.tape, went2.grown.output, went2.grown.size, went2.grown.block⟩; have kp2 := kept_grown HDS.out.pbox g2 (fun j hj => by cases hj; omega); obtain ⟨⟨qa0, qa1, qa2, qa3, qa4⟩, -⟩ := cells5 kp2)
            refine hK.out _ _ trivial (fun _ => ?_)
            clear hK K
            refine wpAnyH_ready (rs := [5]) (by kernel_rfl) (by simp) ?_
            refine AllReadyH.cons rfl (fun K hK => ?_) ?_
            · go_simp
              go_wp2_with (go_at_call 60; refine (l3Draw_any C a0 l0 c0 z0 _ went2.cur).mono ?_; rintro e w3 ⟨K', N, S, za, zn, zc, z, rfl, hS3', hn3, hz3, hzi3, how3, went3⟩; have kp3 := kept_grown kp2 went3.grown (fun j hj => by cases hj; omega); obtain ⟨⟨qb0, qb1, qb2, qb3, qb4⟩, -⟩ := cells5 kp3; have D3 := HDS.out.bind hlt g2 went3.grown went3.cur; have hpw : pb + 1 ≤ wr.heap.size := (Array.getElem?_eq_some_iff.1 HDS.out.pbox).1; have NEW := drawn_bind (K := K') (N := N) (S := S) (own_lt how2 (base' := pb + 1) hpw) hok2.i64 went3.grown (by omega) how3 hzi3 (Nat.le_refl _) (Nat.le_trans hpw g2.size) hS3'; have D4 := D3.below (below_one w3 (.cells #[.slice oa on oc, .int .i64 K', .int .i64 N, .string S, .slice za zn zc] 80)); obtain ⟨⟨qd0, qd1, qd2, qd3, qd4⟩, -⟩ := cells5 D4.pbox; have NEW4 := NEW.own.below (below_one w3 (.cells #[.slice oa on oc, .int .i64 K', .int .i64 N, .string S, .slice za zn zc] 80)); have HAP : ∀ z' ∈ ys, ∀ b' ∈ z'.blks, b' ∉ (BI.mk oa on oc o K' N S za zn zc z).blks := (fun z' hz' b' hb' hc => apart_new (HDS.out.bo.item z' hz') how2 how3 (Nat.le_refl _) g2.size hb' hc); have hsz4 : pb + 1 ≤ (w3.alloc (.cells #[.slice oa on oc, .int .i64 K', .int .i64 N, .string S, .slice za zn zc] 80)).heap.size := (by have h1 := g2.size; have h2 := went3.grown.size; simp; omega))
              refine hK.out _ _ trivial (fun _ => ?_)
              clear hK K
              refine wpAnyH_take (i := 6) (oi := _) (v := ?_) rfl (by kernel_rfl) (by kernel_rfl) (by kernel_rfl) (fun _ _ _ h => h) (Or.inl ⟨by rfl, ?_⟩) trivial ?_
              rotate_left
              · (intro wY _; go_simp; try with_reducible rfl)
              try simp only [Act.put]
              try simp only [List.setIfInBounds_toArray]
              try simp only [List.set_cons_succ]
              try simp only [List.set_cons_zero]
              refine wpAnyH_ready (rs := [7]) (by kernel_rfl) (by simp) ?_
              refine AllReadyH.cons rfl (fun K hK => ?_) ?_
              · go_simp
                refine hK.out _ _ trivial (fun _ => ?_)
                clear hK K
                refine wpAnyH_ready (rs := [8]) (by kernel_rfl) (by simp) ?_
                refine AllReadyH.cons rfl (fun K hK => ?_) ?_
                · (refine step_append_bind rfl _ _ 24 rfl (pb + 1) Tryz.underlying24 Tryz.infoBind' lo cap ys rfl D4.bo w3.heap.size (BI.mk oa on oc o K' N S za zn zc z) rfl (bind_news w3 (BI.mk oa on oc o K' N S za zn zc z)) NEW4 NEW.nd HAP (by omega) hsz4 ?_; intro lo' cap' w5 hb5 hg5; have D5 := D4.push hg5 hb5 hsz4 hlt; have kp5 := (Only.of_grown hg5).kept D4.pbox (fun hc => by have := (D4.bo.row.lt pb (mem_blkL.2 hc)).1; omega); obtain ⟨⟨qc0, qc1, qc2, qc3, qc4⟩, pf0, pf1, pf2, pf3, pf4⟩ := cells5 kp5)
                  refine hK.out _ _ trivial (fun _ => ?_)
                  clear hK K
                  refine wpAnyH_take (i := 9) (oi := _) (v := ?_) rfl (by kernel_rfl) (by kernel_rfl) (by kernel_rfl) (fun _ _ _ h => h) (Or.inl ⟨by rfl, ?_⟩) trivial ?_
                  rotate_left
                  · (intro wY _; go_simp; try with_reducible rfl)
                  try simp only [Act.put]
                  try simp only [List.setIfInBounds_toArray]
                  try simp only [List.set_cons_succ]
                  try simp only [List.set_cons_zero]
                  refine wpAnyH_ready (rs := [10]) (by kernel_rfl) (by simp) ?_
                  refine AllReadyH.cons rfl (fun K hK => ?_) ?_
                  · go_simp
                    refine hK.out _ _ trivial (fun _ => ?_)
                    clear hK K
                    refine wpAnyH_done (by kernel_rfl) ?_ _
                    have HD5 := hide D5
                    clear p0 p1 p2 p3 p4 f0 f1 f2 f3 f4 d0 d1 d2 d3 d4 e0 e1 e2 e3 e4 qa0 qa1 qa2 qa3 qa4 qb0 qb1 qb2 qb3 qb4 qc0 qc1 qc2 qc3 qc4 qd0 qd1 qd2 qd3 qd4 pf0 pf1 pf2 pf3 pf4
                    go_wp2
                    go_roundw
                    case rel => exact ⟨m - 1, a, b, _, lo', cap', by go_num, by simp; omega, HD5.out⟩
                    case measure => simp [intOf]; omega
                  exact AllReadyH.nil

                exact AllReadyH.nil

              exact AllReadyH.nil

            exact AllReadyH.nil

          exact AllReadyH.nil

        refine AllReadyH.cons rfl (fun K hK => ?_) ?_
        · go_simp
          go_wp2_with (go_at_call 42; refine (oidDraw_any C a0 l0 c0 z0 _ (HDS.out.went.cur.below (below_drewN (Below.refl _ _) _))).mono ?_; rintro e w2 ⟨oa, on, oc, o, rfl, hlo2, hhi2, hol2, hok2, how2, went2⟩; have g2 : wr.grownBy w2 (some C) := ⟨went2.grown.os, went2.grown.tape, went2.grown.output, went2.grown.size, went2.grown.block⟩; have kp2 := kept_grown HDS.out.pbox g2 (fun j hj => by cases hj; omega); obtain ⟨⟨qa0, qa1, qa2, qa3, qa4⟩, -⟩ := cells5 kp2)
          refine hK.out _ _ trivial (fun _ => ?_)
          clear hK K
          refine wpAnyH_ready (rs := [1, 5]) (by kernel_rfl) (by simp) ?_
          refine AllReadyH.cons rfl (fun K hK => ?_) ?_
          · go_simp
            refine hK.out _ _ trivial (fun _ => ?_)
            clear hK K
            refine wpAnyH_ready (rs := [5]) (by kernel_rfl) (by simp) ?_
            refine AllReadyH.cons rfl (fun K hK => ?_) ?_
            · go_simp
              go_wp2_with (go_at_call 60; refine (l3Draw_any C a0 l0 c0 z0 _ went2.cur).mono ?_; rintro e w3 ⟨K', N, S, za, zn, zc, z, rfl, hS3', hn3, hz3, hzi3, how3, went3⟩; have kp3 := kept_grown kp2 went3.grown (fun j hj => by cases hj; omega); obtain ⟨⟨qb0, qb1, qb2, qb3, qb4⟩, -⟩ := cells5 kp3; have D3 := HDS.out.bind hlt g2 went3.grown went3.cur; have hpw : pb + 1 ≤ wr.heap.size := (Array.getElem?_eq_some_iff.1 HDS.out.pbox).1; have NEW := drawn_bind (K := K') (N := N) (S := S) (own_lt how2 (base' := pb + 1) hpw) hok2.i64 went3.grown (by omega) how3 hzi3 (Nat.le_refl _) (Nat.le_trans hpw g2.size) hS3'; have D4 := D3.below (below_one w3 (.cells #[.slice oa on oc, .int .i64 K', .int .i64 N, .string S, .slice za zn zc] 80)); obtain ⟨⟨qd0, qd1, qd2, qd3, qd4⟩, -⟩ := cells5 D4.pbox; have NEW4 := NEW.own.below (below_one w3 (.cells #[.slice oa on oc, .int .i64 K', .int .i64 N, .string S, .slice za zn zc] 80)); have HAP : ∀ z' ∈ ys, ∀ b' ∈ z'.blks, b' ∉ (BI.mk oa on oc o K' N S za zn zc z).blks := (fun z' hz' b' hb' hc => apart_new (HDS.out.bo.item z' hz') how2 how3 (Nat.le_refl _) g2.size hb' hc); have hsz4 : pb + 1 ≤ (w3.alloc (.cells #[.slice oa on oc, .int .i64 K', .int .i64 N, .string S, .slice za zn zc] 80)).heap.size := (by have h1 := g2.size; have h2 := went3.grown.size; simp; omega))
              refine hK.out _ _ trivial (fun _ => ?_)
              clear hK K
              refine wpAnyH_take (i := 6) (oi := _) (v := ?_) rfl (by kernel_rfl) (by kernel_rfl) (by kernel_rfl) (fun _ _ _ h => h) (Or.inl ⟨by rfl, ?_⟩) trivial ?_
              rotate_left
              · (intro wY _; go_simp; try with_reducible rfl)
              try simp only [Act.put]
              try simp only [List.setIfInBounds_toArray]
              try simp only [List.set_cons_succ]
              try simp only [List.set_cons_zero]
              refine wpAnyH_ready (rs := [7]) (by kernel_rfl) (by simp) ?_
              refine AllReadyH.cons rfl (fun K hK => ?_) ?_
              · go_simp
                refine hK.out _ _ trivial (fun _ => ?_)
                clear hK K
                refine wpAnyH_ready (rs := [8]) (by kernel_rfl) (by simp) ?_
                refine AllReadyH.cons rfl (fun K hK => ?_) ?_
                · (refine step_append_bind rfl _ _ 24 rfl (pb + 1) Tryz.underlying24 Tryz.infoBind' lo cap ys rfl D4.bo w3.heap.size (BI.mk oa on oc o K' N S za zn zc z) rfl (bind_news w3 (BI.mk oa on oc o K' N S za zn zc z)) NEW4 NEW.nd HAP (by omega) hsz4 ?_; intro lo' cap' w5 hb5 hg5; have D5 := D4.push hg5 hb5 hsz4 hlt; have kp5 := (Only.of_grown hg5).kept D4.pbox (fun hc => by have := (D4.bo.row.lt pb (mem_blkL.2 hc)).1; omega); obtain ⟨⟨qc0, qc1, qc2, qc3, qc4⟩, pf0, pf1, pf2, pf3, pf4⟩ := cells5 kp5)
                  refine hK.out _ _ trivial (fun _ => ?_)
                  clear hK K
                  refine wpAnyH_take (i := 9) (oi := _) (v := ?_) rfl (by kernel_rfl) (by kernel_rfl) (by kernel_rfl) (fun _ _ _ h => h) (Or.inl ⟨by rfl, ?_⟩) trivial ?_
                  rotate_left
                  · (intro wY _; go_simp; try with_reducible rfl)
                  try simp only [Act.put]
                  try simp only [List.setIfInBounds_toArray]
                  try simp only [List.set_cons_succ]
                  try simp only [List.set_cons_zero]
                  refine wpAnyH_ready (rs := [10]) (by kernel_rfl) (by simp) ?_
                  refine AllReadyH.cons rfl (fun K hK => ?_) ?_
                  · go_simp
                    refine hK.out _ _ trivial (fun _ => ?_)
                    clear hK K
                    refine wpAnyH_done (by kernel_rfl) ?_ _
                    have HD5 := hide D5
                    clear p0 p1 p2 p3 p4 f0 f1 f2 f3 f4 d0 d1 d2 d3 d4 e0 e1 e2 e3 e4 qa0 qa1 qa2 qa3 qa4 qb0 qb1 qb2 qb3 qb4 qc0 qc1 qc2 qc3 qc4 qd0 qd1 qd2 qd3 qd4 pf0 pf1 pf2 pf3 pf4
                    go_wp2
                    go_roundw
                    case rel => exact ⟨m - 1, a, b, _, lo', cap', by go_num, by simp; omega, HD5.out⟩
                    case measure => simp [intOf]; omega
                  exact AllReadyH.nil

                exact AllReadyH.nil

              exact AllReadyH.nil

            exact AllReadyH.nil

          refine AllReadyH.cons rfl (fun K hK => ?_) ?_
          · go_simp
            go_wp2_with (go_at_call 60; refine (l3Draw_any C a0 l0 c0 z0 _ went2.cur).mono ?_; rintro e w3 ⟨K', N, S, za, zn, zc, z, rfl, hS3', hn3, hz3, hzi3, how3, went3⟩; have kp3 := kept_grown kp2 went3.grown (fun j hj => by cases hj; omega); obtain ⟨⟨qb0, qb1, qb2, qb3, qb4⟩, -⟩ := cells5 kp3; have D3 := HDS.out.bind hlt g2 went3.grown went3.cur; have hpw : pb + 1 ≤ wr.heap.size := (Array.getElem?_eq_some_iff.1 HDS.out.pbox).1; have NEW := drawn_bind (K := K') (N := N) (S := S) (own_lt how2 (base' := pb + 1) hpw) hok2.i64 went3.grown (by omega) how3 hzi3 (Nat.le_refl _) (Nat.le_trans hpw g2.size) hS3'; have D4 := D3.below (below_one w3 (.cells #[.slice oa on oc, .int .i64 K', .int .i64 N, .string S, .slice za zn zc] 80)); obtain ⟨⟨qd0, qd1, qd2, qd3, qd4⟩, -⟩ := cells5 D4.pbox; have NEW4 := NEW.own.below (below_one w3 (.cells #[.slice oa on oc, .int .i64 K', .int .i64 N, .string S, .slice za zn zc] 80)); have HAP : ∀ z' ∈ ys, ∀ b' ∈ z'.blks, b' ∉ (BI.mk oa on oc o K' N S za zn zc z).blks := (fun z' hz' b' hb' hc => apart_new (HDS.out.bo.item z' hz') how2 how3 (Nat.le_refl _) g2.size hb' hc); have hsz4 : pb + 1 ≤ (w3.alloc (.cells #[.slice oa on oc, .int .i64 K', .int .i64 N, .string S, .slice za zn zc] 80)).heap.size := (by have h1 := g2.size; have h2 := went3.grown.size; simp; omega))
            refine hK.out _ _ trivial (fun _ => ?_)
            clear hK K
            refine wpAnyH_take (i := 6) (oi := _) (v := ?_) rfl (by kernel_rfl) (by kernel_rfl) (by kernel_rfl) (fun _ _ _ h => h) (Or.inl ⟨by rfl, ?_⟩) trivial ?_
            rotate_left
            · (intro wY _; go_simp; try with_reducible rfl)
            try simp only [Act.put]
            try simp only [List.setIfInBounds_toArray]
            try simp only [List.set_cons_succ]
            try simp only [List.set_cons_zero]
            refine wpAnyH_ready (rs := [1, 7]) (by kernel_rfl) (by simp) ?_
            refine AllReadyH.cons rfl (fun K hK => ?_) ?_
            · go_simp
              refine hK.out _ _ trivial (fun _ => ?_)
              clear hK K
              refine wpAnyH_ready (rs := [7]) (by kernel_rfl) (by simp) ?_
              refine AllReadyH.cons rfl (fun K hK => ?_) ?_
              · go_simp
                refine hK.out _ _ trivial (fun _ => ?_)
                clear hK K
                refine wpAnyH_ready (rs := [8]) (by kernel_rfl) (by simp) ?_
                refine AllReadyH.cons rfl (fun K hK => ?_) ?_
                · (refine step_append_bind rfl _ _ 24 rfl (pb + 1) Tryz.underlying24 Tryz.infoBind' lo cap ys rfl D4.bo w3.heap.size (BI.mk oa on oc o K' N S za zn zc z) rfl (bind_news w3 (BI.mk oa on oc o K' N S za zn zc z)) NEW4 NEW.nd HAP (by omega) hsz4 ?_; intro lo' cap' w5 hb5 hg5; have D5 := D4.push hg5 hb5 hsz4 hlt; have kp5 := (Only.of_grown hg5).kept D4.pbox (fun hc => by have := (D4.bo.row.lt pb (mem_blkL.2 hc)).1; omega); obtain ⟨⟨qc0, qc1, qc2, qc3, qc4⟩, pf0, pf1, pf2, pf3, pf4⟩ := cells5 kp5)
                  refine hK.out _ _ trivial (fun _ => ?_)
                  clear hK K
                  refine wpAnyH_take (i := 9) (oi := _) (v := ?_) rfl (by kernel_rfl) (by kernel_rfl) (by kernel_rfl) (fun _ _ _ h => h) (Or.inl ⟨by rfl, ?_⟩) trivial ?_
                  rotate_left
                  · (intro wY _; go_simp; try with_reducible rfl)
                  try simp only [Act.put]
                  try simp only [List.setIfInBounds_toArray]
                  try simp only [List.set_cons_succ]
                  try simp only [List.set_cons_zero]
                  refine wpAnyH_ready (rs := [10]) (by kernel_rfl) (by simp) ?_
                  refine AllReadyH.cons rfl (fun K hK => ?_) ?_
                  · go_simp
                    refine hK.out _ _ trivial (fun _ => ?_)
                    clear hK K
                    refine wpAnyH_done (by kernel_rfl) ?_ _
                    have HD5 := hide D5
                    clear p0 p1 p2 p3 p4 f0 f1 f2 f3 f4 d0 d1 d2 d3 d4 e0 e1 e2 e3 e4 qa0 qa1 qa2 qa3 qa4 qb0 qb1 qb2 qb3 qb4 qc0 qc1 qc2 qc3 qc4 qd0 qd1 qd2 qd3 qd4 pf0 pf1 pf2 pf3 pf4
                    go_wp2
                    go_roundw
                    case rel => exact ⟨m - 1, a, b, _, lo', cap', by go_num, by simp; omega, HD5.out⟩
                    case measure => simp [intOf]; omega
                  exact AllReadyH.nil

                exact AllReadyH.nil

              exact AllReadyH.nil

            refine AllReadyH.cons rfl (fun K hK => ?_) ?_
            · go_simp
              refine hK.out _ _ trivial (fun _ => ?_)
              clear hK K
              refine wpAnyH_ready (rs := [1]) (by kernel_rfl) (by simp) ?_
              refine AllReadyH.cons rfl (fun K hK => ?_) ?_
              · go_simp
                refine hK.out _ _ trivial (fun _ => ?_)
                clear hK K
                refine wpAnyH_ready (rs := [8]) (by kernel_rfl) (by simp) ?_
                refine AllReadyH.cons rfl (fun K hK => ?_) ?_
                · (refine step_append_bind rfl _ _ 24 rfl (pb + 1) Tryz.underlying24 Tryz.infoBind' lo cap ys rfl D4.bo w3.heap.size (BI.mk oa on oc o K' N S za zn zc z) rfl (bind_news w3 (BI.mk oa on oc o K' N S za zn zc z)) NEW4 NEW.nd HAP (by omega) hsz4 ?_; intro lo' cap' w5 hb5 hg5; have D5 := D4.push hg5 hb5 hsz4 hlt; have kp5 := (Only.of_grown hg5).kept D4.pbox (fun hc => by have := (D4.bo.row.lt pb (mem_blkL.2 hc)).1; omega); obtain ⟨⟨qc0, qc1, qc2, qc3, qc4⟩, pf0, pf1, pf2, pf3, pf4⟩ := cells5 kp5)
                  refine hK.out _ _ trivial (fun _ => ?_)
                  clear hK K
                  refine wpAnyH_take (i := 9) (oi := _) (v := ?_) rfl (by kernel_rfl) (by kernel_rfl) (by kernel_rfl) (fun _ _ _ h => h) (Or.inl ⟨by rfl, ?_⟩) trivial ?_
                  rotate_left
                  · (intro wY _; go_simp; try with_reducible rfl)
                  try simp only [Act.put]
                  try simp only [List.setIfInBounds_toArray]
                  try simp only [List.set_cons_succ]
                  try simp only [List.set_cons_zero]
                  refine wpAnyH_ready (rs := [10]) (by kernel_rfl) (by simp) ?_
                  refine AllReadyH.cons rfl (fun K hK => ?_) ?_
                  · go_simp
                    refine hK.out _ _ trivial (fun _ => ?_)
                    clear hK K
                    refine wpAnyH_done (by kernel_rfl) ?_ _
                    have HD5 := hide D5
                    clear p0 p1 p2 p3 p4 f0 f1 f2 f3 f4 d0 d1 d2 d3 d4 e0 e1 e2 e3 e4 qa0 qa1 qa2 qa3 qa4 qb0 qb1 qb2 qb3 qb4 qc0 qc1 qc2 qc3 qc4 qd0 qd1 qd2 qd3 qd4 pf0 pf1 pf2 pf3 pf4
                    go_wp2
                    go_roundw
                    case rel => exact ⟨m - 1, a, b, _, lo', cap', by go_num, by simp; omega, HD5.out⟩
                    case measure => simp [intOf]; omega
                  exact AllReadyH.nil

                exact AllReadyH.nil

              exact AllReadyH.nil

            exact AllReadyH.nil

          exact AllReadyH.nil

        exact AllReadyH.nil

      · have hm0 : m = 0 := by omega
        subst hm0
        have m1 : ¬ pb = w.heap.size := by omega
        go_wp2
        refine bodyPost_ret (v := .agg #[.int .i64 k, .int .i64 id, .int .i64 a, .int .i64 b, .slice lo ys.length cap]) (by simp [results, Tryz.results29, go_sem, *]) rfl ⟨k, id, a, b, ys, lo, cap, rfl, by omega, ?_, ?_⟩
        · refine BOwns.lt (base := pb + 1) ?_ (by omega)
          repeat (refine BOwns.set_below ?_ (by omega))
          exact HDS.out.bo
        · refine HDS.out.went.madeAt (B := w.heap.size) ?_ hlt (Nat.le_refl _)
          repeat (refine below_set ?_ (Nat.le_refl _) _ _)
          exact Below.refl _ _
  · go_wp2_with fail
    generalize hwp : (w3.alloc (.cells #[.int .i64 k, .int .i64 id, .int .i64 0, .int .i64 0, .slice none 0 0] 26)) = wp at *
    clear hwp
    generalize hpb : w3.heap.size = pb at *
    clear hpb s0 s1 s2 s3 s4
    refine (below_any C a0 l0 c0 z0 4 _ HDP.out.went.cur (by omega)).mono ?_
    rintro e w4 ⟨xa, rfl, -, -, -, went4⟩
    have D4 := HDP.out.bind hlt (World.grownBy.refl _ _) went4.grown went4.cur
    obtain ⟨⟨p0, p1, p2, p3, p4⟩, f0, f1, f2, f3, f4⟩ := cells5 D4.pbox
    have D4a := D4.set2 xa hlt
    have HD4 := hide D4a
    clear D4 D4a HDP went4
    go_wp2_with fail
    generalize (w4.setCell ⟨pb, 2, none⟩ (.int .i64 xa)) = w4a at *
    refine (below_any C a0 l0 c0 z0 5 _ HD4.out.went.cur (by omega)).mono ?_
    rintro e w5 ⟨xb, rfl, -, -, -, went5⟩
    have D5 := HD4.out.bind hlt (World.grownBy.refl _ _) went5.grown went5.cur
    clear p0 p1 p2 p3 p4 f0 f1 f2 f3 f4
    obtain ⟨⟨p0, p1, p2, p3, p4⟩, f0, f1, f2, f3, f4⟩ := cells5 D5.pbox
    have HSP := hide (D5.set3 xb hlt)
    clear D5 HD4 went5
    go_wp2_with fail
    generalize (w5.setCell ⟨pb, 3, none⟩ (.int .i64 xb)) = w5a at *
    clear p0 p1 p2 p3 p4 f0 f1 f2 f3 f4
    refine (below_any C a0 l0 c0 z0 4 _ HSP.out.went.cur (by omega)).mono ?_
    rintro e w8 ⟨x8, rfl, hx8, hx8', -, went8⟩
    have hx8'' := hx8' (by omega)
    obtain ⟨mx, rfl⟩ : ∃ m : Nat, x8 = m := ⟨x8.toNat, by omega⟩
    have D8 := HSP.out.bind hlt (World.grownBy.refl _ _) went8.grown went8.cur
    have HST := hide D8
    clear D8 HSP went8 hx8' q0
    go_wp2
    go_loopw [4] (fun i wr => ∃ (m : Nat) (a b : Int) (ys : List BI) (lo : Option Addr) (cap : Nat), i = .int .i64 m ∧ ys.length + m ≤ 3 ∧ DSt w wr pb C a0 l0 c0 z0 k id a b ys lo cap) (fun i _ => (intOf i).toNat)
    case atStart => exact ⟨mx, _, _, [], none, 0, rfl, by simp; omega, HST.out⟩
    case round =>
      obtain ⟨m, a, b, ys, lo, cap, rfl, hml, DS⟩ := hrel
      have HDS := hide DS
      have hpl := DS.low
      obtain ⟨⟨p0, p1, p2, p3, p4⟩, f0, f1, f2, f3, f4⟩ := cells5 DS.pbox
      obtain ⟨⟨d0, d1, d2, d3, d4⟩, e0, e1, e2, e3, e4⟩ := cells5 DS.rbox
      clear DS HST
      by_cases hm : 0 < m
      · go_wp2_with fail
        refine wp_region_held_drew (S := fun _ => True) (by kernel_rfl) trivial (fun _ => ?_)
        refine wpAnyH_take (i := 0) (oi := _) (v := ?_) rfl (by kernel_rfl) (by kernel_rfl) (by kernel_rfl) (fun _ _ _ h => h) (Or.inl ⟨by rfl, ?_⟩) trivial ?_
        rotate_left
        · (intro wY _; go_simp; try with_reducible rfl)
        try simp only [Act.put]
        try simp only [List.setIfInBounds_toArray]
        try simp only [List.set_cons_succ]
        try simp only [List.set_cons_zero]
        refine wpAnyH_take (i := 2) (oi := _) (v := ?_) rfl (by kernel_rfl) (by kernel_rfl) (by kernel_rfl) (fun _ _ _ h => h) (Or.inl ⟨by rfl, ?_⟩) trivial ?_
        rotate_left
        · (intro wY _; go_simp; try with_reducible rfl)
        try simp only [Act.put]
        try simp only [List.setIfInBounds_toArray]
        try simp only [List.set_cons_succ]
        try simp only [List.set_cons_zero]
        refine wpAnyH_take (i := 4) (oi := _) (v := ?_) rfl (by kernel_rfl) (by kernel_rfl) (by kernel_rfl) (fun _ _ _ h => h) (Or.inl ⟨by rfl, ?_⟩) trivial ?_
        rotate_left
        · (intro wY _; go_simp; try with_reducible rfl)
        try simp only [Act.put]
        try simp only [List.setIfInBounds_toArray]
        try simp only [List.set_cons_succ]
        try simp only [List.set_cons_zero]
        refine wpAnyH_ready (rs := [1, 3]) (by kernel_rfl) (by simp) ?_
        refine AllReadyH.cons rfl (fun K hK => ?_) ?_
        · go_simp
          refine hK.out _ _ trivial (fun _ => ?_)
          clear hK K
          refine wpAnyH_ready (rs := [3]) (by kernel_rfl) (by simp) ?_
          refine AllReadyH.cons rfl (fun K hK => ?_) ?_
          · go_simp
            go_wp2_with (go_at_call 42; refine (oidDraw_any C a0 l0 c0 z0 _ (HDS.out.went.cur.below (below_drewN (Below.refl _ _) _))).mono ?_; rintro e w2 ⟨oa, on, oc, o, rfl, hlo2, hhi2, hol2, hok2, how2, went2⟩; have g2 : wr.grownBy w2 (some C) := ⟨went2.grown.os, went2.grown.tape, went2.grown.output, went2.grown.size, went2.grown.block⟩; have kp2 := kept_grown HDS.out.pbox g2 (fun j hj => by cases hj; omega); obtain ⟨⟨qa0, qa1, qa2, qa3, qa4⟩, -⟩ := cells5 kp2)
            refine hK.out _ _ trivial (fun _ => ?_)
            clear hK K
            refine wpAnyH_ready (rs := [5]) (by kernel_rfl) (by simp) ?_
            refine AllReadyH.cons rfl (fun K hK => ?_) ?_
            · go_simp
              go_wp2_with (go_at_call 60; refine (l3Draw_any C a0 l0 c0 z0 _ went2.cur).mono ?_; rintro e w3 ⟨K', N, S, za, zn, zc, z, rfl, hS3', hn3, hz3, hzi3, how3, went3⟩; have kp3 := kept_grown kp2 went3.grown (fun j hj => by cases hj; omega); obtain ⟨⟨qb0, qb1, qb2, qb3, qb4⟩, -⟩ := cells5 kp3; have D3 := HDS.out.bind hlt g2 went3.grown went3.cur; have hpw : pb + 1 ≤ wr.heap.size := (Array.getElem?_eq_some_iff.1 HDS.out.pbox).1; have NEW := drawn_bind (K := K') (N := N) (S := S) (own_lt how2 (base' := pb + 1) hpw) hok2.i64 went3.grown (by omega) how3 hzi3 (Nat.le_refl _) (Nat.le_trans hpw g2.size) hS3'; have D4 := D3.below (below_one w3 (.cells #[.slice oa on oc, .int .i64 K', .int .i64 N, .string S, .slice za zn zc] 80)); obtain ⟨⟨qd0, qd1, qd2, qd3, qd4⟩, -⟩ := cells5 D4.pbox; have NEW4 := NEW.own.below (below_one w3 (.cells #[.slice oa on oc, .int .i64 K', .int .i64 N, .string S, .slice za zn zc] 80)); have HAP : ∀ z' ∈ ys, ∀ b' ∈ z'.blks, b' ∉ (BI.mk oa on oc o K' N S za zn zc z).blks := (fun z' hz' b' hb' hc => apart_new (HDS.out.bo.item z' hz') how2 how3 (Nat.le_refl _) g2.size hb' hc); have hsz4 : pb + 1 ≤ (w3.alloc (.cells #[.slice oa on oc, .int .i64 K', .int .i64 N, .string S, .slice za zn zc] 80)).heap.size := (by have h1 := g2.size; have h2 := went3.grown.size; simp; omega))
              refine hK.out _ _ trivial (fun _ => ?_)
              clear hK K
              refine wpAnyH_take (i := 6) (oi := _) (v := ?_) rfl (by kernel_rfl) (by kernel_rfl) (by kernel_rfl) (fun _ _ _ h => h) (Or.inl ⟨by rfl, ?_⟩) trivial ?_
              rotate_left
              · (intro wY _; go_simp; try with_reducible rfl)
              try simp only [Act.put]
              try simp only [List.setIfInBounds_toArray]
              try simp only [List.set_cons_succ]
              try simp only [List.set_cons_zero]
              refine wpAnyH_ready (rs := [7]) (by kernel_rfl) (by simp) ?_
              refine AllReadyH.cons rfl (fun K hK => ?_) ?_
              · go_simp
                refine hK.out _ _ trivial (fun _ => ?_)
                clear hK K
                refine wpAnyH_ready (rs := [8]) (by kernel_rfl) (by simp) ?_
                refine AllReadyH.cons rfl (fun K hK => ?_) ?_
                · (refine step_append_bind rfl _ _ 24 rfl (pb + 1) Tryz.underlying24 Tryz.infoBind' lo cap ys rfl D4.bo w3.heap.size (BI.mk oa on oc o K' N S za zn zc z) rfl (bind_news w3 (BI.mk oa on oc o K' N S za zn zc z)) NEW4 NEW.nd HAP (by omega) hsz4 ?_; intro lo' cap' w5 hb5 hg5; have D5 := D4.push hg5 hb5 hsz4 hlt; have kp5 := (Only.of_grown hg5).kept D4.pbox (fun hc => by have := (D4.bo.row.lt pb (mem_blkL.2 hc)).1; omega); obtain ⟨⟨qc0, qc1, qc2, qc3, qc4⟩, pf0, pf1, pf2, pf3, pf4⟩ := cells5 kp5)
                  refine hK.out _ _ trivial (fun _ => ?_)
                  clear hK K
                  refine wpAnyH_take (i := 9) (oi := _) (v := ?_) rfl (by kernel_rfl) (by kernel_rfl) (by kernel_rfl) (fun _ _ _ h => h) (Or.inl ⟨by rfl, ?_⟩) trivial ?_
                  rotate_left
                  · (intro wY _; go_simp; try with_reducible rfl)
                  try simp only [Act.put]
                  try simp only [List.setIfInBounds_toArray]
                  try simp only [List.set_cons_succ]
                  try simp only [List.set_cons_zero]
                  refine wpAnyH_ready (rs := [10]) (by kernel_rfl) (by simp) ?_
                  refine AllReadyH.cons rfl (fun K hK => ?_) ?_
                  · go_simp
                    refine hK.out _ _ trivial (fun _ => ?_)
                    clear hK K
                    refine wpAnyH_done (by kernel_rfl) ?_ _
                    have HD5 := hide D5
                    clear p0 p1 p2 p3 p4 f0 f1 f2 f3 f4 d0 d1 d2 d3 d4 e0 e1 e2 e3 e4 qa0 qa1 qa2 qa3 qa4 qb0 qb1 qb2 qb3 qb4 qc0 qc1 qc2 qc3 qc4 qd0 qd1 qd2 qd3 qd4 pf0 pf1 pf2 pf3 pf4
                    go_wp2
                    go_roundw
                    case rel => exact ⟨m - 1, a, b, _, lo', cap', by go_num, by simp; omega, HD5.out⟩
                    case measure => simp [intOf]; omega
                  exact AllReadyH.nil

                exact AllReadyH.nil

              exact AllReadyH.nil

            exact AllReadyH.nil

          exact AllReadyH.nil

        refine AllReadyH.cons rfl (fun K hK => ?_) ?_
        · go_simp
          go_wp2_with (go_at_call 42; refine (oidDraw_any C a0 l0 c0 z0 _ (HDS.out.went.cur.below (below_drewN (Below.refl _ _) _))).mono ?_; rintro e w2 ⟨oa, on, oc, o, rfl, hlo2, hhi2, hol2, hok2, how2, went2⟩; have g2 : wr.grownBy w2 (some C) := ⟨went2.grown.os, went2.grown.tape, went2.grown.output, went2.grown.size, went2.grown.block⟩; have kp2 := kept_grown HDS.out.pbox g2 (fun j hj => by cases hj; omega); obtain ⟨⟨qa0, qa1, qa2, qa3, qa4⟩, -⟩ := cells5 kp2)
          refine hK.out _ _ trivial (fun _ => ?_)
          clear hK K
          refine wpAnyH_ready (rs := [1, 5]) (by kernel_rfl) (by simp) ?_
          refine AllReadyH.cons rfl (fun K hK => ?_) ?_
          · go_simp
            refine hK.out _ _ trivial (fun _ => ?_)
            clear hK K
            refine wpAnyH_ready (rs := [5]) (by kernel_rfl) (by simp) ?_
            refine AllReadyH.cons rfl (fun K hK => ?_) ?_
            · go_simp
              go_wp2_with (go_at_call 60; refine (l3Draw_any C a0 l0 c0 z0 _ went2.cur).mono ?_; rintro e w3 ⟨K', N, S, za, zn, zc, z, rfl, hS3', hn3, hz3, hzi3, how3, went3⟩; have kp3 := kept_grown kp2 went3.grown (fun j hj => by cases hj; omega); obtain ⟨⟨qb0, qb1, qb2, qb3, qb4⟩, -⟩ := cells5 kp3; have D3 := HDS.out.bind hlt g2 went3.grown went3.cur; have hpw : pb + 1 ≤ wr.heap.size := (Array.getElem?_eq_some_iff.1 HDS.out.pbox).1; have NEW := drawn_bind (K := K') (N := N) (S := S) (own_lt how2 (base' := pb + 1) hpw) hok2.i64 went3.grown (by omega) how3 hzi3 (Nat.le_refl _) (Nat.le_trans hpw g2.size) hS3'; have D4 := D3.below (below_one w3 (.cells #[.slice oa on oc, .int .i64 K', .int .i64 N, .string S, .slice za zn zc] 80)); obtain ⟨⟨qd0, qd1, qd2, qd3, qd4⟩, -⟩ := cells5 D4.pbox; have NEW4 := NEW.own.below (below_one w3 (.cells #[.slice oa on oc, .int .i64 K', .int .i64 N, .string S, .slice za zn zc] 80)); have HAP : ∀ z' ∈ ys, ∀ b' ∈ z'.blks, b' ∉ (BI.mk oa on oc o K' N S za zn zc z).blks := (fun z' hz' b' hb' hc => apart_new (HDS.out.bo.item z' hz') how2 how3 (Nat.le_refl _) g2.size hb' hc); have hsz4 : pb + 1 ≤ (w3.alloc (.cells #[.slice oa on oc, .int .i64 K', .int .i64 N, .string S, .slice za zn zc] 80)).heap.size := (by have h1 := g2.size; have h2 := went3.grown.size; simp; omega))
              refine hK.out _ _ trivial (fun _ => ?_)
              clear hK K
              refine wpAnyH_take (i := 6) (oi := _) (v := ?_) rfl (by kernel_rfl) (by kernel_rfl) (by kernel_rfl) (fun _ _ _ h => h) (Or.inl ⟨by rfl, ?_⟩) trivial ?_
              rotate_left
              · (intro wY _; go_simp; try with_reducible rfl)
              try simp only [Act.put]
              try simp only [List.setIfInBounds_toArray]
              try simp only [List.set_cons_succ]
              try simp only [List.set_cons_zero]
              refine wpAnyH_ready (rs := [7]) (by kernel_rfl) (by simp) ?_
              refine AllReadyH.cons rfl (fun K hK => ?_) ?_
              · go_simp
                refine hK.out _ _ trivial (fun _ => ?_)
                clear hK K
                refine wpAnyH_ready (rs := [8]) (by kernel_rfl) (by simp) ?_
                refine AllReadyH.cons rfl (fun K hK => ?_) ?_
                · (refine step_append_bind rfl _ _ 24 rfl (pb + 1) Tryz.underlying24 Tryz.infoBind' lo cap ys rfl D4.bo w3.heap.size (BI.mk oa on oc o K' N S za zn zc z) rfl (bind_news w3 (BI.mk oa on oc o K' N S za zn zc z)) NEW4 NEW.nd HAP (by omega) hsz4 ?_; intro lo' cap' w5 hb5 hg5; have D5 := D4.push hg5 hb5 hsz4 hlt; have kp5 := (Only.of_grown hg5).kept D4.pbox (fun hc => by have := (D4.bo.row.lt pb (mem_blkL.2 hc)).1; omega); obtain ⟨⟨qc0, qc1, qc2, qc3, qc4⟩, pf0, pf1, pf2, pf3, pf4⟩ := cells5 kp5)
                  refine hK.out _ _ trivial (fun _ => ?_)
                  clear hK K
                  refine wpAnyH_take (i := 9) (oi := _) (v := ?_) rfl (by kernel_rfl) (by kernel_rfl) (by kernel_rfl) (fun _ _ _ h => h) (Or.inl ⟨by rfl, ?_⟩) trivial ?_
                  rotate_left
                  · (intro wY _; go_simp; try with_reducible rfl)
                  try simp only [Act.put]
                  try simp only [List.setIfInBounds_toArray]
                  try simp only [List.set_cons_succ]
                  try simp only [List.set_cons_zero]
                  refine wpAnyH_ready (rs := [10]) (by kernel_rfl) (by simp) ?_
                  refine AllReadyH.cons rfl (fun K hK => ?_) ?_
                  · go_simp
                    refine hK.out _ _ trivial (fun _ => ?_)
                    clear hK K
                    refine wpAnyH_done (by kernel_rfl) ?_ _
                    have HD5 := hide D5
                    clear p0 p1 p2 p3 p4 f0 f1 f2 f3 f4 d0 d1 d2 d3 d4 e0 e1 e2 e3 e4 qa0 qa1 qa2 qa3 qa4 qb0 qb1 qb2 qb3 qb4 qc0 qc1 qc2 qc3 qc4 qd0 qd1 qd2 qd3 qd4 pf0 pf1 pf2 pf3 pf4
                    go_wp2
                    go_roundw
                    case rel => exact ⟨m - 1, a, b, _, lo', cap', by go_num, by simp; omega, HD5.out⟩
                    case measure => simp [intOf]; omega
                  exact AllReadyH.nil

                exact AllReadyH.nil

              exact AllReadyH.nil

            exact AllReadyH.nil

          refine AllReadyH.cons rfl (fun K hK => ?_) ?_
          · go_simp
            go_wp2_with (go_at_call 60; refine (l3Draw_any C a0 l0 c0 z0 _ went2.cur).mono ?_; rintro e w3 ⟨K', N, S, za, zn, zc, z, rfl, hS3', hn3, hz3, hzi3, how3, went3⟩; have kp3 := kept_grown kp2 went3.grown (fun j hj => by cases hj; omega); obtain ⟨⟨qb0, qb1, qb2, qb3, qb4⟩, -⟩ := cells5 kp3; have D3 := HDS.out.bind hlt g2 went3.grown went3.cur; have hpw : pb + 1 ≤ wr.heap.size := (Array.getElem?_eq_some_iff.1 HDS.out.pbox).1; have NEW := drawn_bind (K := K') (N := N) (S := S) (own_lt how2 (base' := pb + 1) hpw) hok2.i64 went3.grown (by omega) how3 hzi3 (Nat.le_refl _) (Nat.le_trans hpw g2.size) hS3'; have D4 := D3.below (below_one w3 (.cells #[.slice oa on oc, .int .i64 K', .int .i64 N, .string S, .slice za zn zc] 80)); obtain ⟨⟨qd0, qd1, qd2, qd3, qd4⟩, -⟩ := cells5 D4.pbox; have NEW4 := NEW.own.below (below_one w3 (.cells #[.slice oa on oc, .int .i64 K', .int .i64 N, .string S, .slice za zn zc] 80)); have HAP : ∀ z' ∈ ys, ∀ b' ∈ z'.blks, b' ∉ (BI.mk oa on oc o K' N S za zn zc z).blks := (fun z' hz' b' hb' hc => apart_new (HDS.out.bo.item z' hz') how2 how3 (Nat.le_refl _) g2.size hb' hc); have hsz4 : pb + 1 ≤ (w3.alloc (.cells #[.slice oa on oc, .int .i64 K', .int .i64 N, .string S, .slice za zn zc] 80)).heap.size := (by have h1 := g2.size; have h2 := went3.grown.size; simp; omega))
            refine hK.out _ _ trivial (fun _ => ?_)
            clear hK K
            refine wpAnyH_take (i := 6) (oi := _) (v := ?_) rfl (by kernel_rfl) (by kernel_rfl) (by kernel_rfl) (fun _ _ _ h => h) (Or.inl ⟨by rfl, ?_⟩) trivial ?_
            rotate_left
            · (intro wY _; go_simp; try with_reducible rfl)
            try simp only [Act.put]
            try simp only [List.setIfInBounds_toArray]
            try simp only [List.set_cons_succ]
            try simp only [List.set_cons_zero]
            refine wpAnyH_ready (rs := [1, 7]) (by kernel_rfl) (by simp) ?_
            refine AllReadyH.cons rfl (fun K hK => ?_) ?_
            · go_simp
              refine hK.out _ _ trivial (fun _ => ?_)
              clear hK K
              refine wpAnyH_ready (rs := [7]) (by kernel_rfl) (by simp) ?_
              refine AllReadyH.cons rfl (fun K hK => ?_) ?_
              · go_simp
                refine hK.out _ _ trivial (fun _ => ?_)
                clear hK K
                refine wpAnyH_ready (rs := [8]) (by kernel_rfl) (by simp) ?_
                refine AllReadyH.cons rfl (fun K hK => ?_) ?_
                · (refine step_append_bind rfl _ _ 24 rfl (pb + 1) Tryz.underlying24 Tryz.infoBind' lo cap ys rfl D4.bo w3.heap.size (BI.mk oa on oc o K' N S za zn zc z) rfl (bind_news w3 (BI.mk oa on oc o K' N S za zn zc z)) NEW4 NEW.nd HAP (by omega) hsz4 ?_; intro lo' cap' w5 hb5 hg5; have D5 := D4.push hg5 hb5 hsz4 hlt; have kp5 := (Only.of_grown hg5).kept D4.pbox (fun hc => by have := (D4.bo.row.lt pb (mem_blkL.2 hc)).1; omega); obtain ⟨⟨qc0, qc1, qc2, qc3, qc4⟩, pf0, pf1, pf2, pf3, pf4⟩ := cells5 kp5)
                  refine hK.out _ _ trivial (fun _ => ?_)
                  clear hK K
                  refine wpAnyH_take (i := 9) (oi := _) (v := ?_) rfl (by kernel_rfl) (by kernel_rfl) (by kernel_rfl) (fun _ _ _ h => h) (Or.inl ⟨by rfl, ?_⟩) trivial ?_
                  rotate_left
                  · (intro wY _; go_simp; try with_reducible rfl)
                  try simp only [Act.put]
                  try simp only [List.setIfInBounds_toArray]
                  try simp only [List.set_cons_succ]
                  try simp only [List.set_cons_zero]
                  refine wpAnyH_ready (rs := [10]) (by kernel_rfl) (by simp) ?_
                  refine AllReadyH.cons rfl (fun K hK => ?_) ?_
                  · go_simp
                    refine hK.out _ _ trivial (fun _ => ?_)
                    clear hK K
                    refine wpAnyH_done (by kernel_rfl) ?_ _
                    have HD5 := hide D5
                    clear p0 p1 p2 p3 p4 f0 f1 f2 f3 f4 d0 d1 d2 d3 d4 e0 e1 e2 e3 e4 qa0 qa1 qa2 qa3 qa4 qb0 qb1 qb2 qb3 qb4 qc0 qc1 qc2 qc3 qc4 qd0 qd1 qd2 qd3 qd4 pf0 pf1 pf2 pf3 pf4
                    go_wp2
                    go_roundw
                    case rel => exact ⟨m - 1, a, b, _, lo', cap', by go_num, by simp; omega, HD5.out⟩
                    case measure => simp [intOf]; omega
                  exact AllReadyH.nil

                exact AllReadyH.nil

              exact AllReadyH.nil

            refine AllReadyH.cons rfl (fun K hK => ?_) ?_
            · go_simp
              refine hK.out _ _ trivial (fun _ => ?_)
              clear hK K
              refine wpAnyH_ready (rs := [1]) (by kernel_rfl) (by simp) ?_
              refine AllReadyH.cons rfl (fun K hK => ?_) ?_
              · go_simp
                refine hK.out _ _ trivial (fun _ => ?_)
                clear hK K
                refine wpAnyH_ready (rs := [8]) (by kernel_rfl) (by simp) ?_
                refine AllReadyH.cons rfl (fun K hK => ?_) ?_
                · (refine step_append_bind rfl _ _ 24 rfl (pb + 1) Tryz.underlying24 Tryz.infoBind' lo cap ys rfl D4.bo w3.heap.size (BI.mk oa on oc o K' N S za zn zc z) rfl (bind_news w3 (BI.mk oa on oc o K' N S za zn zc z)) NEW4 NEW.nd HAP (by omega) hsz4 ?_; intro lo' cap' w5 hb5 hg5; have D5 := D4.push hg5 hb5 hsz4 hlt; have kp5 := (Only.of_grown hg5).kept D4.pbox (fun hc => by have := (D4.bo.row.lt pb (mem_blkL.2 hc)).1; omega); obtain ⟨⟨qc0, qc1, qc2, qc3, qc4⟩, pf0, pf1, pf2, pf3, pf4⟩ := cells5 kp5)
                  refine hK.out _ _ trivial (fun _ => ?_)
                  clear hK K
                  refine wpAnyH_take (i := 9) (oi := _) (v := ?_) rfl (by kernel_rfl) (by kernel_rfl) (by kernel_rfl) (fun _ _ _ h => h) (Or.inl ⟨by rfl, ?_⟩) trivial ?_
                  rotate_left
                  · (intro wY _; go_simp; try with_reducible rfl)
                  try simp only [Act.put]
                  try simp only [List.setIfInBounds_toArray]
                  try simp only [List.set_cons_succ]
                  try simp only [List.set_cons_zero]
                  refine wpAnyH_ready (rs := [10]) (by kernel_rfl) (by simp) ?_
                  refine AllReadyH.cons rfl (fun K hK => ?_) ?_
                  · go_simp
                    refine hK.out _ _ trivial (fun _ => ?_)
                    clear hK K
                    refine wpAnyH_done (by kernel_rfl) ?_ _
                    have HD5 := hide D5
                    clear p0 p1 p2 p3 p4 f0 f1 f2 f3 f4 d0 d1 d2 d3 d4 e0 e1 e2 e3 e4 qa0 qa1 qa2 qa3 qa4 qb0 qb1 qb2 qb3 qb4 qc0 qc1 qc2 qc3 qc4 qd0 qd1 qd2 qd3 qd4 pf0 pf1 pf2 pf3 pf4
                    go_wp2
                    go_roundw
                    case rel => exact ⟨m - 1, a, b, _, lo', cap', by go_num, by simp; omega, HD5.out⟩
                    case measure => simp [intOf]; omega
                  exact AllReadyH.nil

                exact AllReadyH.nil

              exact AllReadyH.nil

            exact AllReadyH.nil

          exact AllReadyH.nil

        exact AllReadyH.nil

      · have hm0 : m = 0 := by omega
        subst hm0
        have m1 : ¬ pb = w.heap.size := by omega
        go_wp2
        refine bodyPost_ret (v := .agg #[.int .i64 k, .int .i64 id, .int .i64 a, .int .i64 b, .slice lo ys.length cap]) (by simp [results, Tryz.results29, go_sem, *]) rfl ⟨k, id, a, b, ys, lo, cap, rfl, by omega, ?_, ?_⟩
        · refine BOwns.lt (base := pb + 1) ?_ (by omega)
          repeat (refine BOwns.set_below ?_ (by omega))
          exact HDS.out.bo
        · refine HDS.out.went.madeAt (B := w.heap.size) ?_ hlt (Nat.le_refl _)
          repeat (refine below_set ?_ (Nat.le_refl _) _ _)
          exact Below.refl _ _
  · go_wp2_with fail
    generalize hwp : (w3.alloc (.cells #[.int .i64 k, .int .i64 id, .int .i64 0, .int .i64 0, .slice none 0 0] 26)) = wp at *
    clear hwp
    generalize hpb : w3.heap.size = pb at *
    clear hpb s0 s1 s2 s3 s4
    have HSP := HDP
    clear HDP
    refine (below_any C a0 l0 c0 z0 4 _ HSP.out.went.cur (by omega)).mono ?_
    rintro e w8 ⟨x8, rfl, hx8, hx8', -, went8⟩
    have hx8'' := hx8' (by omega)
    obtain ⟨mx, rfl⟩ : ∃ m : Nat, x8 = m := ⟨x8.toNat, by omega⟩
    have D8 := HSP.out.bind hlt (World.grownBy.refl _ _) went8.grown went8.cur
    have HST := hide D8
    clear D8 HSP went8 hx8' q0
    go_wp2
    go_loopw [4] (fun i wr => ∃ (m : Nat) (a b : Int) (ys : List BI) (lo : Option Addr) (cap : Nat), i = .int .i64 m ∧ ys.length + m ≤ 3 ∧ DSt w wr pb C a0 l0 c0 z0 k id a b ys lo cap) (fun i _ => (intOf i).toNat)
    case atStart => exact ⟨mx, _, _, [], none, 0, rfl, by simp; omega, HST.out⟩
    case round =>
      obtain ⟨m, a, b, ys, lo, cap, rfl, hml, DS⟩ := hrel
      have HDS := hide DS
      have hpl := DS.low
      obtain ⟨⟨p0, p1, p2, p3, p4⟩, f0, f1, f2, f3, f4⟩ := cells5 DS.pbox
      obtain ⟨⟨d0, d1, d2, d3, d4⟩, e0, e1, e2, e3, e4⟩ := cells5 DS.rbox
      clear DS HST
      by_cases hm : 0 < m
      · go_wp2_with fail
        refine wp_region_held_drew (S := fun _ => True) (by kernel_rfl) trivial (fun _ => ?_)
        refine wpAnyH_take (i := 0) (oi := _) (v := ?_) rfl (by kernel_rfl) (by kernel_rfl) (by kernel_rfl) (fun _ _ _ h => h) (Or.inl ⟨by rfl, ?_⟩) trivial ?_
        rotate_left
        · (intro wY _; go_simp; try with_reducible rfl)
        try simp only [Act.put]
        try simp only [List.setIfInBounds_toArray]
        try simp only [List.set_cons_succ]
        try simp only [List.set_cons_zero]
        refine wpAnyH_take (i := 2) (oi := _) (v := ?_) rfl (by kernel_rfl) (by kernel_rfl) (by kernel_rfl) (fun _ _ _ h => h) (Or.inl ⟨by rfl, ?_⟩) trivial ?_
        rotate_left
        · (intro wY _; go_simp; try with_reducible rfl)
        try simp only [Act.put]
        try simp only [List.setIfInBounds_toArray]
        try simp only [List.set_cons_succ]
        try simp only [List.set_cons_zero]
        refine wpAnyH_take (i := 4) (oi := _) (v := ?_) rfl (by kernel_rfl) (by kernel_rfl) (by kernel_rfl) (fun _ _ _ h => h) (Or.inl ⟨by rfl, ?_⟩) trivial ?_
        rotate_left
        · (intro wY _; go_simp; try with_reducible rfl)
        try simp only [Act.put]
        try simp only [List.setIfInBounds_toArray]
        try simp only [List.set_cons_succ]
        try simp only [List.set_cons_zero]
        refine wpAnyH_ready (rs := [1, 3]) (by kernel_rfl) (by simp) ?_
        refine AllReadyH.cons rfl (fun K hK => ?_) ?_
        · go_simp
          refine hK.out _ _ trivial (fun _ => ?_)
          clear hK K
          refine wpAnyH_ready (rs := [3]) (by kernel_rfl) (by simp) ?_
          refine AllReadyH.cons rfl (fun K hK => ?_) ?_
          · go_simp
            go_wp2_with (go_at_call 42; refine (oidDraw_any C a0 l0 c0 z0 _ (HDS.out.went.cur.below (below_drewN (Below.refl _ _) _))).mono ?_; rintro e w2 ⟨oa, on, oc, o, rfl, hlo2, hhi2, hol2, hok2, how2, went2⟩; have g2 : wr.grownBy w2 (some C) := ⟨went2.grown.os, went2.grown.tape, went2.grown.output, went2.grown.size, went2.grown.block⟩; have kp2 := kept_grown HDS.out.pbox g2 (fun j hj => by cases hj; omega); obtain ⟨⟨qa0, qa1, qa2, qa3, qa4⟩, -⟩ := cells5 kp2)
            refine hK.out _ _ trivial (fun _ => ?_)
            clear hK K
            refine wpAnyH_ready (rs := [5]) (by kernel_rfl) (by simp) ?_
            refine AllReadyH.cons rfl (fun K hK => ?_) ?_
            · go_simp
              go_wp2_with (go_at_call 60; refine (l3Draw_any C a0 l0 c0 z0 _ went2.cur).mono ?_; rintro e w3 ⟨K', N, S, za, zn, zc, z, rfl, hS3', hn3, hz3, hzi3, how3, went3⟩; have kp3 := kept_grown kp2 went3.grown (fun j hj => by cases hj; omega); obtain ⟨⟨qb0, qb1, qb2, qb3, qb4⟩, -⟩ := cells5 kp3; have D3 := HDS.out.bind hlt g2 went3.grown went3.cur; have hpw : pb + 1 ≤ wr.heap.size := (Array.getElem?_eq_some_iff.1 HDS.out.pbox).1; have NEW := drawn_bind (K := K') (N := N) (S := S) (own_lt how2 (base' := pb + 1) hpw) hok2.i64 went3.grown (by omega) how3 hzi3 (Nat.le_refl _) (Nat.le_trans hpw g2.size) hS3'; have D4 := D3.below (below_one w3 (.cells #[.slice oa on oc, .int .i64 K', .int .i64 N, .string S, .slice za zn zc] 80)); obtain ⟨⟨qd0, qd1, qd2, qd3, qd4⟩, -⟩ := cells5 D4.pbox; have NEW4 := NEW.own.below (below_one w3 (.cells #[.slice oa on oc, .int .i64 K', .int .i64 N, .string S, .slice za zn zc] 80)); have HAP : ∀ z' ∈ ys, ∀ b' ∈ z'.blks, b' ∉ (BI.mk oa on oc o K' N S za zn zc z).blks := (fun z' hz' b' hb' hc => apart_new (HDS.out.bo.item z' hz') how2 how3 (Nat.le_refl _) g2.size hb' hc); have hsz4 : pb + 1 ≤ (w3.alloc (.cells #[.slice oa on oc, .int .i64 K', .int .i64 N, .string S, .slice za zn zc] 80)).heap.size := (by have h1 := g2.size; have h2 := went3.grown.size; simp; omega))
              refine hK.out _ _ trivial (fun _ => ?_)
              clear hK K
              refine wpAnyH_take (i := 6) (oi := _) (v := ?_) rfl (by kernel_rfl) (by kernel_rfl) (by kernel_rfl) (fun _ _ _ h => h) (Or.inl ⟨by rfl, ?_⟩) trivial ?_
              rotate_left
              · (intro wY _; go_simp; try with_reducible rfl)
              try simp only [Act.put]
              try simp only [List.setIfInBounds_toArray]
              try simp only [List.set_cons_succ]
              try simp only [List.set_cons_zero]
              refine wpAnyH_ready (rs := [7]) (by kernel_rfl) (by simp) ?_
              refine AllReadyH.cons rfl (fun K hK => ?_) ?_
              · go_simp
                refine hK.out _ _ trivial (fun _ => ?_)
                clear hK K
                refine wpAnyH_ready (rs := [8]) (by kernel_rfl) (by simp) ?_
                refine AllReadyH.cons rfl (fun K hK => ?_) ?_
                · (refine step_append_bind rfl _ _ 24 rfl (pb + 1) Tryz.underlying24 Tryz.infoBind' lo cap ys rfl D4.bo w3.heap.size (BI.mk oa on oc o K' N S za zn zc z) rfl (bind_news w3 (BI.mk oa on oc o K' N S za zn zc z)) NEW4 NEW.nd HAP (by omega) hsz4 ?_; intro lo' cap' w5 hb5 hg5; have D5 := D4.push hg5 hb5 hsz4 hlt; have kp5 := (Only.of_grown hg5).kept D4.pbox (fun hc => by have := (D4.bo.row.lt pb (mem_blkL.2 hc)).1; omega); obtain ⟨⟨qc0, qc1, qc2, qc3, qc4⟩, pf0, pf1, pf2, pf3, pf4⟩ := cells5 kp5)
                  refine hK.out _ _ trivial (fun _ => ?_)
                  clear hK K
                  refine wpAnyH_take (i := 9) (oi := _) (v := ?_) rfl (by kernel_rfl) (by kernel_rfl) (by kernel_rfl) (fun _ _ _ h => h) (Or.inl ⟨by rfl, ?_⟩) trivial ?_
                  rotate_left
                  · (intro wY _; go_simp; try with_reducible rfl)
                  try simp only [Act.put]
                  try simp only [List.setIfInBounds_toArray]
                  try simp only [List.set_cons_succ]
                  try simp only [List.set_cons_zero]
                  refine wpAnyH_ready (rs := [10]) (by kernel_rfl) (by simp) ?_
                  refine AllReadyH.cons rfl (fun K hK => ?_) ?_
                  · go_simp
                    refine hK.out _ _ trivial (fun _ => ?_)
                    clear hK K
                    refine wpAnyH_done (by kernel_rfl) ?_ _
                    have HD5 := hide D5
                    clear p0 p1 p2 p3 p4 f0 f1 f2 f3 f4 d0 d1 d2 d3 d4 e0 e1 e2 e3 e4 qa0 qa1 qa2 qa3 qa4 qb0 qb1 qb2 qb3 qb4 qc0 qc1 qc2 qc3 qc4 qd0 qd1 qd2 qd3 qd4 pf0 pf1 pf2 pf3 pf4
                    go_wp2
                    go_roundw
                    case rel => exact ⟨m - 1, a, b, _, lo', cap', by go_num, by simp; omega, HD5.out⟩
                    case measure => simp [intOf]; omega
                  exact AllReadyH.nil

                exact AllReadyH.nil

              exact AllReadyH.nil

            exact AllReadyH.nil

          exact AllReadyH.nil

        refine AllReadyH.cons rfl (fun K hK => ?_) ?_
        · go_simp
          go_wp2_with (go_at_call 42; refine (oidDraw_any C a0 l0 c0 z0 _ (HDS.out.went.cur.below (below_drewN (Below.refl _ _) _))).mono ?_; rintro e w2 ⟨oa, on, oc, o, rfl, hlo2, hhi2, hol2, hok2, how2, went2⟩; have g2 : wr.grownBy w2 (some C) := ⟨went2.grown.os, went2.grown.tape, went2.grown.output, went2.grown.size, went2.grown.block⟩; have kp2 := kept_grown HDS.out.pbox g2 (fun j hj => by cases hj; omega); obtain ⟨⟨qa0, qa1, qa2, qa3, qa4⟩, -⟩ := cells5 kp2)
          refine hK.out _ _ trivial (fun _ => ?_)
          clear hK K
          refine wpAnyH_ready (rs := [1, 5]) (by kernel_rfl) (by simp) ?_
          refine AllReadyH.cons rfl (fun K hK => ?_) ?_
          · go_simp
            refine hK.out _ _ trivial (fun _ => ?_)
            clear hK K
            refine wpAnyH_ready (rs := [5]) (by kernel_rfl) (by simp) ?_
            refine AllReadyH.cons rfl (fun K hK => ?_) ?_
            · go_simp
              go_wp2_with (go_at_call 60; refine (l3Draw_any C a0 l0 c0 z0 _ went2.cur).mono ?_; rintro e w3 ⟨K', N, S, za, zn, zc, z, rfl, hS3', hn3, hz3, hzi3, how3, went3⟩; have kp3 := kept_grown kp2 went3.grown (fun j hj => by cases hj; omega); obtain ⟨⟨qb0, qb1, qb2, qb3, qb4⟩, -⟩ := cells5 kp3; have D3 := HDS.out.bind hlt g2 went3.grown went3.cur; have hpw : pb + 1 ≤ wr.heap.size := (Array.getElem?_eq_some_iff.1 HDS.out.pbox).1; have NEW := drawn_bind (K := K') (N := N) (S := S) (own_lt how2 (base' := pb + 1) hpw) hok2.i64 went3.grown (by omega) how3 hzi3 (Nat.le_refl _) (Nat.le_trans hpw g2.size) hS3'; have D4 := D3.below (below_one w3 (.cells #[.slice oa on oc, .int .i64 K', .int .i64 N, .string S, .slice za zn zc] 80)); obtain ⟨⟨qd0, qd1, qd2, qd3, qd4⟩, -⟩ := cells5 D4.pbox; have NEW4 := NEW.own.below (below_one w3 (.cells #[.slice oa on oc, .int .i64 K', .int .i64 N, .string S, .slice za zn zc] 80)); have HAP : ∀ z' ∈ ys, ∀ b' ∈ z'.blks, b' ∉ (BI.mk oa on oc o K' N S za zn zc z).blks := (fun z' hz' b' hb' hc => apart_new (HDS.out.bo.item z' hz') how2 how3 (Nat.le_refl _) g2.size hb' hc); have hsz4 : pb + 1 ≤ (w3.alloc (.cells #[.slice oa on oc, .int .i64 K', .int .i64 N, .string S, .slice za zn zc] 80)).heap.size := (by have h1 := g2.size; have h2 := went3.grown.size; simp; omega))
              refine hK.out _ _ trivial (fun _ => ?_)
              clear hK K
              refine wpAnyH_take (i := 6) (oi := _) (v := ?_) rfl (by kernel_rfl) (by kernel_rfl) (by kernel_rfl) (fun _ _ _ h => h) (Or.inl ⟨by rfl, ?_⟩) trivial ?_
              rotate_left
              · (intro wY _; go_simp; try with_reducible rfl)
              try simp only [Act.put]
              try simp only [List.setIfInBounds_toArray]
              try simp only [List.set_cons_succ]
              try simp only [List.set_cons_zero]
              refine wpAnyH_ready (rs := [7]) (by kernel_rfl) (by simp) ?_
              refine AllReadyH.cons rfl (fun K hK => ?_) ?_
              · go_simp
                refine hK.out _ _ trivial (fun _ => ?_)
                clear hK K
                refine wpAnyH_ready (rs := [8]) (by kernel_rfl) (by simp) ?_
                refine AllReadyH.cons rfl (fun K hK => ?_) ?_
                · (refine step_append_bind rfl _ _ 24 rfl (pb + 1) Tryz.underlying24 Tryz.infoBind' lo cap ys rfl D4.bo w3.heap.size (BI.mk oa on oc o K' N S za zn zc z) rfl (bind_news w3 (BI.mk oa on oc o K' N S za zn zc z)) NEW4 NEW.nd HAP (by omega) hsz4 ?_; intro lo' cap' w5 hb5 hg5; have D5 := D4.push hg5 hb5 hsz4 hlt; have kp5 := (Only.of_grown hg5).kept D4.pbox (fun hc => by have := (D4.bo.row.lt pb (mem_blkL.2 hc)).1; omega); obtain ⟨⟨qc0, qc1, qc2, qc3, qc4⟩, pf0, pf1, pf2, pf3, pf4⟩ := cells5 kp5)
                  refine hK.out _ _ trivial (fun _ => ?_)
                  clear hK K
                  refine wpAnyH_take (i := 9) (oi := _) (v := ?_) rfl (by kernel_rfl) (by kernel_rfl) (by kernel_rfl) (fun _ _ _ h => h) (Or.inl ⟨by rfl, ?_⟩) trivial ?_
                  rotate_left
                  · (intro wY _; go_simp; try with_reducible rfl)
                  try simp only [Act.put]
                  try simp only [List.setIfInBounds_toArray]
                  try simp only [List.set_cons_succ]
                  try simp only [List.set_cons_zero]
                  refine wpAnyH_ready (rs := [10]) (by kernel_rfl) (by simp) ?_
                  refine AllReadyH.cons rfl (fun K hK => ?_) ?_
                  · go_simp
                    refine hK.out _ _ trivial (fun _ => ?_)
                    clear hK K
                    refine wpAnyH_done (by kernel_rfl) ?_ _
                    have HD5 := hide D5
                    clear p0 p1 p2 p3 p4 f0 f1 f2 f3 f4 d0 d1 d2 d3 d4 e0 e1 e2 e3 e4 qa0 qa1 qa2 qa3 qa4 qb0 qb1 qb2 qb3 qb4 qc0 qc1 qc2 qc3 qc4 qd0 qd1 qd2 qd3 qd4 pf0 pf1 pf2 pf3 pf4
                    go_wp2
                    go_roundw
                    case rel => exact ⟨m - 1, a, b, _, lo', cap', by go_num, by simp; omega, HD5.out⟩
                    case measure => simp [intOf]; omega
                  exact AllReadyH.nil

                exact AllReadyH.nil

              exact AllReadyH.nil

            exact AllReadyH.nil

          refine AllReadyH.cons rfl (fun K hK => ?_) ?_
          · go_simp
            go_wp2_with (go_at_call 60; refine (l3Draw_any C a0 l0 c0 z0 _ went2.cur).mono ?_; rintro e w3 ⟨K', N, S, za, zn, zc, z, rfl, hS3', hn3, hz3, hzi3, how3, went3⟩; have kp3 := kept_grown kp2 went3.grown (fun j hj => by cases hj; omega); obtain ⟨⟨qb0, qb1, qb2, qb3, qb4⟩, -⟩ := cells5 kp3; have D3 := HDS.out.bind hlt g2 went3.grown went3.cur; have hpw : pb + 1 ≤ wr.heap.size := (Array.getElem?_eq_some_iff.1 HDS.out.pbox).1; have NEW := drawn_bind (K := K') (N := N) (S := S) (own_lt how2 (base' := pb + 1) hpw) hok2.i64 went3.grown (by omega) how3 hzi3 (Nat.le_refl _) (Nat.le_trans hpw g2.size) hS3'; have D4 := D3.below (below_one w3 (.cells #[.slice oa on oc, .int .i64 K', .int .i64 N, .string S, .slice za zn zc] 80)); obtain ⟨⟨qd0, qd1, qd2, qd3, qd4⟩, -⟩ := cells5 D4.pbox; have NEW4 := NEW.own.below (below_one w3 (.cells #[.slice oa on oc, .int .i64 K', .int .i64 N, .string S, .slice za zn zc] 80)); have HAP : ∀ z' ∈ ys, ∀ b' ∈ z'.blks, b' ∉ (BI.mk oa on oc o K' N S za zn zc z).blks := (fun z' hz' b' hb' hc => apart_new (HDS.out.bo.item z' hz') how2 how3 (Nat.le_refl _) g2.size hb' hc); have hsz4 : pb + 1 ≤ (w3.alloc (.cells #[.slice oa on oc, .int .i64 K', .int .i64 N, .string S, .slice za zn zc] 80)).heap.size := (by have h1 := g2.size; have h2 := went3.grown.size; simp; omega))
            refine hK.out _ _ trivial (fun _ => ?_)
            clear hK K
            refine wpAnyH_take (i := 6) (oi := _) (v := ?_) rfl (by kernel_rfl) (by kernel_rfl) (by kernel_rfl) (fun _ _ _ h => h) (Or.inl ⟨by rfl, ?_⟩) trivial ?_
            rotate_left
            · (intro wY _; go_simp; try with_reducible rfl)
            try simp only [Act.put]
            try simp only [List.setIfInBounds_toArray]
            try simp only [List.set_cons_succ]
            try simp only [List.set_cons_zero]
            refine wpAnyH_ready (rs := [1, 7]) (by kernel_rfl) (by simp) ?_
            refine AllReadyH.cons rfl (fun K hK => ?_) ?_
            · go_simp
              refine hK.out _ _ trivial (fun _ => ?_)
              clear hK K
              refine wpAnyH_ready (rs := [7]) (by kernel_rfl) (by simp) ?_
              refine AllReadyH.cons rfl (fun K hK => ?_) ?_
              · go_simp
                refine hK.out _ _ trivial (fun _ => ?_)
                clear hK K
                refine wpAnyH_ready (rs := [8]) (by kernel_rfl) (by simp) ?_
                refine AllReadyH.cons rfl (fun K hK => ?_) ?_
                · (refine step_append_bind rfl _ _ 24 rfl (pb + 1) Tryz.underlying24 Tryz.infoBind' lo cap ys rfl D4.bo w3.heap.size (BI.mk oa on oc o K' N S za zn zc z) rfl (bind_news w3 (BI.mk oa on oc o K' N S za zn zc z)) NEW4 NEW.nd HAP (by omega) hsz4 ?_; intro lo' cap' w5 hb5 hg5; have D5 := D4.push hg5 hb5 hsz4 hlt; have kp5 := (Only.of_grown hg5).kept D4.pbox (fun hc => by have := (D4.bo.row.lt pb (mem_blkL.2 hc)).1; omega); obtain ⟨⟨qc0, qc1, qc2, qc3, qc4⟩, pf0, pf1, pf2, pf3, pf4⟩ := cells5 kp5)
                  refine hK.out _ _ trivial (fun _ => ?_)
                  clear hK K
                  refine wpAnyH_take (i := 9) (oi := _) (v := ?_) rfl (by kernel_rfl) (by kernel_rfl) (by kernel_rfl) (fun _ _ _ h => h) (Or.inl ⟨by rfl, ?_⟩) trivial ?_
                  rotate_left
                  · (intro wY _; go_simp; try with_reducible rfl)
                  try simp only [Act.put]
                  try simp only [List.setIfInBounds_toArray]
                  try simp only [List.set_cons_succ]
                  try simp only [List.set_cons_zero]
                  refine wpAnyH_ready (rs := [10]) (by kernel_rfl) (by simp) ?_
                  refine AllReadyH.cons rfl (fun K hK => ?_) ?_
                  · go_simp
                    refine hK.out _ _ trivial (fun _ => ?_)
                    clear hK K
                    refine wpAnyH_done (by kernel_rfl) ?_ _
                    have HD5 := hide D5
                    clear p0 p1 p2 p3 p4 f0 f1 f2 f3 f4 d0 d1 d2 d3 d4 e0 e1 e2 e3 e4 qa0 qa1 qa2 qa3 qa4 qb0 qb1 qb2 qb3 qb4 qc0 qc1 qc2 qc3 qc4 qd0 qd1 qd2 qd3 qd4 pf0 pf1 pf2 pf3 pf4
                    go_wp2
                    go_roundw
                    case rel => exact ⟨m - 1, a, b, _, lo', cap', by go_num, by simp; omega, HD5.out⟩
                    case measure => simp [intOf]; omega
                  exact AllReadyH.nil

                exact AllReadyH.nil

              exact AllReadyH.nil

            refine AllReadyH.cons rfl (fun K hK => ?_) ?_
            · go_simp
              refine hK.out _ _ trivial (fun _ => ?_)
              clear hK K
              refine wpAnyH_ready (rs := [1]) (by kernel_rfl) (by simp) ?_
              refine AllReadyH.cons rfl (fun K hK => ?_) ?_
              · go_simp
                refine hK.out _ _ trivial (fun _ => ?_)
                clear hK K
                refine wpAnyH_ready (rs := [8]) (by kernel_rfl) (by simp) ?_
                refine AllReadyH.cons rfl (fun K hK => ?_) ?_
                · (refine step_append_bind rfl _ _ 24 rfl (pb + 1) Tryz.underlying24 Tryz.infoBind' lo cap ys rfl D4.bo w3.heap.size (BI.mk oa on oc o K' N S za zn zc z) rfl (bind_news w3 (BI.mk oa on oc o K' N S za zn zc z)) NEW4 NEW.nd HAP (by omega) hsz4 ?_; intro lo' cap' w5 hb5 hg5; have D5 := D4.push hg5 hb5 hsz4 hlt; have kp5 := (Only.of_grown hg5).kept D4.pbox (fun hc => by have := (D4.bo.row.lt pb (mem_blkL.2 hc)).1; omega); obtain ⟨⟨qc0, qc1, qc2, qc3, qc4⟩, pf0, pf1, pf2, pf3, pf4⟩ := cells5 kp5)
                  refine hK.out _ _ trivial (fun _ => ?_)
                  clear hK K
                  refine wpAnyH_take (i := 9) (oi := _) (v := ?_) rfl (by kernel_rfl) (by kernel_rfl) (by kernel_rfl) (fun _ _ _ h => h) (Or.inl ⟨by rfl, ?_⟩) trivial ?_
                  rotate_left
                  · (intro wY _; go_simp; try with_reducible rfl)
                  try simp only [Act.put]
                  try simp only [List.setIfInBounds_toArray]
                  try simp only [List.set_cons_succ]
                  try simp only [List.set_cons_zero]
                  refine wpAnyH_ready (rs := [10]) (by kernel_rfl) (by simp) ?_
                  refine AllReadyH.cons rfl (fun K hK => ?_) ?_
                  · go_simp
                    refine hK.out _ _ trivial (fun _ => ?_)
                    clear hK K
                    refine wpAnyH_done (by kernel_rfl) ?_ _
                    have HD5 := hide D5
                    clear p0 p1 p2 p3 p4 f0 f1 f2 f3 f4 d0 d1 d2 d3 d4 e0 e1 e2 e3 e4 qa0 qa1 qa2 qa3 qa4 qb0 qb1 qb2 qb3 qb4 qc0 qc1 qc2 qc3 qc4 qd0 qd1 qd2 qd3 qd4 pf0 pf1 pf2 pf3 pf4
                    go_wp2
                    go_roundw
                    case rel => exact ⟨m - 1, a, b, _, lo', cap', by go_num, by simp; omega, HD5.out⟩
                    case measure => simp [intOf]; omega
                  exact AllReadyH.nil

                exact AllReadyH.nil

              exact AllReadyH.nil

            exact AllReadyH.nil

          exact AllReadyH.nil

        exact AllReadyH.nil

      · have hm0 : m = 0 := by omega
        subst hm0
        have m1 : ¬ pb = w.heap.size := by omega
        go_wp2
        refine bodyPost_ret (v := .agg #[.int .i64 k, .int .i64 id, .int .i64 a, .int .i64 b, .slice lo ys.length cap]) (by simp [results, Tryz.results29, go_sem, *]) rfl ⟨k, id, a, b, ys, lo, cap, rfl, by omega, ?_, ?_⟩
        · refine BOwns.lt (base := pb + 1) ?_ (by omega)
          repeat (refine BOwns.set_below ?_ (by omega))
          exact HDS.out.bo
        · refine HDS.out.went.madeAt (B := w.heap.size) ?_ hlt (Nat.le_refl _)
          repeat (refine below_set ?_ (Nat.le_refl _) _ _)
          exact Below.refl _ _

end Go.Proofs.YtamglfhnhjgdjaaGreatDoor
