/-
  A request that is drawn, by contracts.
  A request that is drawn, right but for its bytes: l4Draw by its contract.
  A request that is drawn, of whatever kind: its state while it is turned.
  A request that is drawn, right or not: l4Any by its contract.
  What is drawn for requests: a request; bytes of one, bent; binds twice.
-/
import Derived.Test.YtjkmagpppfnlpaaGreatDoorBunE
import Derived.Test.YtjkmagpppfnlpaaGreatDoorBunC
import Derived.Test.YtjkmagpppfnlpaaGreatDoorBunH
import Derived.Test.YtjkmagpppfnlpaaGreatDoorBunI
import Derived.Test.YtjkmagpppfnlpaaGreatDoorBunG
import Derived.Deep.RegionHeld3
import Derived.Deep.RegionHeldLaw
import Derived.Laws.AppendOwnNone
namespace Go.Proofs.YtjkmagpppfnlpaaGreatDoor
open Go.RowKit

/-- A request that was drawn: its binds are the call's own. -/
def DrawnP (w w' : World) (C : Nat) (a0 : Option Addr) (l0 c0 : Nat) (z0 : List Int) (e : Ending) : Prop :=
  ∃ (k id a b : Int) (ys : List BI) (lo : Option Addr) (cap : Nat), e = .returned (.agg #[.int .i64 k, .int .i64 id, .int .i64 a, .int .i64 b, .slice lo ys.length cap]) ∧ ys.length ≤ 20 ∧ BOwns w' w.heap.size lo ys.length cap ys ∧ Went w w' C a0 l0 c0 z0

/-- 'append' of one bind to binds that the call owns, as one step of a region that draws its order. -/
theorem step_append_bind {P : Program} {ops : Array Oper} {o : Oper} {a : Act} {w : World} {K : Act → World → Prop} {Q : Exit → Act → World → Prop} {E : Prop} (hgd : o.guard = none)
    (s x : Operand) (t : TypeId) (ho : o.op = Op.call { callee := Callee.builtin Builtin.append, args := #[s, x], argTypes := #[t, t] }) (base : Nat)
    (ht : P.underlying t = some (TypeDesc.slice 84)) (hinfo : (P.info? 84).map (fun i => (i.zero, i.size, i.bytes)) = some (some (.agg #[.slice none 0 0, .int .i64 0, .int .i64 0, .string ⟨#[]⟩, .slice none 0 0]), 5, 80))
    (lo : Option Addr) (cap : Nat) (ys : List BI) (hs : a.eval s = .slice lo ys.length cap) (hb : BOwns w base lo ys.length cap ys) (B : Nat) (y : BI) (hx : a.eval x = .slice (some ⟨B, 0, none⟩) 1 1)
    (hnews : ∀ (j : Nat) (u : Value), y.cs[j]? = some u → w.cell? ((⟨B, 0, none⟩ : Addr).add j) = some u) (hy : BOwn w base y) (hnd : y.blks.Nodup) (hap : ∀ z ∈ ys, ∀ b ∈ z.blks, b ∉ y.blks) (hn : ys.length ≤ 1000) (hbase : base ≤ w.heap.size)
    (h : ∀ lo' cap' w', BOwns w' base lo' (ys ++ [y]).length cap' (ys ++ [y]) → w.grownBy w' (Value.slice lo ys.length cap).ownBlock → K (a.put o.dst (.slice lo' (ys.length + 1) cap')) w') :
    if Region.wanted o (yielded ops a.tmps) = true then Oper.wp P o a w K Q else E := by
  have hw : Region.wanted o (yielded ops a.tmps) = true := by simp [Region.wanted, hgd]
  rw [if_pos hw]
  obtain ⟨i0, hi, hz0, hz1, hz2⟩ := info_parts hinfo
  refine wp_append_own w s x t ho base 84 i0 (.agg #[.slice none 0 0, .int .i64 0, .int .i64 0, .string ⟨#[]⟩, .slice none 0 0]) 5 80 ht hi hz0 hz1 hz2 rfl (by decide) _ ys.length (cBs ys) hs hb.row ⟨B, 0, none⟩ 1 1 y.cs hx rfl hnews (cs_oneCell y) (by unfold maxLen; omega) (by omega) hbase ?_
  intro v' w' how hgr _
  obtain ⟨lo', cap', rfl⟩ := own_slice how
  exact h lo' cap' w' (by simpa using hb.push hy hnd hap hgr how) hgr

/-- The drawing of binds on its way. -/
structure DSt (w wr : World) (pb : Nat) (C : Nat) (a0 : Option Addr) (l0 c0 : Nat) (z0 : List Int) (k id a b : Int) (ys : List BI) (lo : Option Addr) (cap : Nat) : Prop where
  pbox : wr.heap[pb]? = some (.cells #[.int .i64 k, .int .i64 id, .int .i64 a, .int .i64 b, .slice lo ys.length cap] 26)
  rbox : wr.heap[w.heap.size]? = some (.cells #[.int .i64 0, .int .i64 0, .int .i64 0, .int .i64 0, .slice none 0 0] 26)
  bo : BOwns wr (pb + 1) lo ys.length cap ys
  went : Went w wr C a0 l0 c0 z0
  low : w.heap.size < pb

theorem DSt.bind {w wr w2 w3 : World} {pb C : Nat} {a0 : Option Addr} {l0 c0 : Nat} {z0 : List Int} {k id a b : Int} {ys : List BI} {lo : Option Addr} {cap : Nat} (h : DSt w wr pb C a0 l0 c0 z0 k id a b ys lo cap) (hC : C < w.heap.size) (g2 : wr.grownBy w2 (some C)) (g3 : w2.grownBy w3 (some C)) (c3 : Cur w3 C a0 l0 c0 z0) : DSt w w3 pb C a0 l0 c0 z0 k id a b ys lo cap where
  pbox := kept_grown (kept_grown h.pbox g2 (fun j hj => by cases hj; have := h.low; omega)) g3 (fun j hj => by cases hj; have := h.low; omega)
  rbox := kept_grown (kept_grown h.rbox g2 (fun j hj => by cases hj; omega)) g3 (fun j hj => by cases hj; omega)
  bo := by
    have o2 := Only.of_grown (ao := some ⟨C, 0, none⟩) (n := 0) (c := 0) g2
    have o3 := Only.of_grown (ao := some ⟨C, 0, none⟩) (n := 0) (c := 0) g3
    refine (h.bo.only o2 ?_).only o3 ?_ <;> intro j hj hc <;> (have h1 := (h.bo.blk j hj).1; have h2 := h.low; simp [blkL] at hc; omega)
  went := ⟨c3, ⟨(g3.os.trans g2.os).trans h.went.grown.os, (g3.tape.trans g2.tape).trans h.went.grown.tape, (g3.output.trans g2.output).trans h.went.grown.output, Nat.le_trans h.went.grown.size (Nat.le_trans g2.size g3.size), fun j hj hne => ((g3.block j (Nat.lt_of_lt_of_le (Nat.lt_of_lt_of_le hj h.went.grown.size) g2.size) hne).trans (g2.block j (Nat.lt_of_lt_of_le hj h.went.grown.size) hne)).trans (h.went.grown.block j hj hne)⟩⟩
  low := h.low

theorem DSt.below {w wr w2 : World} {pb C : Nat} {a0 : Option Addr} {l0 c0 : Nat} {z0 : List Int} {k id a b : Int} {ys : List BI} {lo : Option Addr} {cap : Nat} (h : DSt w wr pb C a0 l0 c0 z0 k id a b ys lo cap) (hb : Below wr.heap.size wr w2) : DSt w w2 pb C a0 l0 c0 z0 k id a b ys lo cap :=
  ⟨kept_block h.pbox hb, kept_block h.rbox hb, h.bo.below hb, h.went.made hb, h.low⟩

/-- One bind more, stored. -/
theorem DSt.push {w wr w5 : World} {pb C : Nat} {a0 : Option Addr} {l0 c0 : Nat} {z0 : List Int} {k id a b : Int} {ys : List BI} {lo lo' : Option Addr} {cap cap' : Nat} {y : BI} (h : DSt w wr pb C a0 l0 c0 z0 k id a b ys lo cap) (hg : wr.grownBy w5 (Value.slice lo ys.length cap).ownBlock) (hb : BOwns w5 (pb + 1) lo' (ys ++ [y]).length cap' (ys ++ [y])) (hp : pb + 1 ≤ wr.heap.size) (hC : C < w.heap.size) :
    DSt w (w5.setCell ⟨pb, 4, none⟩ (.slice lo' (ys.length + 1) cap')) pb C a0 l0 c0 z0 k id a b (ys ++ [y]) lo' cap' where
  pbox := by
    have O := Only.of_grown hg
    have k5 := O.kept h.pbox (fun hc => by have := (h.bo.row.lt pb (mem_blkL.2 hc)).1; omega)
    have := heap_setCell_same w5 pb 4 _ _ (.slice lo' (ys.length + 1) cap') k5
    simpa using this
  rbox := by
    have O := Only.of_grown hg
    have k5 := O.kept h.rbox (fun hc => by have h1 := (h.bo.row.lt w.heap.size (mem_blkL.2 hc)).1; have := h.low; omega)
    exact kept_set k5 (by have := h.low; omega)
  bo := by simpa using hb.set_below (g := pb) (j := 4) (u := .slice lo' (ys.length + 1) cap') (by omega)
  went := by
    have B5 : Below (pb + 1) wr w5 := (Only.of_grown hg).below hp (fun j hj => (h.bo.row.lt j (mem_blkL.2 hj)).1)
    have hl := h.low
    have h1 := h.went.madeAt B5 (by omega) (by omega)
    exact h1.madeAt (below_set (Below.refl (pb) w5) (Nat.le_refl _) 4 _) (by omega) (by omega)
  low := h.low

theorem drawn_bind {w2 w3 : World} {C : Nat} {oa za : Option Addr} {on oc zn zc : Nat} {o z : List Int} {K N : Int} {S : ByteArray} {base s2 : Nat} (ho : w2.ownsRow base 3 1 (.slice oa on oc) on (cI o)) (hoi : I64s o) (g3 : w2.grownBy w3 (some C)) (hC : C < base) (hz : w3.ownsRow s2 3 1 (.slice za zn zc) zn (cI z)) (hzi : I64s z) (hs : w2.heap.size ≤ s2) (hb : base ≤ w2.heap.size) (hS : S.size ≤ 30) :
    BNew w3 base ⟨oa, on, oc, o, K, N, S, za, zn, zc, z⟩ := by
  refine ⟨⟨?_, own_lt hz (by omega), hoi, hzi, by unfold maxLen; exact Nat.le_trans hS (by omega)⟩, blks_new (x := ⟨oa, on, oc, o, K, N, S, za, zn, zc, z⟩) ho hz hs⟩
  exact own_above ho g3 (by intro k hk; cases hk; exact hC)

theorem apart_new {wr w2 w3 : World} {base base2 s2 : Nat} {x : BI} {oa za : Option Addr} {on oc zn zc : Nat} {o z : List Int} {K N : Int} {S : ByteArray} {us vs : List Value} (hx : BOwn wr base x) (ho : w2.ownsRow base2 3 1 (.slice oa on oc) on us) (hz : w3.ownsRow s2 3 1 (.slice za zn zc) zn vs) (h1 : wr.heap.size ≤ base2) (h2 : wr.heap.size ≤ s2) {b : Nat} (hb : b ∈ x.blks) (hc : b ∈ (BI.mk oa on oc o K N S za zn zc z).blks) : False := by
  have hl := (hx.blk b hb).2
  rcases List.mem_append.1 hc with hc | hc
  · have := (ho.lt b (mem_blkL.2 hc)).1; omega
  · have := (hz.lt b (mem_blkL.2 hc)).1; omega

theorem DSt.set2 {w wr : World} {pb C : Nat} {a0 : Option Addr} {l0 c0 : Nat} {z0 : List Int} {k id a b : Int} {ys : List BI} {lo : Option Addr} {cap : Nat} (h : DSt w wr pb C a0 l0 c0 z0 k id a b ys lo cap) (x : Int) (hC : C < w.heap.size) : DSt w (wr.setCell ⟨pb, 2, none⟩ (.int .i64 x)) pb C a0 l0 c0 z0 k id x b ys lo cap :=
  ⟨by have := heap_setCell_same wr pb 2 _ _ (.int .i64 x) h.pbox; simpa using this, kept_set h.rbox (by have := h.low; omega), h.bo.set_below (by omega), h.went.madeAt (below_set (Below.refl pb wr) (Nat.le_refl _) 2 _) (by have := h.low; omega) (by have := h.low; omega), h.low⟩
theorem DSt.set3 {w wr : World} {pb C : Nat} {a0 : Option Addr} {l0 c0 : Nat} {z0 : List Int} {k id a b : Int} {ys : List BI} {lo : Option Addr} {cap : Nat} (h : DSt w wr pb C a0 l0 c0 z0 k id a b ys lo cap) (x : Int) (hC : C < w.heap.size) : DSt w (wr.setCell ⟨pb, 3, none⟩ (.int .i64 x)) pb C a0 l0 c0 z0 k id a x ys lo cap :=
  ⟨by have := heap_setCell_same wr pb 3 _ _ (.int .i64 x) h.pbox; simpa using this, kept_set h.rbox (by have := h.low; omega), h.bo.set_below (by omega), h.went.madeAt (below_set (Below.refl pb wr) (Nat.le_refl _) 3 _) (by have := h.low; omega) (by have := h.low; omega), h.low⟩

set_option maxRecDepth 100000 in
set_option maxHeartbeats 4000000 in
theorem l4Draw_any (C : Nat) (a0 : Option Addr) (l0 c0 : Nat) (z0 : List Int) (w : World) (hc : Cur w C a0 l0 c0 z0) :
    Calls Tryz.prog 36 #[.pointer (some ⟨C, 0, none⟩)] w fun e w' => DrawnP w w' C a0 l0 c0 z0 e := by
  have hlt := hc.lt
  have q0 := below_one w (.cells #[.int .i64 0, .int .i64 0, .int .i64 0, .int .i64 0, .slice none 0 0] 26)
  have wn0 := Went.start hc q0
  have hk0 := block_last w (.cells #[.int .i64 0, .int .i64 0, .int .i64 0, .int .i64 0, .slice none 0 0] 26)
  go_enter Tryz.func36, Tryz.ntmps36
  go_wp2_with fail
  refine (pick_any C a0 l0 c0 z0 [160, 161, 162, 163, 165] (w.heap.size + 1) 5 (w.alloc (.cells #[.int .i64 0, .int .i64 0, .int .i64 0, .int .i64 0, .slice none 0 0] 26)) wn0.cur (by simp) rfl (by omega) (by omega)).mono ?_
  rintro e w1 ⟨k, -, rfl, went1⟩
  have wn1 := wn0.trans went1
  have k1 := kept_grown hk0 went1.grown (fun j hj => by cases hj; omega)
  clear wn0 went1 hk0
  go_wp2_with fail
  refine (num_any C a0 l0 c0 z0 _ wn1.cur).mono ?_
  rintro e w2 ⟨x2, rfl, -, -, went2⟩
  have wn2 := wn1.trans went2
  have k2 := kept_grown k1 went2.grown (fun j hj => by cases hj; omega)
  clear wn1 went2 k1
  go_wp2_with fail
  refine (clip_any x2 _).mono ?_
  rintro e w3 ⟨rfl, rfl⟩
  have hw3 : w.heap.size < w3.heap.size := (Array.getElem?_eq_some_iff.1 k2).1
  have q3 := below_one w3 (.cells #[.int .i64 k, .int .i64 (clip x2), .int .i64 0, .int .i64 0, .slice none 0 0] 26)
  have DP : DSt w (w3.alloc (.cells #[.int .i64 k, .int .i64 (clip x2), .int .i64 0, .int .i64 0, .slice none 0 0] 26)) w3.heap.size C a0 l0 c0 z0 k (clip x2) 0 0 [] none 0 := ⟨block_last w3 _, kept_block k2 q3, bowns_nil _ _, wn2.made q3, hw3⟩
  have HDP := hide DP
  have kk : ((k == 162) = true) ∨ ((k == 162) = false ∧ (k == 165) = true) ∨ ((k == 162) = false ∧ (k == 165) = false) := by
    cases h1 : (k == 162)
    · cases h2 : (k == 165)
      · exact .inr (.inr ⟨rfl, rfl⟩)
      · exact .inr (.inl ⟨rfl, rfl⟩)
    · exact .inl rfl
  obtain ⟨⟨s0, s1, s2, s3, s4⟩, -⟩ := cells5 DP.pbox
  generalize hid : clip x2 = id at *
  clear DP wn2 k2 hid
  rcases kk with t1 | ⟨t1, t2⟩ | ⟨t1, t2⟩
  · go_wp2_with fail
    generalize hwp : (w3.alloc (.cells #[.int .i64 k, .int .i64 id, .int .i64 0, .int .i64 0, .slice none 0 0] 26)) = wp at *
    clear hwp
    generalize hpb : w3.heap.size = pb at *
    clear hpb s0 s1 s2 s3 s4
    refine (below_any C a0 l0 c0 z0 4 _ HDP.out.went.cur (by omega)).mono ?_
    rintro e w4 ⟨xa, rfl, -, -, -, went4⟩
    have D4 := HDP.out.bind hlt (World.grownBy.refl _ _) went4.grown went4.cur
    obtain ⟨⟨p0, p1, p2, p3, p4⟩, f0, f1, f2, f3, f4⟩ := cells5 D4.pbox
    have D4a := D4.set2 xa hlt
    have HD4 := hide D4a
    clear D4 D4a HDP went4
    go_wp2_with fail
    generalize (w4.setCell ⟨pb, 2, none⟩ (.int .i64 xa)) = w4a at *
    refine (below_any C a0 l0 c0 z0 5 _ HD4.out.went.cur (by omega)).mono ?_
    rintro e w5 ⟨xb, rfl, -, -, -, went5⟩
    have D5 := HD4.out.bind hlt (World.grownBy.refl _ _) went5.grown went5.cur
    clear p0 p1 p2 p3 p4 f0 f1 f2 f3 f4
    obtain ⟨⟨p0, p1, p2, p3, p4⟩, f0, f1, f2, f3, f4⟩ := cells5 D5.pbox
    have HSP := hide (D5.set3 xb hlt)
    clear D5 HD4 went5
    go_wp2_with fail
    generalize (w5.setCell ⟨pb, 3, none⟩ (.int .i64 xb)) = w5a at *
    clear p0 p1 p2 p3 p4 f0 f1 f2 f3 f4
    refine (below_any C a0 l0 c0 z0 4 _ HSP.out.went.cur (by omega)).mono ?_
    rintro e w8 ⟨x8, rfl, hx8, hx8', -, went8⟩
    have hx8'' := hx8' (by omega)
    obtain ⟨mx, rfl⟩ : ∃ m : Nat, x8 = m := ⟨x8.toNat, by omega⟩
    have D8 := HSP.out.bind hlt (World.grownBy.refl _ _) went8.grown went8.cur
    have HST := hide D8
    clear D8 HSP went8 hx8' q0
    go_wp2
    go_loopw [4] (fun i wr => ∃ (m : Nat) (a b : Int) (ys : List BI) (lo : Option Addr) (cap : Nat), i = .int .i64 m ∧ ys.length + m ≤ 3 ∧ DSt w wr pb C a0 l0 c0 z0 k id a b ys lo cap) (fun i _ => (intOf i).toNat)
    case atStart => exact ⟨mx, _, _, [], none, 0, rfl, by simp; omega, HST.out⟩
    case round =>
      obtain ⟨m, a, b, ys, lo, cap, rfl, hml, DS⟩ := hrel
      have HDS := hide DS
      have hpl := DS.low
      obtain ⟨⟨p0, p1, p2, p3, p4⟩, f0, f1, f2, f3, f4⟩ := cells5 DS.pbox
      obtain ⟨⟨d0, d1, d2, d3, d4⟩, e0, e1, e2, e3, e4⟩ := cells5 DS.rbox
      clear DS HST
      by_cases hm : 0 < m
      · go_wp2_with fail
        refine wp_region_held_drew (S := fun _ => True) (by kernel_rfl) trivial (fun _ => ?_)
        refine wpAnyH_take (i := 0) (oi := _) (v := ?_) rfl (by kernel_rfl) (by kernel_rfl) (by kernel_rfl) (fun _ _ _ h => h) (Or.inl ⟨by rfl, ?_⟩) trivial ?_
        rotate_left
        · (intro wY _; go_simp; try with_reducible rfl)
        try simp only [Act.put]
        try simp only [List.setIfInBounds_toArray]
        try simp only [List.set_cons_succ]
        try simp only [List.set_cons_zero]
        refine wpAnyH_take (i := 2) (oi := _) (v := ?_) rfl (by kernel_rfl) (by kernel_rfl) (by kernel_rfl) (fun _ _ _ h => h) (Or.inl ⟨by rfl, ?_⟩) trivial ?_
        rotate_left
        · (intro wY _; go_simp; try with_reducible rfl)
        try simp only [Act.put]
        try simp only [List.setIfInBounds_toArray]
        try simp only [List.set_cons_succ]
        try simp only [List.set_cons_zero]
        refine wpAnyH_take (i := 4) (oi := _) (v := ?_) rfl (by kernel_rfl) (by kernel_rfl) (by kernel_rfl) (fun _ _ _ h => h) (Or.inl ⟨by rfl, ?_⟩) trivial ?_
        rotate_left
        · (intro wY _; go_simp; try with_reducible rfl)
        try simp only [Act.put]
        try simp only [List.setIfInBounds_toArray]
        try simp only [List.set_cons_succ]
        try simp only [List.set_cons_zero]
        refine wpAnyH_ready (rs := [1, 3]) (by kernel_rfl) (by simp) ?_
        refine AllReadyH.cons rfl (fun K hK => ?_) ?_
        · go_simp
          refine hK.out _ _ trivial (fun _ => ?_)
          clear hK K
          refine wpAnyH_ready (rs := [3]) (by kernel_rfl) (by simp) ?_
          refine AllReadyH.cons rfl (fun K hK => ?_) ?_
          · go_simp
            go_wp2_with (go_at_call 52; refine (oidDraw_any C a0 l0 c0 z0 _ (HDS.out.went.cur.below (below_drewN (Below.refl _ _) _))).mono ?_; rintro e w2 ⟨oa, on, oc, o, rfl, hlo2, hhi2, hol2, hok2, how2, went2⟩; have g2 : wr.grownBy w2 (some C) := ⟨went2.grown.os, went2.grown.tape, went2.grown.output, went2.grown.size, went2.grown.block⟩; have kp2 := kept_grown HDS.out.pbox g2 (fun j hj => by cases hj; omega); obtain ⟨⟨qa0, qa1, qa2, qa3, qa4⟩, -⟩ := cells5 kp2)
            refine hK.out _ _ trivial (fun _ => ?_)
            clear hK K
            refine wpAnyH_ready (rs := [5]) (by kernel_rfl) (by simp) ?_
            refine AllReadyH.cons rfl (fun K hK => ?_) ?_
            · go_simp
              go_wp2_with (go_at_call 70; refine (l3Draw_any C a0 l0 c0 z0 _ went2.cur).mono ?_; rintro e w3 ⟨K', N, S, za, zn, zc, z, rfl, hS3', hn3, hz3, hzi3, how3, went3⟩; have kp3 := kept_grown kp2 went3.grown (fun j hj => by cases hj; omega); obtain ⟨⟨qb0, qb1, qb2, qb3, qb4⟩, -⟩ := cells5 kp3; have D3 := HDS.out.bind hlt g2 went3.grown went3.cur; have hpw : pb + 1 ≤ wr.heap.size := (Array.getElem?_eq_some_iff.1 HDS.out.pbox).1; have NEW := drawn_bind (K := K') (N := N) (S := S) (own_lt how2 (base' := pb + 1) hpw) hok2.i64 went3.grown (by omega) how3 hzi3 (Nat.le_refl _) (Nat.le_trans hpw g2.size) hS3'; have D4 := D3.below (below_one w3 (.cells #[.slice oa on oc, .int .i64 K', .int .i64 N, .string S, .slice za zn zc] 84)); obtain ⟨⟨qd0, qd1, qd2, qd3, qd4⟩, -⟩ := cells5 D4.pbox; have NEW4 := NEW.own.below (below_one w3 (.cells #[.slice oa on oc, .int .i64 K', .int .i64 N, .string S, .slice za zn zc] 84)); have HAP : ∀ z' ∈ ys, ∀ b' ∈ z'.blks, b' ∉ (BI.mk oa on oc o K' N S za zn zc z).blks := (fun z' hz' b' hb' hc => apart_new (HDS.out.bo.item z' hz') how2 how3 (Nat.le_refl _) g2.size hb' hc); have hsz4 : pb + 1 ≤ (w3.alloc (.cells #[.slice oa on oc, .int .i64 K', .int .i64 N, .string S, .slice za zn zc] 84)).heap.size := (by have h1 := g2.size; have h2 := went3.grown.size; simp; omega))
              refine hK.out _ _ trivial (fun _ => ?_)
              clear hK K
              refine wpAnyH_take (i := 6) (oi := _) (v := ?_) rfl (by kernel_rfl) (by kernel_rfl) (by kernel_rfl) (fun _ _ _ h => h) (Or.inl ⟨by rfl, ?_⟩) trivial ?_
              rotate_left
              · (intro wY _; go_simp; try with_reducible rfl)
              try simp only [Act.put]
              try simp only [List.setIfInBounds_toArray]
              try simp only [List.set_cons_succ]
              try simp only [List.set_cons_zero]
              refine wpAnyH_ready (rs := [7]) (by kernel_rfl) (by simp) ?_
              refine AllReadyH.cons rfl (fun K hK => ?_) ?_
              · go_simp
                refine hK.out _ _ trivial (fun _ => ?_)
                clear hK K
                refine wpAnyH_ready (rs := [8]) (by kernel_rfl) (by simp) ?_
                refine AllReadyH.cons rfl (fun K hK => ?_) ?_
                · (refine step_append_bind rfl _ _ 24 rfl (pb + 1) Tryz.underlying24 Tryz.infoBind' lo cap ys rfl D4.bo w3.heap.size (BI.mk oa on oc o K' N S za zn zc z) rfl (bind_news w3 (BI.mk oa on oc o K' N S za zn zc z)) NEW4 NEW.nd HAP (by omega) hsz4 ?_; intro lo' cap' w5 hb5 hg5; have D5 := D4.push hg5 hb5 hsz4 hlt; have kp5 := (Only.of_grown hg5).kept D4.pbox (fun hc => by have := (D4.bo.row.lt pb (mem_blkL.2 hc)).1; omega); obtain ⟨⟨qc0, qc1, qc2, qc3, qc4⟩, pf0, pf1, pf2, pf3, pf4⟩ := cells5 kp5)
                  refine hK.out _ _ trivial (fun _ => ?_)
                  clear hK K
                  refine wpAnyH_take (i := 9) (oi := _) (v := ?_) rfl (by kernel_rfl) (by kernel_rfl) (by kernel_rfl) (fun _ _ _ h => h) (Or.inl ⟨by rfl, ?_⟩) trivial ?_
                  rotate_left
                  · (intro wY _; go_simp; try with_reducible rfl)
                  try simp only [Act.put]
                  try simp only [List.setIfInBounds_toArray]
                  try simp only [List.set_cons_succ]
                  try simp only [List.set_cons_zero]
                  refine wpAnyH_ready (rs := [10]) (by kernel_rfl) (by simp) ?_
                  refine AllReadyH.cons rfl (fun K hK => ?_) ?_
                  · go_simp
                    refine hK.out _ _ trivial (fun _ => ?_)
                    clear hK K
                    refine wpAnyH_done (by kernel_rfl) ?_ _
                    have HD5 := hide D5
                    clear p0 p1 p2 p3 p4 f0 f1 f2 f3 f4 d0 d1 d2 d3 d4 e0 e1 e2 e3 e4 qa0 qa1 qa2 qa3 qa4 qb0 qb1 qb2 qb3 qb4 qc0 qc1 qc2 qc3 qc4 qd0 qd1 qd2 qd3 qd4 pf0 pf1 pf2 pf3 pf4
                    go_wp2
                    go_roundw
                    case rel => exact ⟨m - 1, a, b, _, lo', cap', by go_num, by simp; omega, HD5.out⟩
                    case measure => simp [intOf]; omega
                  exact AllReadyH.nil

                exact AllReadyH.nil

              exact AllReadyH.nil

            exact AllReadyH.nil

          exact AllReadyH.nil

        refine AllReadyH.cons rfl (fun K hK => ?_) ?_
        · go_simp
          go_wp2_with (go_at_call 52; refine (oidDraw_any C a0 l0 c0 z0 _ (HDS.out.went.cur.below (below_drewN (Below.refl _ _) _))).mono ?_; rintro e w2 ⟨oa, on, oc, o, rfl, hlo2, hhi2, hol2, hok2, how2, went2⟩; have g2 : wr.grownBy w2 (some C) := ⟨went2.grown.os, went2.grown.tape, went2.grown.output, went2.grown.size, went2.grown.block⟩; have kp2 := kept_grown HDS.out.pbox g2 (fun j hj => by cases hj; omega); obtain ⟨⟨qa0, qa1, qa2, qa3, qa4⟩, -⟩ := cells5 kp2)
          refine hK.out _ _ trivial (fun _ => ?_)
          clear hK K
          refine wpAnyH_ready (rs := [1, 5]) (by kernel_rfl) (by simp) ?_
          refine AllReadyH.cons rfl (fun K hK => ?_) ?_
          · go_simp
            refine hK.out _ _ trivial (fun _ => ?_)
            clear hK K
            refine wpAnyH_ready (rs := [5]) (by kernel_rfl) (by simp) ?_
            refine AllReadyH.cons rfl (fun K hK => ?_) ?_
            · go_simp
              go_wp2_with (go_at_call 70; refine (l3Draw_any C a0 l0 c0 z0 _ went2.cur).mono ?_; rintro e w3 ⟨K', N, S, za, zn, zc, z, rfl, hS3', hn3, hz3, hzi3, how3, went3⟩; have kp3 := kept_grown kp2 went3.grown (fun j hj => by cases hj; omega); obtain ⟨⟨qb0, qb1, qb2, qb3, qb4⟩, -⟩ := cells5 kp3; have D3 := HDS.out.bind hlt g2 went3.grown went3.cur; have hpw : pb + 1 ≤ wr.heap.size := (Array.getElem?_eq_some_iff.1 HDS.out.pbox).1; have NEW := drawn_bind (K := K') (N := N) (S := S) (own_lt how2 (base' := pb + 1) hpw) hok2.i64 went3.grown (by omega) how3 hzi3 (Nat.le_refl _) (Nat.le_trans hpw g2.size) hS3'; have D4 := D3.below (below_one w3 (.cells #[.slice oa on oc, .int .i64 K', .int .i64 N, .string S, .slice za zn zc] 84)); obtain ⟨⟨qd0, qd1, qd2, qd3, qd4⟩, -⟩ := cells5 D4.pbox; have NEW4 := NEW.own.below (below_one w3 (.cells #[.slice oa on oc, .int .i64 K', .int .i64 N, .string S, .slice za zn zc] 84)); have HAP : ∀ z' ∈ ys, ∀ b' ∈ z'.blks, b' ∉ (BI.mk oa on oc o K' N S za zn zc z).blks := (fun z' hz' b' hb' hc => apart_new (HDS.out.bo.item z' hz') how2 how3 (Nat.le_refl _) g2.size hb' hc); have hsz4 : pb + 1 ≤ (w3.alloc (.cells #[.slice oa on oc, .int .i64 K', .int .i64 N, .string S, .slice za zn zc] 84)).heap.size := (by have h1 := g2.size; have h2 := went3.grown.size; simp; omega))
              refine hK.out _ _ trivial (fun _ => ?_)
              clear hK K
              refine wpAnyH_take (i := 6) (oi := _) (v := ?_) rfl (by kernel_rfl) (by kernel_rfl) (by kernel_rfl) (fun _ _ _ h => h) (Or.inl ⟨by rfl, ?_⟩) trivial ?_
              rotate_left
              · (intro wY _; go_simp; try with_reducible rfl)
              try simp only [Act.put]
              try simp only [List.setIfInBounds_toArray]
              try simp only [List.set_cons_succ]
              try simp only [List.set_cons_zero]
              refine wpAnyH_ready (rs := [7]) (by kernel_rfl) (by simp) ?_
              refine AllReadyH.cons rfl (fun K hK => ?_) ?_
              · go_simp
                refine hK.out _ _ trivial (fun _ => ?_)
                clear hK K
                refine wpAnyH_ready (rs := [8]) (by kernel_rfl) (by simp) ?_
                refine AllReadyH.cons rfl (fun K hK => ?_) ?_
                · (refine step_append_bind rfl _ _ 24 rfl (pb + 1) Tryz.underlying24 Tryz.infoBind' lo cap ys rfl D4.bo w3.heap.size (BI.mk oa on oc o K' N S za zn zc z) rfl (bind_news w3 (BI.mk oa on oc o K' N S za zn zc z)) NEW4 NEW.nd HAP (by omega) hsz4 ?_; intro lo' cap' w5 hb5 hg5; have D5 := D4.push hg5 hb5 hsz4 hlt; have kp5 := (Only.of_grown hg5).kept D4.pbox (fun hc => by have := (D4.bo.row.lt pb (mem_blkL.2 hc)).1; omega); obtain ⟨⟨qc0, qc1, qc2, qc3, qc4⟩, pf0, pf1, pf2, pf3, pf4⟩ := cells5 kp5)
                  refine hK.out _ _ trivial (fun _ => ?_)
                  clear hK K
                  refine wpAnyH_take (i := 9) (oi := _) (v := ?_) rfl (by kernel_rfl) (by kernel_rfl) (by kernel_rfl) (fun _ _ _ h => h) (Or.inl ⟨by rfl, ?_⟩) trivial ?_
                  rotate_left
                  · (intro wY _; go_simp; try with_reducible rfl)
                  try simp only [Act.put]
                  try simp only [List.setIfInBounds_toArray]
                  try simp only [List.set_cons_succ]
                  try simp only [List.set_cons_zero]
                  refine wpAnyH_ready (rs := [10]) (by kernel_rfl) (by simp) ?_
                  refine AllReadyH.cons rfl (fun K hK => ?_) ?_
                  · go_simp
                    refine hK.out _ _ trivial (fun _ => ?_)
                    clear hK K
                    refine wpAnyH_done (by kernel_rfl) ?_ _
                    have HD5 := hide D5
                    clear p0 p1 p2 p3 p4 f0 f1 f2 f3 f4 d0 d1 d2 d3 d4 e0 e1 e2 e3 e4 qa0 qa1 qa2 qa3 qa4 qb0 qb1 qb2 qb3 qb4 qc0 qc1 qc2 qc3 qc4 qd0 qd1 qd2 qd3 qd4 pf0 pf1 pf2 pf3 pf4
                    go_wp2
                    go_roundw
                    case rel => exact ⟨m - 1, a, b, _, lo', cap', by go_num, by simp; omega, HD5.out⟩
                    case measure => simp [intOf]; omega
                  exact AllReadyH.nil

                exact AllReadyH.nil

              exact AllReadyH.nil

            exact AllReadyH.nil

          refine AllReadyH.cons rfl (fun K hK => ?_) ?_
          · go_simp
            go_wp2_with (go_at_call 70; refine (l3Draw_any C a0 l0 c0 z0 _ went2.cur).mono ?_; rintro e w3 ⟨K', N, S, za, zn, zc, z, rfl, hS3', hn3, hz3, hzi3, how3, went3⟩; have kp3 := kept_grown kp2 went3.grown (fun j hj => by cases hj; omega); obtain ⟨⟨qb0, qb1, qb2, qb3, qb4⟩, -⟩ := cells5 kp3; have D3 := HDS.out.bind hlt g2 went3.grown went3.cur; have hpw : pb + 1 ≤ wr.heap.size := (Array.getElem?_eq_some_iff.1 HDS.out.pbox).1; have NEW := drawn_bind (K := K') (N := N) (S := S) (own_lt how2 (base' := pb + 1) hpw) hok2.i64 went3.grown (by omega) how3 hzi3 (Nat.le_refl _) (Nat.le_trans hpw g2.size) hS3'; have D4 := D3.below (below_one w3 (.cells #[.slice oa on oc, .int .i64 K', .int .i64 N, .string S, .slice za zn zc] 84)); obtain ⟨⟨qd0, qd1, qd2, qd3, qd4⟩, -⟩ := cells5 D4.pbox; have NEW4 := NEW.own.below (below_one w3 (.cells #[.slice oa on oc, .int .i64 K', .int .i64 N, .string S, .slice za zn zc] 84)); have HAP : ∀ z' ∈ ys, ∀ b' ∈ z'.blks, b' ∉ (BI.mk oa on oc o K' N S za zn zc z).blks := (fun z' hz' b' hb' hc => apart_new (HDS.out.bo.item z' hz') how2 how3 (Nat.le_refl _) g2.size hb' hc); have hsz4 : pb + 1 ≤ (w3.alloc (.cells #[.slice oa on oc, .int .i64 K', .int .i64 N, .string S, .slice za zn zc] 84)).heap.size := (by have h1 := g2.size; have h2 := went3.grown.size; simp; omega))
            refine hK.out _ _ trivial (fun _ => ?_)
            clear hK K
            refine wpAnyH_take (i := 6) (oi := _) (v := ?_) rfl (by kernel_rfl) (by kernel_rfl) (by kernel_rfl) (fun _ _ _ h => h) (Or.inl ⟨by rfl, ?_⟩) trivial ?_
            rotate_left
            · (intro wY _; go_simp; try with_reducible rfl)
            try simp only [Act.put]
            try simp only [List.setIfInBounds_toArray]
            try simp only [List.set_cons_succ]
            try simp only [List.set_cons_zero]
            refine wpAnyH_ready (rs := [1, 7]) (by kernel_rfl) (by simp) ?_
            refine AllReadyH.cons rfl (fun K hK => ?_) ?_
            · go_simp
              refine hK.out _ _ trivial (fun _ => ?_)
              clear hK K
              refine wpAnyH_ready (rs := [7]) (by kernel_rfl) (by simp) ?_
              refine AllReadyH.cons rfl (fun K hK => ?_) ?_
              · go_simp
                refine hK.out _ _ trivial (fun _ => ?_)
                clear hK K
                refine wpAnyH_ready (rs := [8]) (by kernel_rfl) (by simp) ?_
                refine AllReadyH.cons rfl (fun K hK => ?_) ?_
                · (refine step_append_bind rfl _ _ 24 rfl (pb + 1) Tryz.underlying24 Tryz.infoBind' lo cap ys rfl D4.bo w3.heap.size (BI.mk oa on oc o K' N S za zn zc z) rfl (bind_news w3 (BI.mk oa on oc o K' N S za zn zc z)) NEW4 NEW.nd HAP (by omega) hsz4 ?_; intro lo' cap' w5 hb5 hg5; have D5 := D4.push hg5 hb5 hsz4 hlt; have kp5 := (Only.of_grown hg5).kept D4.pbox (fun hc => by have := (D4.bo.row.lt pb (mem_blkL.2 hc)).1; omega); obtain ⟨⟨qc0, qc1, qc2, qc3, qc4⟩, pf0, pf1, pf2, pf3, pf4⟩ := cells5 kp5)
                  refine hK.out _ _ trivial (fun _ => ?_)
                  clear hK K
                  refine wpAnyH_take (i := 9) (oi := _) (v := ?_) rfl (by kernel_rfl) (by kernel_rfl) (by kernel_rfl) (fun _ _ _ h => h) (Or.inl ⟨by rfl, ?_⟩) trivial ?_
                  rotate_left
                  · (intro wY _; go_simp; try with_reducible rfl)
                  try simp only [Act.put]
                  try simp only [List.setIfInBounds_toArray]
                  try simp only [List.set_cons_succ]
                  try simp only [List.set_cons_zero]
                  refine wpAnyH_ready (rs := [10]) (by kernel_rfl) (by simp) ?_
                  refine AllReadyH.cons rfl (fun K hK => ?_) ?_
                  · go_simp
                    refine hK.out _ _ trivial (fun _ => ?_)
                    clear hK K
                    refine wpAnyH_done (by kernel_rfl) ?_ _
                    have HD5 := hide D5
                    clear p0 p1 p2 p3 p4 f0 f1 f2 f3 f4 d0 d1 d2 d3 d4 e0 e1 e2 e3 e4 qa0 qa1 qa2 qa3 qa4 qb0 qb1 qb2 qb3 qb4 qc0 qc1 qc2 qc3 qc4 qd0 qd1 qd2 qd3 qd4 pf0 pf1 pf2 pf3 pf4
                    go_wp2
                    go_roundw
                    case rel => exact ⟨m - 1, a, b, _, lo', cap', by go_num, by simp; omega, HD5.out⟩
                    case measure => simp [intOf]; omega
                  exact AllReadyH.nil

                exact AllReadyH.nil

              exact AllReadyH.nil

            refine AllReadyH.cons rfl (fun K hK => ?_) ?_
            · go_simp
              refine hK.out _ _ trivial (fun _ => ?_)
              clear hK K
              refine wpAnyH_ready (rs := [1]) (by kernel_rfl) (by simp) ?_
              refine AllReadyH.cons rfl (fun K hK => ?_) ?_
              · go_simp
                refine hK.out _ _ trivial (fun _ => ?_)
                clear hK K
                refine wpAnyH_ready (rs := [8]) (by kernel_rfl) (by simp) ?_
                refine AllReadyH.cons rfl (fun K hK => ?_) ?_
                · (refine step_append_bind rfl _ _ 24 rfl (pb + 1) Tryz.underlying24 Tryz.infoBind' lo cap ys rfl D4.bo w3.heap.size (BI.mk oa on oc o K' N S za zn zc z) rfl (bind_news w3 (BI.mk oa on oc o K' N S za zn zc z)) NEW4 NEW.nd HAP (by omega) hsz4 ?_; intro lo' cap' w5 hb5 hg5; have D5 := D4.push hg5 hb5 hsz4 hlt; have kp5 := (Only.of_grown hg5).kept D4.pbox (fun hc => by have := (D4.bo.row.lt pb (mem_blkL.2 hc)).1; omega); obtain ⟨⟨qc0, qc1, qc2, qc3, qc4⟩, pf0, pf1, pf2, pf3, pf4⟩ := cells5 kp5)
                  refine hK.out _ _ trivial (fun _ => ?_)
                  clear hK K
                  refine wpAnyH_take (i := 9) (oi := _) (v := ?_) rfl (by kernel_rfl) (by kernel_rfl) (by kernel_rfl) (fun _ _ _ h => h) (Or.inl ⟨by rfl, ?_⟩) trivial ?_
                  rotate_left
                  · (intro wY _; go_simp; try with_reducible rfl)
                  try simp only [Act.put]
                  try simp only [List.setIfInBounds_toArray]
                  try simp only [List.set_cons_succ]
                  try simp only [List.set_cons_zero]
                  refine wpAnyH_ready (rs := [10]) (by kernel_rfl) (by simp) ?_
                  refine AllReadyH.cons rfl (fun K hK => ?_) ?_
                  · go_simp
                    refine hK.out _ _ trivial (fun _ => ?_)
                    clear hK K
                    refine wpAnyH_done (by kernel_rfl) ?_ _
                    have HD5 := hide D5
                    clear p0 p1 p2 p3 p4 f0 f1 f2 f3 f4 d0 d1 d2 d3 d4 e0 e1 e2 e3 e4 qa0 qa1 qa2 qa3 qa4 qb0 qb1 qb2 qb3 qb4 qc0 qc1 qc2 qc3 qc4 qd0 qd1 qd2 qd3 qd4 pf0 pf1 pf2 pf3 pf4
                    go_wp2
                    go_roundw
                    case rel => exact ⟨m - 1, a, b, _, lo', cap', by go_num, by simp; omega, HD5.out⟩
                    case measure => simp [intOf]; omega
                  exact AllReadyH.nil

                exact AllReadyH.nil

              exact AllReadyH.nil

            exact AllReadyH.nil

          exact AllReadyH.nil

        exact AllReadyH.nil

      · have hm0 : m = 0 := by omega
        subst hm0
        have m1 : ¬ pb = w.heap.size := by omega
        go_wp2
        refine bodyPost_ret (v := .agg #[.int .i64 k, .int .i64 id, .int .i64 a, .int .i64 b, .slice lo ys.length cap]) (by simp [results, Tryz.results36, go_sem, *]) rfl ⟨k, id, a, b, ys, lo, cap, rfl, by omega, ?_, ?_⟩
        · refine BOwns.lt (base := pb + 1) ?_ (by omega)
          repeat (refine BOwns.set_below ?_ (by omega))
          exact HDS.out.bo
        · refine HDS.out.went.madeAt (B := w.heap.size) ?_ hlt (Nat.le_refl _)
          repeat (refine below_set ?_ (Nat.le_refl _) _ _)
          exact Below.refl _ _
  · go_wp2_with fail
    generalize hwp : (w3.alloc (.cells #[.int .i64 k, .int .i64 id, .int .i64 0, .int .i64 0, .slice none 0 0] 26)) = wp at *
    clear hwp
    generalize hpb : w3.heap.size = pb at *
    clear hpb s0 s1 s2 s3 s4
    refine (below_any C a0 l0 c0 z0 4 _ HDP.out.went.cur (by omega)).mono ?_
    rintro e w4 ⟨xa, rfl, -, -, -, went4⟩
    have D4 := HDP.out.bind hlt (World.grownBy.refl _ _) went4.grown went4.cur
    obtain ⟨⟨p0, p1, p2, p3, p4⟩, f0, f1, f2, f3, f4⟩ := cells5 D4.pbox
    have D4a := D4.set2 xa hlt
    have HD4 := hide D4a
    clear D4 D4a HDP went4
    go_wp2_with fail
    generalize (w4.setCell ⟨pb, 2, none⟩ (.int .i64 xa)) = w4a at *
    refine (below_any C a0 l0 c0 z0 5 _ HD4.out.went.cur (by omega)).mono ?_
    rintro e w5 ⟨xb, rfl, -, -, -, went5⟩
    have D5 := HD4.out.bind hlt (World.grownBy.refl _ _) went5.grown went5.cur
    clear p0 p1 p2 p3 p4 f0 f1 f2 f3 f4
    obtain ⟨⟨p0, p1, p2, p3, p4⟩, f0, f1, f2, f3, f4⟩ := cells5 D5.pbox
    have HSP := hide (D5.set3 xb hlt)
    clear D5 HD4 went5
    go_wp2_with fail
    generalize (w5.setCell ⟨pb, 3, none⟩ (.int .i64 xb)) = w5a at *
    clear p0 p1 p2 p3 p4 f0 f1 f2 f3 f4
    refine (below_any C a0 l0 c0 z0 4 _ HSP.out.went.cur (by omega)).mono ?_
    rintro e w8 ⟨x8, rfl, hx8, hx8', -, went8⟩
    have hx8'' := hx8' (by omega)
    obtain ⟨mx, rfl⟩ : ∃ m : Nat, x8 = m := ⟨x8.toNat, by omega⟩
    have D8 := HSP.out.bind hlt (World.grownBy.refl _ _) went8.grown went8.cur
    have HST := hide D8
    clear D8 HSP went8 hx8' q0
    go_wp2
    go_loopw [4] (fun i wr => ∃ (m : Nat) (a b : Int) (ys : List BI) (lo : Option Addr) (cap : Nat), i = .int .i64 m ∧ ys.length + m ≤ 3 ∧ DSt w wr pb C a0 l0 c0 z0 k id a b ys lo cap) (fun i _ => (intOf i).toNat)
    case atStart => exact ⟨mx, _, _, [], none, 0, rfl, by simp; omega, HST.out⟩
    case round =>
      obtain ⟨m, a, b, ys, lo, cap, rfl, hml, DS⟩ := hrel
      have HDS := hide DS
      have hpl := DS.low
      obtain ⟨⟨p0, p1, p2, p3, p4⟩, f0, f1, f2, f3, f4⟩ := cells5 DS.pbox
      obtain ⟨⟨d0, d1, d2, d3, d4⟩, e0, e1, e2, e3, e4⟩ := cells5 DS.rbox
      clear DS HST
      by_cases hm : 0 < m
      · go_wp2_with fail
        refine wp_region_held_drew (S := fun _ => True) (by kernel_rfl) trivial (fun _ => ?_)
        refine wpAnyH_take (i := 0) (oi := _) (v := ?_) rfl (by kernel_rfl) (by kernel_rfl) (by kernel_rfl) (fun _ _ _ h => h) (Or.inl ⟨by rfl, ?_⟩) trivial ?_
        rotate_left
        · (intro wY _; go_simp; try with_reducible rfl)
        try simp only [Act.put]
        try simp only [List.setIfInBounds_toArray]
        try simp only [List.set_cons_succ]
        try simp only [List.set_cons_zero]
        refine wpAnyH_take (i := 2) (oi := _) (v := ?_) rfl (by kernel_rfl) (by kernel_rfl) (by kernel_rfl) (fun _ _ _ h => h) (Or.inl ⟨by rfl, ?_⟩) trivial ?_
        rotate_left
        · (intro wY _; go_simp; try with_reducible rfl)
        try simp only [Act.put]
        try simp only [List.setIfInBounds_toArray]
        try simp only [List.set_cons_succ]
        try simp only [List.set_cons_zero]
        refine wpAnyH_take (i := 4) (oi := _) (v := ?_) rfl (by kernel_rfl) (by kernel_rfl) (by kernel_rfl) (fun _ _ _ h => h) (Or.inl ⟨by rfl, ?_⟩) trivial ?_
        rotate_left
        · (intro wY _; go_simp; try with_reducible rfl)
        try simp only [Act.put]
        try simp only [List.setIfInBounds_toArray]
        try simp only [List.set_cons_succ]
        try simp only [List.set_cons_zero]
        refine wpAnyH_ready (rs := [1, 3]) (by kernel_rfl) (by simp) ?_
        refine AllReadyH.cons rfl (fun K hK => ?_) ?_
        · go_simp
          refine hK.out _ _ trivial (fun _ => ?_)
          clear hK K
          refine wpAnyH_ready (rs := [3]) (by kernel_rfl) (by simp) ?_
          refine AllReadyH.cons rfl (fun K hK => ?_) ?_
          · go_simp
            go_wp2_with (go_at_call 52; refine (oidDraw_any C a0 l0 c0 z0 _ (HDS.out.went.cur.below (below_drewN (Below.refl _ _) _))).mono ?_; rintro e w2 ⟨oa, on, oc, o, rfl, hlo2, hhi2, hol2, hok2, how2, went2⟩; have g2 : wr.grownBy w2 (some C) := ⟨went2.grown.os, went2.grown.tape, went2.grown.output, went2.grown.size, went2.grown.block⟩; have kp2 := kept_grown HDS.out.pbox g2 (fun j hj => by cases hj; omega); obtain ⟨⟨qa0, qa1, qa2, qa3, qa4⟩, -⟩ := cells5 kp2)
            refine hK.out _ _ trivial (fun _ => ?_)
            clear hK K
            refine wpAnyH_ready (rs := [5]) (by kernel_rfl) (by simp) ?_
            refine AllReadyH.cons rfl (fun K hK => ?_) ?_
            · go_simp
              go_wp2_with (go_at_call 70; refine (l3Draw_any C a0 l0 c0 z0 _ went2.cur).mono ?_; rintro e w3 ⟨K', N, S, za, zn, zc, z, rfl, hS3', hn3, hz3, hzi3, how3, went3⟩; have kp3 := kept_grown kp2 went3.grown (fun j hj => by cases hj; omega); obtain ⟨⟨qb0, qb1, qb2, qb3, qb4⟩, -⟩ := cells5 kp3; have D3 := HDS.out.bind hlt g2 went3.grown went3.cur; have hpw : pb + 1 ≤ wr.heap.size := (Array.getElem?_eq_some_iff.1 HDS.out.pbox).1; have NEW := drawn_bind (K := K') (N := N) (S := S) (own_lt how2 (base' := pb + 1) hpw) hok2.i64 went3.grown (by omega) how3 hzi3 (Nat.le_refl _) (Nat.le_trans hpw g2.size) hS3'; have D4 := D3.below (below_one w3 (.cells #[.slice oa on oc, .int .i64 K', .int .i64 N, .string S, .slice za zn zc] 84)); obtain ⟨⟨qd0, qd1, qd2, qd3, qd4⟩, -⟩ := cells5 D4.pbox; have NEW4 := NEW.own.below (below_one w3 (.cells #[.slice oa on oc, .int .i64 K', .int .i64 N, .string S, .slice za zn zc] 84)); have HAP : ∀ z' ∈ ys, ∀ b' ∈ z'.blks, b' ∉ (BI.mk oa on oc o K' N S za zn zc z).blks := (fun z' hz' b' hb' hc => apart_new (HDS.out.bo.item z' hz') how2 how3 (Nat.le_refl _) g2.size hb' hc); have hsz4 : pb + 1 ≤ (w3.alloc (.cells #[.slice oa on oc, .int .i64 K', .int .i64 N, .string S, .slice za zn zc] 84)).heap.size := (by have h1 := g2.size; have h2 := went3.grown.size; simp; omega))
              refine hK.out _ _ trivial (fun _ => ?_)
              clear hK K
              refine wpAnyH_take (i := 6) (oi := _) (v := ?_) rfl (by kernel_rfl) (by kernel_rfl) (by kernel_rfl) (fun _ _ _ h => h) (Or.inl ⟨by rfl, ?_⟩) trivial ?_
              rotate_left
              · (intro wY _; go_simp; try with_reducible rfl)
              try simp only [Act.put]
              try simp only [List.setIfInBounds_toArray]
              try simp only [List.set_cons_succ]
              try simp only [List.set_cons_zero]
              refine wpAnyH_ready (rs := [7]) (by kernel_rfl) (by simp) ?_
              refine AllReadyH.cons rfl (fun K hK => ?_) ?_
              · go_simp
                refine hK.out _ _ trivial (fun _ => ?_)
                clear hK K
                refine wpAnyH_ready (rs := [8]) (by kernel_rfl) (by simp) ?_
                refine AllReadyH.cons rfl (fun K hK => ?_) ?_
                · (refine step_append_bind rfl _ _ 24 rfl (pb + 1) Tryz.underlying24 Tryz.infoBind' lo cap ys rfl D4.bo w3.heap.size (BI.mk oa on oc o K' N S za zn zc z) rfl (bind_news w3 (BI.mk oa on oc o K' N S za zn zc z)) NEW4 NEW.nd HAP (by omega) hsz4 ?_; intro lo' cap' w5 hb5 hg5; have D5 := D4.push hg5 hb5 hsz4 hlt; have kp5 := (Only.of_grown hg5).kept D4.pbox (fun hc => by have := (D4.bo.row.lt pb (mem_blkL.2 hc)).1; omega); obtain ⟨⟨qc0, qc1, qc2, qc3, qc4⟩, pf0, pf1, pf2, pf3, pf4⟩ := cells5 kp5)
                  refine hK.out _ _ trivial (fun _ => ?_)
                  clear hK K
                  refine wpAnyH_take (i := 9) (oi := _) (v := ?_) rfl (by kernel_rfl) (by kernel_rfl) (by kernel_rfl) (fun _ _ _ h => h) (Or.inl ⟨by rfl, ?_⟩) trivial ?_
                  rotate_left
                  · (intro wY _; go_simp; try with_reducible rfl)
                  try simp only [Act.put]
                  try simp only [List.setIfInBounds_toArray]
                  try simp only [List.set_cons_succ]
                  try simp only [List.set_cons_zero]
                  refine wpAnyH_ready (rs := [10]) (by kernel_rfl) (by simp) ?_
                  refine AllReadyH.cons rfl (fun K hK => ?_) ?_
                  · go_simp
                    refine hK.out _ _ trivial (fun _ => ?_)
                    clear hK K
                    refine wpAnyH_done (by kernel_rfl) ?_ _
                    have HD5 := hide D5
                    clear p0 p1 p2 p3 p4 f0 f1 f2 f3 f4 d0 d1 d2 d3 d4 e0 e1 e2 e3 e4 qa0 qa1 qa2 qa3 qa4 qb0 qb1 qb2 qb3 qb4 qc0 qc1 qc2 qc3 qc4 qd0 qd1 qd2 qd3 qd4 pf0 pf1 pf2 pf3 pf4
                    go_wp2
                    go_roundw
                    case rel => exact ⟨m - 1, a, b, _, lo', cap', by go_num, by simp; omega, HD5.out⟩
                    case measure => simp [intOf]; omega
                  exact AllReadyH.nil

                exact AllReadyH.nil

              exact AllReadyH.nil

            exact AllReadyH.nil

          exact AllReadyH.nil

        refine AllReadyH.cons rfl (fun K hK => ?_) ?_
        · go_simp
          go_wp2_with (go_at_call 52; refine (oidDraw_any C a0 l0 c0 z0 _ (HDS.out.went.cur.below (below_drewN (Below.refl _ _) _))).mono ?_; rintro e w2 ⟨oa, on, oc, o, rfl, hlo2, hhi2, hol2, hok2, how2, went2⟩; have g2 : wr.grownBy w2 (some C) := ⟨went2.grown.os, went2.grown.tape, went2.grown.output, went2.grown.size, went2.grown.block⟩; have kp2 := kept_grown HDS.out.pbox g2 (fun j hj => by cases hj; omega); obtain ⟨⟨qa0, qa1, qa2, qa3, qa4⟩, -⟩ := cells5 kp2)
          refine hK.out _ _ trivial (fun _ => ?_)
          clear hK K
          refine wpAnyH_ready (rs := [1, 5]) (by kernel_rfl) (by simp) ?_
          refine AllReadyH.cons rfl (fun K hK => ?_) ?_
          · go_simp
            refine hK.out _ _ trivial (fun _ => ?_)
            clear hK K
            refine wpAnyH_ready (rs := [5]) (by kernel_rfl) (by simp) ?_
            refine AllReadyH.cons rfl (fun K hK => ?_) ?_
            · go_simp
              go_wp2_with (go_at_call 70; refine (l3Draw_any C a0 l0 c0 z0 _ went2.cur).mono ?_; rintro e w3 ⟨K', N, S, za, zn, zc, z, rfl, hS3', hn3, hz3, hzi3, how3, went3⟩; have kp3 := kept_grown kp2 went3.grown (fun j hj => by cases hj; omega); obtain ⟨⟨qb0, qb1, qb2, qb3, qb4⟩, -⟩ := cells5 kp3; have D3 := HDS.out.bind hlt g2 went3.grown went3.cur; have hpw : pb + 1 ≤ wr.heap.size := (Array.getElem?_eq_some_iff.1 HDS.out.pbox).1; have NEW := drawn_bind (K := K') (N := N) (S := S) (own_lt how2 (base' := pb + 1) hpw) hok2.i64 went3.grown (by omega) how3 hzi3 (Nat.le_refl _) (Nat.le_trans hpw g2.size) hS3'; have D4 := D3.below (below_one w3 (.cells #[.slice oa on oc, .int .i64 K', .int .i64 N, .string S, .slice za zn zc] 84)); obtain ⟨⟨qd0, qd1, qd2, qd3, qd4⟩, -⟩ := cells5 D4.pbox; have NEW4 := NEW.own.below (below_one w3 (.cells #[.slice oa on oc, .int .i64 K', .int .i64 N, .string S, .slice za zn zc] 84)); have HAP : ∀ z' ∈ ys, ∀ b' ∈ z'.blks, b' ∉ (BI.mk oa on oc o K' N S za zn zc z).blks := (fun z' hz' b' hb' hc => apart_new (HDS.out.bo.item z' hz') how2 how3 (Nat.le_refl _) g2.size hb' hc); have hsz4 : pb + 1 ≤ (w3.alloc (.cells #[.slice oa on oc, .int .i64 K', .int .i64 N, .string S, .slice za zn zc] 84)).heap.size := (by have h1 := g2.size; have h2 := went3.grown.size; simp; omega))
              refine hK.out _ _ trivial (fun _ => ?_)
              clear hK K
              refine wpAnyH_take (i := 6) (oi := _) (v := ?_) rfl (by kernel_rfl) (by kernel_rfl) (by kernel_rfl) (fun _ _ _ h => h) (Or.inl ⟨by rfl, ?_⟩) trivial ?_
              rotate_left
              · (intro wY _; go_simp; try with_reducible rfl)
              try simp only [Act.put]
              try simp only [List.setIfInBounds_toArray]
              try simp only [List.set_cons_succ]
              try simp only [List.set_cons_zero]
              refine wpAnyH_ready (rs := [7]) (by kernel_rfl) (by simp) ?_
              refine AllReadyH.cons rfl (fun K hK => ?_) ?_
              · go_simp
                refine hK.out _ _ trivial (fun _ => ?_)
                clear hK K
                refine wpAnyH_ready (rs := [8]) (by kernel_rfl) (by simp) ?_
                refine AllReadyH.cons rfl (fun K hK => ?_) ?_
                · (refine step_append_bind rfl _ _ 24 rfl (pb + 1) Tryz.underlying24 Tryz.infoBind' lo cap ys rfl D4.bo w3.heap.size (BI.mk oa on oc o K' N S za zn zc z) rfl (bind_news w3 (BI.mk oa on oc o K' N S za zn zc z)) NEW4 NEW.nd HAP (by omega) hsz4 ?_; intro lo' cap' w5 hb5 hg5; have D5 := D4.push hg5 hb5 hsz4 hlt; have kp5 := (Only.of_grown hg5).kept D4.pbox (fun hc => by have := (D4.bo.row.lt pb (mem_blkL.2 hc)).1; omega); obtain ⟨⟨qc0, qc1, qc2, qc3, qc4⟩, pf0, pf1, pf2, pf3, pf4⟩ := cells5 kp5)
                  refine hK.out _ _ trivial (fun _ => ?_)
                  clear hK K
                  refine wpAnyH_take (i := 9) (oi := _) (v := ?_) rfl (by kernel_rfl) (by kernel_rfl) (by kernel_rfl) (fun _ _ _ h => h) (Or.inl ⟨by rfl, ?_⟩) trivial ?_
                  rotate_left
                  · (intro wY _; go_simp; try with_reducible rfl)
                  try simp only [Act.put]
                  try simp only [List.setIfInBounds_toArray]
                  try simp only [List.set_cons_succ]
                  try simp only [List.set_cons_zero]
                  refine wpAnyH_ready (rs := [10]) (by kernel_rfl) (by simp) ?_
                  refine AllReadyH.cons rfl (fun K hK => ?_) ?_
                  · go_simp
                    refine hK.out _ _ trivial (fun _ => ?_)
                    clear hK K
                    refine wpAnyH_done (by kernel_rfl) ?_ _
                    have HD5 := hide D5
                    clear p0 p1 p2 p3 p4 f0 f1 f2 f3 f4 d0 d1 d2 d3 d4 e0 e1 e2 e3 e4 qa0 qa1 qa2 qa3 qa4 qb0 qb1 qb2 qb3 qb4 qc0 qc1 qc2 qc3 qc4 qd0 qd1 qd2 qd3 qd4 pf0 pf1 pf2 pf3 pf4
                    go_wp2
                    go_roundw
                    case rel => exact ⟨m - 1, a, b, _, lo', cap', by go_num, by simp; omega, HD5.out⟩
                    case measure => simp [intOf]; omega
                  exact AllReadyH.nil

                exact AllReadyH.nil

              exact AllReadyH.nil

            exact AllReadyH.nil

          refine AllReadyH.cons rfl (fun K hK => ?_) ?_
          · go_simp
            go_wp2_with (go_at_call 70; refine (l3Draw_any C a0 l0 c0 z0 _ went2.cur).mono ?_; rintro e w3 ⟨K', N, S, za, zn, zc, z, rfl, hS3', hn3, hz3, hzi3, how3, went3⟩; have kp3 := kept_grown kp2 went3.grown (fun j hj => by cases hj; omega); obtain ⟨⟨qb0, qb1, qb2, qb3, qb4⟩, -⟩ := cells5 kp3; have D3 := HDS.out.bind hlt g2 went3.grown went3.cur; have hpw : pb + 1 ≤ wr.heap.size := (Array.getElem?_eq_some_iff.1 HDS.out.pbox).1; have NEW := drawn_bind (K := K') (N := N) (S := S) (own_lt how2 (base' := pb + 1) hpw) hok2.i64 went3.grown (by omega) how3 hzi3 (Nat.le_refl _) (Nat.le_trans hpw g2.size) hS3'; have D4 := D3.below (below_one w3 (.cells #[.slice oa on oc, .int .i64 K', .int .i64 N, .string S, .slice za zn zc] 84)); obtain ⟨⟨qd0, qd1, qd2, qd3, qd4⟩, -⟩ := cells5 D4.pbox; have NEW4 := NEW.own.below (below_one w3 (.cells #[.slice oa on oc, .int .i64 K', .int .i64 N, .string S, .slice za zn zc] 84)); have HAP : ∀ z' ∈ ys, ∀ b' ∈ z'.blks, b' ∉ (BI.mk oa on oc o K' N S za zn zc z).blks := (fun z' hz' b' hb' hc => apart_new (HDS.out.bo.item z' hz') how2 how3 (Nat.le_refl _) g2.size hb' hc); have hsz4 : pb + 1 ≤ (w3.alloc (.cells #[.slice oa on oc, .int .i64 K', .int .i64 N, .string S, .slice za zn zc] 84)).heap.size := (by have h1 := g2.size; have h2 := went3.grown.size; simp; omega))
            refine hK.out _ _ trivial (fun _ => ?_)
            clear hK K
            refine wpAnyH_take (i := 6) (oi := _) (v := ?_) rfl (by kernel_rfl) (by kernel_rfl) (by kernel_rfl) (fun _ _ _ h => h) (Or.inl ⟨by rfl, ?_⟩) trivial ?_
            rotate_left
            · (intro wY _; go_simp; try with_reducible rfl)
            try simp only [Act.put]
            try simp only [List.setIfInBounds_toArray]
            try simp only [List.set_cons_succ]
            try simp only [List.set_cons_zero]
            refine wpAnyH_ready (rs := [1, 7]) (by kernel_rfl) (by simp) ?_
            refine AllReadyH.cons rfl (fun K hK => ?_) ?_
            · go_simp
              refine hK.out _ _ trivial (fun _ => ?_)
              clear hK K
              refine wpAnyH_ready (rs := [7]) (by kernel_rfl) (by simp) ?_
              refine AllReadyH.cons rfl (fun K hK => ?_) ?_
              · go_simp
                refine hK.out _ _ trivial (fun _ => ?_)
                clear hK K
                refine wpAnyH_ready (rs := [8]) (by kernel_rfl) (by simp) ?_
                refine AllReadyH.cons rfl (fun K hK => ?_) ?_
                · (refine step_append_bind rfl _ _ 24 rfl (pb + 1) Tryz.underlying24 Tryz.infoBind' lo cap ys rfl D4.bo w3.heap.size (BI.mk oa on oc o K' N S za zn zc z) rfl (bind_news w3 (BI.mk oa on oc o K' N S za zn zc z)) NEW4 NEW.nd HAP (by omega) hsz4 ?_; intro lo' cap' w5 hb5 hg5; have D5 := D4.push hg5 hb5 hsz4 hlt; have kp5 := (Only.of_grown hg5).kept D4.pbox (fun hc => by have := (D4.bo.row.lt pb (mem_blkL.2 hc)).1; omega); obtain ⟨⟨qc0, qc1, qc2, qc3, qc4⟩, pf0, pf1, pf2, pf3, pf4⟩ := cells5 kp5)
                  refine hK.out _ _ trivial (fun _ => ?_)
                  clear hK K
                  refine wpAnyH_take (i := 9) (oi := _) (v := ?_) rfl (by kernel_rfl) (by kernel_rfl) (by kernel_rfl) (fun _ _ _ h => h) (Or.inl ⟨by rfl, ?_⟩) trivial ?_
                  rotate_left
                  · (intro wY _; go_simp; try with_reducible rfl)
                  try simp only [Act.put]
                  try simp only [List.setIfInBounds_toArray]
                  try simp only [List.set_cons_succ]
                  try simp only [List.set_cons_zero]
                  refine wpAnyH_ready (rs := [10]) (by kernel_rfl) (by simp) ?_
                  refine AllReadyH.cons rfl (fun K hK => ?_) ?_
                  · go_simp
                    refine hK.out _ _ trivial (fun _ => ?_)
                    clear hK K
                    refine wpAnyH_done (by kernel_rfl) ?_ _
                    have HD5 := hide D5
                    clear p0 p1 p2 p3 p4 f0 f1 f2 f3 f4 d0 d1 d2 d3 d4 e0 e1 e2 e3 e4 qa0 qa1 qa2 qa3 qa4 qb0 qb1 qb2 qb3 qb4 qc0 qc1 qc2 qc3 qc4 qd0 qd1 qd2 qd3 qd4 pf0 pf1 pf2 pf3 pf4
                    go_wp2
                    go_roundw
                    case rel => exact ⟨m - 1, a, b, _, lo', cap', by go_num, by simp; omega, HD5.out⟩
                    case measure => simp [intOf]; omega
                  exact AllReadyH.nil

                exact AllReadyH.nil

              exact AllReadyH.nil

            refine AllReadyH.cons rfl (fun K hK => ?_) ?_
            · go_simp
              refine hK.out _ _ trivial (fun _ => ?_)
              clear hK K
              refine wpAnyH_ready (rs := [1]) (by kernel_rfl) (by simp) ?_
              refine AllReadyH.cons rfl (fun K hK => ?_) ?_
              · go_simp
                refine hK.out _ _ trivial (fun _ => ?_)
                clear hK K
                refine wpAnyH_ready (rs := [8]) (by kernel_rfl) (by simp) ?_
                refine AllReadyH.cons rfl (fun K hK => ?_) ?_
                · (refine step_append_bind rfl _ _ 24 rfl (pb + 1) Tryz.underlying24 Tryz.infoBind' lo cap ys rfl D4.bo w3.heap.size (BI.mk oa on oc o K' N S za zn zc z) rfl (bind_news w3 (BI.mk oa on oc o K' N S za zn zc z)) NEW4 NEW.nd HAP (by omega) hsz4 ?_; intro lo' cap' w5 hb5 hg5; have D5 := D4.push hg5 hb5 hsz4 hlt; have kp5 := (Only.of_grown hg5).kept D4.pbox (fun hc => by have := (D4.bo.row.lt pb (mem_blkL.2 hc)).1; omega); obtain ⟨⟨qc0, qc1, qc2, qc3, qc4⟩, pf0, pf1, pf2, pf3, pf4⟩ := cells5 kp5)
                  refine hK.out _ _ trivial (fun _ => ?_)
                  clear hK K
                  refine wpAnyH_take (i := 9) (oi := _) (v := ?_) rfl (by kernel_rfl) (by kernel_rfl) (by kernel_rfl) (fun _ _ _ h => h) (Or.inl ⟨by rfl, ?_⟩) trivial ?_
                  rotate_left
                  · (intro wY _; go_simp; try with_reducible rfl)
                  try simp only [Act.put]
                  try simp only [List.setIfInBounds_toArray]
                  try simp only [List.set_cons_succ]
                  try simp only [List.set_cons_zero]
                  refine wpAnyH_ready (rs := [10]) (by kernel_rfl) (by simp) ?_
                  refine AllReadyH.cons rfl (fun K hK => ?_) ?_
                  · go_simp
                    refine hK.out _ _ trivial (fun _ => ?_)
                    clear hK K
                    refine wpAnyH_done (by kernel_rfl) ?_ _
                    have HD5 := hide D5
                    clear p0 p1 p2 p3 p4 f0 f1 f2 f3 f4 d0 d1 d2 d3 d4 e0 e1 e2 e3 e4 qa0 qa1 qa2 qa3 qa4 qb0 qb1 qb2 qb3 qb4 qc0 qc1 qc2 qc3 qc4 qd0 qd1 qd2 qd3 qd4 pf0 pf1 pf2 pf3 pf4
                    go_wp2
                    go_roundw
                    case rel => exact ⟨m - 1, a, b, _, lo', cap', by go_num, by simp; omega, HD5.out⟩
                    case measure => simp [intOf]; omega
                  exact AllReadyH.nil

                exact AllReadyH.nil

              exact AllReadyH.nil

            exact AllReadyH.nil

          exact AllReadyH.nil

        exact AllReadyH.nil

      · have hm0 : m = 0 := by omega
        subst hm0
        have m1 : ¬ pb = w.heap.size := by omega
        go_wp2
        refine bodyPost_ret (v := .agg #[.int .i64 k, .int .i64 id, .int .i64 a, .int .i64 b, .slice lo ys.length cap]) (by simp [results, Tryz.results36, go_sem, *]) rfl ⟨k, id, a, b, ys, lo, cap, rfl, by omega, ?_, ?_⟩
        · refine BOwns.lt (base := pb + 1) ?_ (by omega)
          repeat (refine BOwns.set_below ?_ (by omega))
          exact HDS.out.bo
        · refine HDS.out.went.madeAt (B := w.heap.size) ?_ hlt (Nat.le_refl _)
          repeat (refine below_set ?_ (Nat.le_refl _) _ _)
          exact Below.refl _ _
  · go_wp2_with fail
    generalize hwp : (w3.alloc (.cells #[.int .i64 k, .int .i64 id, .int .i64 0, .int .i64 0, .slice none 0 0] 26)) = wp at *
    clear hwp
    generalize hpb : w3.heap.size = pb at *
    clear hpb s0 s1 s2 s3 s4
    have HSP := HDP
    clear HDP
    refine (below_any C a0 l0 c0 z0 4 _ HSP.out.went.cur (by omega)).mono ?_
    rintro e w8 ⟨x8, rfl, hx8, hx8', -, went8⟩
    have hx8'' := hx8' (by omega)
    obtain ⟨mx, rfl⟩ : ∃ m : Nat, x8 = m := ⟨x8.toNat, by omega⟩
    have D8 := HSP.out.bind hlt (World.grownBy.refl _ _) went8.grown went8.cur
    have HST := hide D8
    clear D8 HSP went8 hx8' q0
    go_wp2
    go_loopw [4] (fun i wr => ∃ (m : Nat) (a b : Int) (ys : List BI) (lo : Option Addr) (cap : Nat), i = .int .i64 m ∧ ys.length + m ≤ 3 ∧ DSt w wr pb C a0 l0 c0 z0 k id a b ys lo cap) (fun i _ => (intOf i).toNat)
    case atStart => exact ⟨mx, _, _, [], none, 0, rfl, by simp; omega, HST.out⟩
    case round =>
      obtain ⟨m, a, b, ys, lo, cap, rfl, hml, DS⟩ := hrel
      have HDS := hide DS
      have hpl := DS.low
      obtain ⟨⟨p0, p1, p2, p3, p4⟩, f0, f1, f2, f3, f4⟩ := cells5 DS.pbox
      obtain ⟨⟨d0, d1, d2, d3, d4⟩, e0, e1, e2, e3, e4⟩ := cells5 DS.rbox
      clear DS HST
      by_cases hm : 0 < m
      · go_wp2_with fail
        refine wp_region_held_drew (S := fun _ => True) (by kernel_rfl) trivial (fun _ => ?_)
        refine wpAnyH_take (i := 0) (oi := _) (v := ?_) rfl (by kernel_rfl) (by kernel_rfl) (by kernel_rfl) (fun _ _ _ h => h) (Or.inl ⟨by rfl, ?_⟩) trivial ?_
        rotate_left
        · (intro wY _; go_simp; try with_reducible rfl)
        try simp only [Act.put]
        try simp only [List.setIfInBounds_toArray]
        try simp only [List.set_cons_succ]
        try simp only [List.set_cons_zero]
        refine wpAnyH_take (i := 2) (oi := _) (v := ?_) rfl (by kernel_rfl) (by kernel_rfl) (by kernel_rfl) (fun _ _ _ h => h) (Or.inl ⟨by rfl, ?_⟩) trivial ?_
        rotate_left
        · (intro wY _; go_simp; try with_reducible rfl)
        try simp only [Act.put]
        try simp only [List.setIfInBounds_toArray]
        try simp only [List.set_cons_succ]
        try simp only [List.set_cons_zero]
        refine wpAnyH_take (i := 4) (oi := _) (v := ?_) rfl (by kernel_rfl) (by kernel_rfl) (by kernel_rfl) (fun _ _ _ h => h) (Or.inl ⟨by rfl, ?_⟩) trivial ?_
        rotate_left
        · (intro wY _; go_simp; try with_reducible rfl)
        try simp only [Act.put]
        try simp only [List.setIfInBounds_toArray]
        try simp only [List.set_cons_succ]
        try simp only [List.set_cons_zero]
        refine wpAnyH_ready (rs := [1, 3]) (by kernel_rfl) (by simp) ?_
        refine AllReadyH.cons rfl (fun K hK => ?_) ?_
        · go_simp
          refine hK.out _ _ trivial (fun _ => ?_)
          clear hK K
          refine wpAnyH_ready (rs := [3]) (by kernel_rfl) (by simp) ?_
          refine AllReadyH.cons rfl (fun K hK => ?_) ?_
          · go_simp
            go_wp2_with (go_at_call 52; refine (oidDraw_any C a0 l0 c0 z0 _ (HDS.out.went.cur.below (below_drewN (Below.refl _ _) _))).mono ?_; rintro e w2 ⟨oa, on, oc, o, rfl, hlo2, hhi2, hol2, hok2, how2, went2⟩; have g2 : wr.grownBy w2 (some C) := ⟨went2.grown.os, went2.grown.tape, went2.grown.output, went2.grown.size, went2.grown.block⟩; have kp2 := kept_grown HDS.out.pbox g2 (fun j hj => by cases hj; omega); obtain ⟨⟨qa0, qa1, qa2, qa3, qa4⟩, -⟩ := cells5 kp2)
            refine hK.out _ _ trivial (fun _ => ?_)
            clear hK K
            refine wpAnyH_ready (rs := [5]) (by kernel_rfl) (by simp) ?_
            refine AllReadyH.cons rfl (fun K hK => ?_) ?_
            · go_simp
              go_wp2_with (go_at_call 70; refine (l3Draw_any C a0 l0 c0 z0 _ went2.cur).mono ?_; rintro e w3 ⟨K', N, S, za, zn, zc, z, rfl, hS3', hn3, hz3, hzi3, how3, went3⟩; have kp3 := kept_grown kp2 went3.grown (fun j hj => by cases hj; omega); obtain ⟨⟨qb0, qb1, qb2, qb3, qb4⟩, -⟩ := cells5 kp3; have D3 := HDS.out.bind hlt g2 went3.grown went3.cur; have hpw : pb + 1 ≤ wr.heap.size := (Array.getElem?_eq_some_iff.1 HDS.out.pbox).1; have NEW := drawn_bind (K := K') (N := N) (S := S) (own_lt how2 (base' := pb + 1) hpw) hok2.i64 went3.grown (by omega) how3 hzi3 (Nat.le_refl _) (Nat.le_trans hpw g2.size) hS3'; have D4 := D3.below (below_one w3 (.cells #[.slice oa on oc, .int .i64 K', .int .i64 N, .string S, .slice za zn zc] 84)); obtain ⟨⟨qd0, qd1, qd2, qd3, qd4⟩, -⟩ := cells5 D4.pbox; have NEW4 := NEW.own.below (below_one w3 (.cells #[.slice oa on oc, .int .i64 K', .int .i64 N, .string S, .slice za zn zc] 84)); have HAP : ∀ z' ∈ ys, ∀ b' ∈ z'.blks, b' ∉ (BI.mk oa on oc o K' N S za zn zc z).blks := (fun z' hz' b' hb' hc => apart_new (HDS.out.bo.item z' hz') how2 how3 (Nat.le_refl _) g2.size hb' hc); have hsz4 : pb + 1 ≤ (w3.alloc (.cells #[.slice oa on oc, .int .i64 K', .int .i64 N, .string S, .slice za zn zc] 84)).heap.size := (by have h1 := g2.size; have h2 := went3.grown.size; simp; omega))
              refine hK.out _ _ trivial (fun _ => ?_)
              clear hK K
              refine wpAnyH_take (i := 6) (oi := _) (v := ?_) rfl (by kernel_rfl) (by kernel_rfl) (by kernel_rfl) (fun _ _ _ h => h) (Or.inl ⟨by rfl, ?_⟩) trivial ?_
              rotate_left
              · (intro wY _; go_simp; try with_reducible rfl)
              try simp only [Act.put]
              try simp only [List.setIfInBounds_toArray]
              try simp only [List.set_cons_succ]
              try simp only [List.set_cons_zero]
              refine wpAnyH_ready (rs := [7]) (by kernel_rfl) (by simp) ?_
              refine AllReadyH.cons rfl (fun K hK => ?_) ?_
              · go_simp
                refine hK.out _ _ trivial (fun _ => ?_)
                clear hK K
                refine wpAnyH_ready (rs := [8]) (by kernel_rfl) (by simp) ?_
                refine AllReadyH.cons rfl (fun K hK => ?_) ?_
                · (refine step_append_bind rfl _ _ 24 rfl (pb + 1) Tryz.underlying24 Tryz.infoBind' lo cap ys rfl D4.bo w3.heap.size (BI.mk oa on oc o K' N S za zn zc z) rfl (bind_news w3 (BI.mk oa on oc o K' N S za zn zc z)) NEW4 NEW.nd HAP (by omega) hsz4 ?_; intro lo' cap' w5 hb5 hg5; have D5 := D4.push hg5 hb5 hsz4 hlt; have kp5 := (Only.of_grown hg5).kept D4.pbox (fun hc => by have := (D4.bo.row.lt pb (mem_blkL.2 hc)).1; omega); obtain ⟨⟨qc0, qc1, qc2, qc3, qc4⟩, pf0, pf1, pf2, pf3, pf4⟩ := cells5 kp5)
                  refine hK.out _ _ trivial (fun _ => ?_)
                  clear hK K
                  refine wpAnyH_take (i := 9) (oi := _) (v := ?_) rfl (by kernel_rfl) (by kernel_rfl) (by kernel_rfl) (fun _ _ _ h => h) (Or.inl ⟨by rfl, ?_⟩) trivial ?_
                  rotate_left
                  · (intro wY _; go_simp; try with_reducible rfl)
                  try simp only [Act.put]
                  try simp only [List.setIfInBounds_toArray]
                  try simp only [List.set_cons_succ]
                  try simp only [List.set_cons_zero]
                  refine wpAnyH_ready (rs := [10]) (by kernel_rfl) (by simp) ?_
                  refine AllReadyH.cons rfl (fun K hK => ?_) ?_
                  · go_simp
                    refine hK.out _ _ trivial (fun _ => ?_)
                    clear hK K
                    refine wpAnyH_done (by kernel_rfl) ?_ _
                    have HD5 := hide D5
                    clear p0 p1 p2 p3 p4 f0 f1 f2 f3 f4 d0 d1 d2 d3 d4 e0 e1 e2 e3 e4 qa0 qa1 qa2 qa3 qa4 qb0 qb1 qb2 qb3 qb4 qc0 qc1 qc2 qc3 qc4 qd0 qd1 qd2 qd3 qd4 pf0 pf1 pf2 pf3 pf4
                    go_wp2
                    go_roundw
                    case rel => exact ⟨m - 1, a, b, _, lo', cap', by go_num, by simp; omega, HD5.out⟩
                    case measure => simp [intOf]; omega
                  exact AllReadyH.nil

                exact AllReadyH.nil

              exact AllReadyH.nil

            exact AllReadyH.nil

          exact AllReadyH.nil

        refine AllReadyH.cons rfl (fun K hK => ?_) ?_
        · go_simp
          go_wp2_with (go_at_call 52; refine (oidDraw_any C a0 l0 c0 z0 _ (HDS.out.went.cur.below (below_drewN (Below.refl _ _) _))).mono ?_; rintro e w2 ⟨oa, on, oc, o, rfl, hlo2, hhi2, hol2, hok2, how2, went2⟩; have g2 : wr.grownBy w2 (some C) := ⟨went2.grown.os, went2.grown.tape, went2.grown.output, went2.grown.size, went2.grown.block⟩; have kp2 := kept_grown HDS.out.pbox g2 (fun j hj => by cases hj; omega); obtain ⟨⟨qa0, qa1, qa2, qa3, qa4⟩, -⟩ := cells5 kp2)
          refine hK.out _ _ trivial (fun _ => ?_)
          clear hK K
          refine wpAnyH_ready (rs := [1, 5]) (by kernel_rfl) (by simp) ?_
          refine AllReadyH.cons rfl (fun K hK => ?_) ?_
          · go_simp
            refine hK.out _ _ trivial (fun _ => ?_)
            clear hK K
            refine wpAnyH_ready (rs := [5]) (by kernel_rfl) (by simp) ?_
            refine AllReadyH.cons rfl (fun K hK => ?_) ?_
            · go_simp
              go_wp2_with (go_at_call 70; refine (l3Draw_any C a0 l0 c0 z0 _ went2.cur).mono ?_; rintro e w3 ⟨K', N, S, za, zn, zc, z, rfl, hS3', hn3, hz3, hzi3, how3, went3⟩; have kp3 := kept_grown kp2 went3.grown (fun j hj => by cases hj; omega); obtain ⟨⟨qb0, qb1, qb2, qb3, qb4⟩, -⟩ := cells5 kp3; have D3 := HDS.out.bind hlt g2 went3.grown went3.cur; have hpw : pb + 1 ≤ wr.heap.size := (Array.getElem?_eq_some_iff.1 HDS.out.pbox).1; have NEW := drawn_bind (K := K') (N := N) (S := S) (own_lt how2 (base' := pb + 1) hpw) hok2.i64 went3.grown (by omega) how3 hzi3 (Nat.le_refl _) (Nat.le_trans hpw g2.size) hS3'; have D4 := D3.below (below_one w3 (.cells #[.slice oa on oc, .int .i64 K', .int .i64 N, .string S, .slice za zn zc] 84)); obtain ⟨⟨qd0, qd1, qd2, qd3, qd4⟩, -⟩ := cells5 D4.pbox; have NEW4 := NEW.own.below (below_one w3 (.cells #[.slice oa on oc, .int .i64 K', .int .i64 N, .string S, .slice za zn zc] 84)); have HAP : ∀ z' ∈ ys, ∀ b' ∈ z'.blks, b' ∉ (BI.mk oa on oc o K' N S za zn zc z).blks := (fun z' hz' b' hb' hc => apart_new (HDS.out.bo.item z' hz') how2 how3 (Nat.le_refl _) g2.size hb' hc); have hsz4 : pb + 1 ≤ (w3.alloc (.cells #[.slice oa on oc, .int .i64 K', .int .i64 N, .string S, .slice za zn zc] 84)).heap.size := (by have h1 := g2.size; have h2 := went3.grown.size; simp; omega))
              refine hK.out _ _ trivial (fun _ => ?_)
              clear hK K
              refine wpAnyH_take (i := 6) (oi := _) (v := ?_) rfl (by kernel_rfl) (by kernel_rfl) (by kernel_rfl) (fun _ _ _ h => h) (Or.inl ⟨by rfl, ?_⟩) trivial ?_
              rotate_left
              · (intro wY _; go_simp; try with_reducible rfl)
              try simp only [Act.put]
              try simp only [List.setIfInBounds_toArray]
              try simp only [List.set_cons_succ]
              try simp only [List.set_cons_zero]
              refine wpAnyH_ready (rs := [7]) (by kernel_rfl) (by simp) ?_
              refine AllReadyH.cons rfl (fun K hK => ?_) ?_
              · go_simp
                refine hK.out _ _ trivial (fun _ => ?_)
                clear hK K
                refine wpAnyH_ready (rs := [8]) (by kernel_rfl) (by simp) ?_
                refine AllReadyH.cons rfl (fun K hK => ?_) ?_
                · (refine step_append_bind rfl _ _ 24 rfl (pb + 1) Tryz.underlying24 Tryz.infoBind' lo cap ys rfl D4.bo w3.heap.size (BI.mk oa on oc o K' N S za zn zc z) rfl (bind_news w3 (BI.mk oa on oc o K' N S za zn zc z)) NEW4 NEW.nd HAP (by omega) hsz4 ?_; intro lo' cap' w5 hb5 hg5; have D5 := D4.push hg5 hb5 hsz4 hlt; have kp5 := (Only.of_grown hg5).kept D4.pbox (fun hc => by have := (D4.bo.row.lt pb (mem_blkL.2 hc)).1; omega); obtain ⟨⟨qc0, qc1, qc2, qc3, qc4⟩, pf0, pf1, pf2, pf3, pf4⟩ := cells5 kp5)
                  refine hK.out _ _ trivial (fun _ => ?_)
                  clear hK K
                  refine wpAnyH_take (i := 9) (oi := _) (v := ?_) rfl (by kernel_rfl) (by kernel_rfl) (by kernel_rfl) (fun _ _ _ h => h) (Or.inl ⟨by rfl, ?_⟩) trivial ?_
                  rotate_left
                  · (intro wY _; go_simp; try with_reducible rfl)
                  try simp only [Act.put]
                  try simp only [List.setIfInBounds_toArray]
                  try simp only [List.set_cons_succ]
                  try simp only [List.set_cons_zero]
                  refine wpAnyH_ready (rs := [10]) (by kernel_rfl) (by simp) ?_
                  refine AllReadyH.cons rfl (fun K hK => ?_) ?_
                  · go_simp
                    refine hK.out _ _ trivial (fun _ => ?_)
                    clear hK K
                    refine wpAnyH_done (by kernel_rfl) ?_ _
                    have HD5 := hide D5
                    clear p0 p1 p2 p3 p4 f0 f1 f2 f3 f4 d0 d1 d2 d3 d4 e0 e1 e2 e3 e4 qa0 qa1 qa2 qa3 qa4 qb0 qb1 qb2 qb3 qb4 qc0 qc1 qc2 qc3 qc4 qd0 qd1 qd2 qd3 qd4 pf0 pf1 pf2 pf3 pf4
                    go_wp2
                    go_roundw
                    case rel => exact ⟨m - 1, a, b, _, lo', cap', by go_num, by simp; omega, HD5.out⟩
                    case measure => simp [intOf]; omega
                  exact AllReadyH.nil

                exact AllReadyH.nil

              exact AllReadyH.nil

            exact AllReadyH.nil

          refine AllReadyH.cons rfl (fun K hK => ?_) ?_
          · go_simp
            go_wp2_with (go_at_call 70; refine (l3Draw_any C a0 l0 c0 z0 _ went2.cur).mono ?_; rintro e w3 ⟨K', N, S, za, zn, zc, z, rfl, hS3', hn3, hz3, hzi3, how3, went3⟩; have kp3 := kept_grown kp2 went3.grown (fun j hj => by cases hj; omega); obtain ⟨⟨qb0, qb1, qb2, qb3, qb4⟩, -⟩ := cells5 kp3; have D3 := HDS.out.bind hlt g2 went3.grown went3.cur; have hpw : pb + 1 ≤ wr.heap.size := (Array.getElem?_eq_some_iff.1 HDS.out.pbox).1; have NEW := drawn_bind (K := K') (N := N) (S := S) (own_lt how2 (base' := pb + 1) hpw) hok2.i64 went3.grown (by omega) how3 hzi3 (Nat.le_refl _) (Nat.le_trans hpw g2.size) hS3'; have D4 := D3.below (below_one w3 (.cells #[.slice oa on oc, .int .i64 K', .int .i64 N, .string S, .slice za zn zc] 84)); obtain ⟨⟨qd0, qd1, qd2, qd3, qd4⟩, -⟩ := cells5 D4.pbox; have NEW4 := NEW.own.below (below_one w3 (.cells #[.slice oa on oc, .int .i64 K', .int .i64 N, .string S, .slice za zn zc] 84)); have HAP : ∀ z' ∈ ys, ∀ b' ∈ z'.blks, b' ∉ (BI.mk oa on oc o K' N S za zn zc z).blks := (fun z' hz' b' hb' hc => apart_new (HDS.out.bo.item z' hz') how2 how3 (Nat.le_refl _) g2.size hb' hc); have hsz4 : pb + 1 ≤ (w3.alloc (.cells #[.slice oa on oc, .int .i64 K', .int .i64 N, .string S, .slice za zn zc] 84)).heap.size := (by have h1 := g2.size; have h2 := went3.grown.size; simp; omega))
            refine hK.out _ _ trivial (fun _ => ?_)
            clear hK K
            refine wpAnyH_take (i := 6) (oi := _) (v := ?_) rfl (by kernel_rfl) (by kernel_rfl) (by kernel_rfl) (fun _ _ _ h => h) (Or.inl ⟨by rfl, ?_⟩) trivial ?_
            rotate_left
            · (intro wY _; go_simp; try with_reducible rfl)
            try simp only [Act.put]
            try simp only [List.setIfInBounds_toArray]
            try simp only [List.set_cons_succ]
            try simp only [List.set_cons_zero]
            refine wpAnyH_ready (rs := [1, 7]) (by kernel_rfl) (by simp) ?_
            refine AllReadyH.cons rfl (fun K hK => ?_) ?_
            · go_simp
              refine hK.out _ _ trivial (fun _ => ?_)
              clear hK K
              refine wpAnyH_ready (rs := [7]) (by kernel_rfl) (by simp) ?_
              refine AllReadyH.cons rfl (fun K hK => ?_) ?_
              · go_simp
                refine hK.out _ _ trivial (fun _ => ?_)
                clear hK K
                refine wpAnyH_ready (rs := [8]) (by kernel_rfl) (by simp) ?_
                refine AllReadyH.cons rfl (fun K hK => ?_) ?_
                · (refine step_append_bind rfl _ _ 24 rfl (pb + 1) Tryz.underlying24 Tryz.infoBind' lo cap ys rfl D4.bo w3.heap.size (BI.mk oa on oc o K' N S za zn zc z) rfl (bind_news w3 (BI.mk oa on oc o K' N S za zn zc z)) NEW4 NEW.nd HAP (by omega) hsz4 ?_; intro lo' cap' w5 hb5 hg5; have D5 := D4.push hg5 hb5 hsz4 hlt; have kp5 := (Only.of_grown hg5).kept D4.pbox (fun hc => by have := (D4.bo.row.lt pb (mem_blkL.2 hc)).1; omega); obtain ⟨⟨qc0, qc1, qc2, qc3, qc4⟩, pf0, pf1, pf2, pf3, pf4⟩ := cells5 kp5)
                  refine hK.out _ _ trivial (fun _ => ?_)
                  clear hK K
                  refine wpAnyH_take (i := 9) (oi := _) (v := ?_) rfl (by kernel_rfl) (by kernel_rfl) (by kernel_rfl) (fun _ _ _ h => h) (Or.inl ⟨by rfl, ?_⟩) trivial ?_
                  rotate_left
                  · (intro wY _; go_simp; try with_reducible rfl)
                  try simp only [Act.put]
                  try simp only [List.setIfInBounds_toArray]
                  try simp only [List.set_cons_succ]
                  try simp only [List.set_cons_zero]
                  refine wpAnyH_ready (rs := [10]) (by kernel_rfl) (by simp) ?_
                  refine AllReadyH.cons rfl (fun K hK => ?_) ?_
                  · go_simp
                    refine hK.out _ _ trivial (fun _ => ?_)
                    clear hK K
                    refine wpAnyH_done (by kernel_rfl) ?_ _
                    have HD5 := hide D5
                    clear p0 p1 p2 p3 p4 f0 f1 f2 f3 f4 d0 d1 d2 d3 d4 e0 e1 e2 e3 e4 qa0 qa1 qa2 qa3 qa4 qb0 qb1 qb2 qb3 qb4 qc0 qc1 qc2 qc3 qc4 qd0 qd1 qd2 qd3 qd4 pf0 pf1 pf2 pf3 pf4
                    go_wp2
                    go_roundw
                    case rel => exact ⟨m - 1, a, b, _, lo', cap', by go_num, by simp; omega, HD5.out⟩
                    case measure => simp [intOf]; omega
                  exact AllReadyH.nil

                exact AllReadyH.nil

              exact AllReadyH.nil

            refine AllReadyH.cons rfl (fun K hK => ?_) ?_
            · go_simp
              refine hK.out _ _ trivial (fun _ => ?_)
              clear hK K
              refine wpAnyH_ready (rs := [1]) (by kernel_rfl) (by simp) ?_
              refine AllReadyH.cons rfl (fun K hK => ?_) ?_
              · go_simp
                refine hK.out _ _ trivial (fun _ => ?_)
                clear hK K
                refine wpAnyH_ready (rs := [8]) (by kernel_rfl) (by simp) ?_
                refine AllReadyH.cons rfl (fun K hK => ?_) ?_
                · (refine step_append_bind rfl _ _ 24 rfl (pb + 1) Tryz.underlying24 Tryz.infoBind' lo cap ys rfl D4.bo w3.heap.size (BI.mk oa on oc o K' N S za zn zc z) rfl (bind_news w3 (BI.mk oa on oc o K' N S za zn zc z)) NEW4 NEW.nd HAP (by omega) hsz4 ?_; intro lo' cap' w5 hb5 hg5; have D5 := D4.push hg5 hb5 hsz4 hlt; have kp5 := (Only.of_grown hg5).kept D4.pbox (fun hc => by have := (D4.bo.row.lt pb (mem_blkL.2 hc)).1; omega); obtain ⟨⟨qc0, qc1, qc2, qc3, qc4⟩, pf0, pf1, pf2, pf3, pf4⟩ := cells5 kp5)
                  refine hK.out _ _ trivial (fun _ => ?_)
                  clear hK K
                  refine wpAnyH_take (i := 9) (oi := _) (v := ?_) rfl (by kernel_rfl) (by kernel_rfl) (by kernel_rfl) (fun _ _ _ h => h) (Or.inl ⟨by rfl, ?_⟩) trivial ?_
                  rotate_left
                  · (intro wY _; go_simp; try with_reducible rfl)
                  try simp only [Act.put]
                  try simp only [List.setIfInBounds_toArray]
                  try simp only [List.set_cons_succ]
                  try simp only [List.set_cons_zero]
                  refine wpAnyH_ready (rs := [10]) (by kernel_rfl) (by simp) ?_
                  refine AllReadyH.cons rfl (fun K hK => ?_) ?_
                  · go_simp
                    refine hK.out _ _ trivial (fun _ => ?_)
                    clear hK K
                    refine wpAnyH_done (by kernel_rfl) ?_ _
                    have HD5 := hide D5
                    clear p0 p1 p2 p3 p4 f0 f1 f2 f3 f4 d0 d1 d2 d3 d4 e0 e1 e2 e3 e4 qa0 qa1 qa2 qa3 qa4 qb0 qb1 qb2 qb3 qb4 qc0 qc1 qc2 qc3 qc4 qd0 qd1 qd2 qd3 qd4 pf0 pf1 pf2 pf3 pf4
                    go_wp2
                    go_roundw
                    case rel => exact ⟨m - 1, a, b, _, lo', cap', by go_num, by simp; omega, HD5.out⟩
                    case measure => simp [intOf]; omega
                  exact AllReadyH.nil

                exact AllReadyH.nil

              exact AllReadyH.nil

            exact AllReadyH.nil

          exact AllReadyH.nil

        exact AllReadyH.nil

      · have hm0 : m = 0 := by omega
        subst hm0
        have m1 : ¬ pb = w.heap.size := by omega
        go_wp2
        refine bodyPost_ret (v := .agg #[.int .i64 k, .int .i64 id, .int .i64 a, .int .i64 b, .slice lo ys.length cap]) (by simp [results, Tryz.results36, go_sem, *]) rfl ⟨k, id, a, b, ys, lo, cap, rfl, by omega, ?_, ?_⟩
        · refine BOwns.lt (base := pb + 1) ?_ (by omega)
          repeat (refine BOwns.set_below ?_ (by omega))
          exact HDS.out.bo
        · refine HDS.out.went.madeAt (B := w.heap.size) ?_ hlt (Nat.le_refl _)
          repeat (refine below_set ?_ (Nat.le_refl _) _ _)
          exact Below.refl _ _

/-- A request that was drawn, right or not. -/
def DrawnQ (w w' : World) (C : Nat) (a0 : Option Addr) (l0 c0 : Nat) (z0 : List Int) (e : Ending) : Prop :=
  ∃ (k id a b : Int) (ys : List BI) (lo : Option Addr) (cap : Nat), e = .returned (.agg #[.int .i64 k, .int .i64 id, .int .i64 a, .int .i64 b, .slice lo ys.length cap]) ∧ ys.length ≤ 40 ∧ BOwns w' w.heap.size lo ys.length cap ys ∧ Went w w' C a0 l0 c0 z0

theorem own_box {w : World} {base : Nat} {e T : TypeId} {size : Nat} {v : Value} {n : Nat} {xs : List Value} {pb : Nat} {cs : Array Value} (h : w.ownsRow base e size v n xs) (hv : v.ownBlock = some pb) (hp : w.heap[pb]? = some (.cells cs T)) (hne : T ≠ e) : False := by
  obtain ⟨-, ⟨rfl, -⟩ | ⟨g, cap, cur, rfl, hg, hh, r⟩⟩ := h
  · cases hv
  · have e1 : g = pb := by simpa [Value.ownBlock] using hv
    subst e1
    rw [hp] at hh
    cases hh
    exact hne rfl

/-- The box of a request is none of the blocks of binds. -/
theorem box_apart {w : World} {base : Nat} {ao : Option Addr} {n cap : Nat} {l : List BI} (h : BOwns w base ao n cap l) {pb : Nat} {cs : Array Value} (hp : w.heap[pb]? = some (.cells cs 26)) : pb ∉ allB ao l := by
  intro hb
  have n1 : (26 : Nat) ≠ 84 := by decide
  have n2 : (26 : Nat) ≠ 3 := by decide
  rcases List.mem_append.1 hb with hb | hb
  · exact own_box h.row (mem_blkL.2 hb) hp n1
  · obtain ⟨x, hx, hb⟩ := List.mem_flatMap.1 hb
    rcases List.mem_append.1 hb with hb | hb
    · exact own_box (h.item x hx).o (mem_blkL.2 hb) hp n2
    · exact own_box (h.item x hx).z (mem_blkL.2 hb) hp n2

/-- The turning of a drawn request on its way. -/
structure ASt (w wr : World) (pb : Nat) (C : Nat) (a0 : Option Addr) (l0 c0 : Nat) (z0 : List Int) (k id a b : Int) (ys : List BI) (lo : Option Addr) (cap : Nat) : Prop where
  pbox : wr.heap[pb]? = some (.cells #[.int .i64 k, .int .i64 id, .int .i64 a, .int .i64 b, .slice lo ys.length cap] 26)
  rbox : wr.heap[w.heap.size]? = some (.cells #[.int .i64 0, .int .i64 0, .int .i64 0, .int .i64 0, .slice none 0 0] 26)
  bo : BOwns wr (w.heap.size + 1) lo ys.length cap ys
  went : Went w wr C a0 l0 c0 z0
  low : w.heap.size < pb

theorem ASt.bind {w wr : World} {pb C : Nat} {a0 : Option Addr} {l0 c0 : Nat} {z0 : List Int} {k id a b : Int} {ys : List BI} {lo : Option Addr} {cap : Nat} {w2 w3 : World} (h : ASt w wr pb C a0 l0 c0 z0 k id a b ys lo cap) (hC : C < w.heap.size) (g2 : wr.grownBy w2 (some C)) (g3 : w2.grownBy w3 (some C)) (c3 : Cur w3 C a0 l0 c0 z0) : ASt w w3 pb C a0 l0 c0 z0 k id a b ys lo cap where
  pbox := kept_grown (kept_grown h.pbox g2 (fun j hj => by cases hj; have := h.low; omega)) g3 (fun j hj => by cases hj; have := h.low; omega)
  rbox := kept_grown (kept_grown h.rbox g2 (fun j hj => by cases hj; omega)) g3 (fun j hj => by cases hj; omega)
  bo := by
    have o2 := Only.of_grown (ao := some ⟨C, 0, none⟩) (n := 0) (c := 0) g2
    have o3 := Only.of_grown (ao := some ⟨C, 0, none⟩) (n := 0) (c := 0) g3
    refine (h.bo.only o2 ?_).only o3 ?_ <;> intro j hj hc <;> (have h1 := (h.bo.blk j hj).1; simp [blkL] at hc; omega)
  went := ⟨c3, ⟨(g3.os.trans g2.os).trans h.went.grown.os, (g3.tape.trans g2.tape).trans h.went.grown.tape, (g3.output.trans g2.output).trans h.went.grown.output, Nat.le_trans h.went.grown.size (Nat.le_trans g2.size g3.size), fun j hj hne => ((g3.block j (Nat.lt_of_lt_of_le (Nat.lt_of_lt_of_le hj h.went.grown.size) g2.size) hne).trans (g2.block j (Nat.lt_of_lt_of_le hj h.went.grown.size) hne)).trans (h.went.grown.block j hj hne)⟩⟩
  low := h.low

theorem ASt.below {w wr : World} {pb C : Nat} {a0 : Option Addr} {l0 c0 : Nat} {z0 : List Int} {k id a b : Int} {ys : List BI} {lo : Option Addr} {cap : Nat} {w2 : World} (h : ASt w wr pb C a0 l0 c0 z0 k id a b ys lo cap) (hb : Below wr.heap.size wr w2) : ASt w w2 pb C a0 l0 c0 z0 k id a b ys lo cap :=
  ⟨kept_block h.pbox hb, kept_block h.rbox hb, h.bo.below hb, h.went.made hb, h.low⟩

theorem ASt.big {w wr : World} {pb C : Nat} {a0 : Option Addr} {l0 c0 : Nat} {z0 : List Int} {k id a b : Int} {ys : List BI} {lo : Option Addr} {cap : Nat} (h : ASt w wr pb C a0 l0 c0 z0 k id a b ys lo cap) : w.heap.size + 1 ≤ wr.heap.size := (Array.getElem?_eq_some_iff.1 h.rbox).1

theorem ASt.push {w wr : World} {pb C : Nat} {a0 : Option Addr} {l0 c0 : Nat} {z0 : List Int} {k id a b : Int} {ys : List BI} {lo : Option Addr} {cap : Nat} {w5 : World} {lo' : Option Addr} {cap' : Nat} {y : BI} (h : ASt w wr pb C a0 l0 c0 z0 k id a b ys lo cap) (hg : wr.grownBy w5 (Value.slice lo ys.length cap).ownBlock) (hb : BOwns w5 (w.heap.size + 1) lo' (ys ++ [y]).length cap' (ys ++ [y])) (hC : C < w.heap.size) :
    ASt w (w5.setCell ⟨pb, 4, none⟩ (.slice lo' (ys.length + 1) cap')) pb C a0 l0 c0 z0 k id a b (ys ++ [y]) lo' cap' := by
  have O := Only.of_grown hg
  have k5 := O.kept h.pbox (fun hc => box_apart h.bo h.pbox (List.mem_append_left _ hc))
  have hl := h.low
  refine ⟨?_, ?_, ?_, ?_, hl⟩
  · have := heap_setCell_same w5 pb 4 _ _ (.slice lo' (ys.length + 1) cap') k5
    simpa using this
  · have k6 := O.kept h.rbox (fun hc => by have h1 := (h.bo.row.lt w.heap.size (mem_blkL.2 hc)).1; omega)
    exact kept_set k6 (by omega)
  · have := hb.only (Only.set w5 pb 4 (.slice lo' (ys.length + 1) cap')) (fun b hb' hc => by rw [List.mem_singleton] at hc; subst hc; exact box_apart hb k5 hb')
    simpa using this
  · have B5 : Below (w.heap.size + 1) wr w5 := O.below h.big (fun j hj => (h.bo.row.lt j (mem_blkL.2 hj)).1)
    have h1 := h.went.madeAt B5 (by omega) (by omega)
    exact h1.madeAt (below_set (Below.refl pb w5) (Nat.le_refl _) 4 _) (by omega) (by omega)

theorem ASt.set0 {w wr : World} {pb C : Nat} {a0 : Option Addr} {l0 c0 : Nat} {z0 : List Int} {k id a b : Int} {ys : List BI} {lo : Option Addr} {cap : Nat} (h : ASt w wr pb C a0 l0 c0 z0 k id a b ys lo cap) (x : Int) (hC : C < w.heap.size) : ASt w (wr.setCell ⟨pb, 0, none⟩ (.int .i64 x)) pb C a0 l0 c0 z0 x id a b ys lo cap :=
  ⟨by have := heap_setCell_same wr pb 0 _ _ (.int .i64 x) h.pbox; simpa using this, kept_set h.rbox (by have := h.low; omega), h.bo.only (Only.set _ _ _ _) (fun b hb hc => by rw [List.mem_singleton] at hc; subst hc; exact box_apart h.bo h.pbox hb), h.went.madeAt (below_set (Below.refl pb wr) (Nat.le_refl _) 0 _) (by have := h.low; omega) (by have := h.low; omega), h.low⟩

theorem ASt.set2 {w wr : World} {pb C : Nat} {a0 : Option Addr} {l0 c0 : Nat} {z0 : List Int} {k id a b : Int} {ys : List BI} {lo : Option Addr} {cap : Nat} (h : ASt w wr pb C a0 l0 c0 z0 k id a b ys lo cap) (x : Int) (hC : C < w.heap.size) : ASt w (wr.setCell ⟨pb, 2, none⟩ (.int .i64 x)) pb C a0 l0 c0 z0 k id x b ys lo cap :=
  ⟨by have := heap_setCell_same wr pb 2 _ _ (.int .i64 x) h.pbox; simpa using this, kept_set h.rbox (by have := h.low; omega), h.bo.only (Only.set _ _ _ _) (fun b hb hc => by rw [List.mem_singleton] at hc; subst hc; exact box_apart h.bo h.pbox hb), h.went.madeAt (below_set (Below.refl pb wr) (Nat.le_refl _) 2 _) (by have := h.low; omega) (by have := h.low; omega), h.low⟩

theorem own_none (w : World) (base : Nat) : w.ownsRow base 3 1 (.slice none 0 0) 0 (cI []) := ⟨rfl, .inl ⟨rfl, rfl⟩⟩

set_option maxRecDepth 100000 in
set_option maxHeartbeats 4000000 in
theorem l4Any_any (C : Nat) (a0 : Option Addr) (l0 c0 : Nat) (z0 : List Int) (w : World) (hc : Cur w C a0 l0 c0 z0) :
    Calls Tryz.prog 25 #[.pointer (some ⟨C, 0, none⟩)] w fun e w' => DrawnQ w w' C a0 l0 c0 z0 e := by
  have hlt := hc.lt
  have q0 := below_one w (.cells #[.int .i64 0, .int .i64 0, .int .i64 0, .int .i64 0, .slice none 0 0] 26)
  have wn0 := Went.start hc q0
  have hk0 := block_last w (.cells #[.int .i64 0, .int .i64 0, .int .i64 0, .int .i64 0, .slice none 0 0] 26)
  go_enter Tryz.func25, Tryz.ntmps25
  go_wp2_with fail
  refine (l4Draw_any C a0 l0 c0 z0 _ wn0.cur).mono ?_
  rintro e w1 ⟨k, id, a, b, ys, lo, cap, rfl, hys, hbo1, went1⟩
  have hsz : (w.alloc (.cells #[.int .i64 0, .int .i64 0, .int .i64 0, .int .i64 0, .slice none 0 0] 26)).heap.size = w.heap.size + 1 := by simp
  rw [hsz] at hbo1
  have wn1 := wn0.trans went1
  have k1 := kept_grown hk0 went1.grown (fun j hj => by cases hj; omega)
  have hw1 : w.heap.size < w1.heap.size := (Array.getElem?_eq_some_iff.1 k1).1
  have q1 := below_one w1 (.cells #[.int .i64 k, .int .i64 id, .int .i64 a, .int .i64 b, .slice lo ys.length cap] 26)
  have DP : ASt w (w1.alloc (.cells #[.int .i64 k, .int .i64 id, .int .i64 a, .int .i64 b, .slice lo ys.length cap] 26)) w1.heap.size C a0 l0 c0 z0 k id a b ys lo cap := ⟨block_last w1 _, kept_block k1 q1, hbo1.below q1, wn1.made q1, hw1⟩
  have HDP := hide DP
  clear DP wn0 wn1 went1 k1 hk0 hbo1 q1 q0 hsz
  go_wp2_with fail
  generalize hwp : (w1.alloc (.cells #[.int .i64 k, .int .i64 id, .int .i64 a, .int .i64 b, .slice lo ys.length cap] 26)) = wp at *
  clear hwp
  generalize hpb : w1.heap.size = pb at *
  clear hpb
  refine (below_any C a0 l0 c0 z0 12 _ HDP.out.went.cur (by omega)).mono ?_
  rintro e wr ⟨xs, rfl, hx0, -, -, went2⟩
  have HDS := hide (HDP.out.bind hlt (World.grownBy.refl _ _) went2.grown went2.cur)
  have hpl := HDS.out.low
  clear HDP went2
  by_cases j0 : xs = 0
  · subst j0
    go_wp2_with fail
    refine (below_any C a0 l0 c0 z0 256 _ HDS.out.went.cur (by omega)).mono ?_
    rintro e w3 ⟨xk, rfl, -, -, -, went3⟩
    have D3 := HDS.out.bind hlt (World.grownBy.refl _ _) went3.grown went3.cur
    clear HDS went3
    obtain ⟨⟨p0, p1, p2, p3, p4⟩, f0, f1, f2, f3, f4⟩ := cells5 D3.pbox
    have HDS := hide (D3.set0 xk hlt)
    clear D3
    have m1 : ¬ pb = w.heap.size := by have := HDS.out.low; omega
    obtain ⟨⟨t0, t1, t2, t3, t4⟩, -⟩ := cells5 HDS.out.pbox
    obtain ⟨⟨d0, d1, d2, d3, d4⟩, e0, e1, e2, e3, e4⟩ := cells5 HDS.out.rbox
    go_wp2
    refine bodyPost_ret (v := .agg #[.int .i64 xk, .int .i64 id, .int .i64 a, .int .i64 b, .slice lo ys.length cap]) (by simp [results, Tryz.results25, go_sem, *]) rfl ⟨_, _, _, _, ys, _, _, rfl, by omega, ?_, ?_⟩
    · refine BOwns.lt (base := w.heap.size + 1) ?_ (by omega)
      repeat (refine BOwns.set_below ?_ (by omega))
      exact HDS.out.bo
    · refine HDS.out.went.madeAt (B := w.heap.size) ?_ hlt (Nat.le_refl _)
      repeat (refine below_set ?_ (Nat.le_refl _) _ _)
      exact Below.refl _ _
  by_cases j1 : xs = 1
  · subst j1
    go_wp2_with fail
    refine (pick_any C a0 l0 c0 z0 [-1, 1, 1000, 1001] wr.heap.size 4 wr HDS.out.went.cur (by simp) rfl (by omega) (by omega)).mono ?_
    rintro e w3 ⟨xk, -, rfl, went3⟩
    have D3 := HDS.out.bind hlt (World.grownBy.refl _ _) went3.grown went3.cur
    clear HDS went3
    obtain ⟨⟨p0, p1, p2, p3, p4⟩, f0, f1, f2, f3, f4⟩ := cells5 D3.pbox
    have HDS := hide (D3.set2 xk hlt)
    clear D3
    have m1 : ¬ pb = w.heap.size := by have := HDS.out.low; omega
    obtain ⟨⟨t0, t1, t2, t3, t4⟩, -⟩ := cells5 HDS.out.pbox
    obtain ⟨⟨d0, d1, d2, d3, d4⟩, e0, e1, e2, e3, e4⟩ := cells5 HDS.out.rbox
    go_wp2
    refine bodyPost_ret (v := .agg #[.int .i64 k, .int .i64 id, .int .i64 xk, .int .i64 b, .slice lo ys.length cap]) (by simp [results, Tryz.results25, go_sem, *]) rfl ⟨_, _, _, _, ys, _, _, rfl, by omega, ?_, ?_⟩
    · refine BOwns.lt (base := w.heap.size + 1) ?_ (by omega)
      repeat (refine BOwns.set_below ?_ (by omega))
      exact HDS.out.bo
    · refine HDS.out.went.madeAt (B := w.heap.size) ?_ hlt (Nat.le_refl _)
      repeat (refine below_set ?_ (Nat.le_refl _) _ _)
      exact Below.refl _ _
  by_cases j2 : xs = 2
  · subst j2
    obtain ⟨⟨p0, p1, p2, p3, p4⟩, -⟩ := cells5 HDS.out.pbox
    go_wp2_with fail
    refine wp_region_held_drew (S := fun _ => True) (by kernel_rfl) trivial (fun _ => ?_)
    refine wpAnyH_take (i := 0) (oi := _) (v := ?_) rfl (by kernel_rfl) (by kernel_rfl) (by kernel_rfl) (fun _ _ _ h => h) (Or.inl ⟨by rfl, ?_⟩) trivial ?_
    rotate_left
    · (intro wY _; go_simp; try with_reducible rfl)
    try simp only [Act.put]
    try simp only [List.setIfInBounds_toArray]
    try simp only [List.set_cons_succ]
    try simp only [List.set_cons_zero]
    refine wpAnyH_take (i := 2) (oi := _) (v := ?_) rfl (by kernel_rfl) (by kernel_rfl) (by kernel_rfl) (fun _ _ _ h => h) (Or.inl ⟨by rfl, ?_⟩) trivial ?_
    rotate_left
    · (intro wY _; go_simp; try with_reducible rfl)
    try simp only [Act.put]
    try simp only [List.setIfInBounds_toArray]
    try simp only [List.set_cons_succ]
    try simp only [List.set_cons_zero]
    refine wpAnyH_take (i := 4) (oi := _) (v := ?_) rfl (by kernel_rfl) (by kernel_rfl) (by kernel_rfl) (fun _ _ _ h => h) (Or.inl ⟨by rfl, ?_⟩) trivial ?_
    rotate_left
    · (intro wY _; go_simp; try with_reducible rfl)
    try simp only [Act.put]
    try simp only [List.setIfInBounds_toArray]
    try simp only [List.set_cons_succ]
    try simp only [List.set_cons_zero]
    refine wpAnyH_ready (rs := [1, 3]) (by kernel_rfl) (by simp) ?_
    refine AllReadyH.cons rfl (fun K hK => ?_) ?_
    · go_simp
      refine hK.out _ _ trivial (fun _ => ?_)
      clear hK K
      refine wpAnyH_ready (rs := [3]) (by kernel_rfl) (by simp) ?_
      refine AllReadyH.cons rfl (fun K hK => ?_) ?_
      · go_simp
        go_wp2_with (go_at_call 50; refine (oidAny_any C a0 l0 c0 z0 _ (HDS.out.went.cur.below (below_drewN (Below.refl _ _) _))).mono ?_; rintro e w2 ⟨oa, on, oc, o, rfl, hlo2, hhi2, hol2, hok2, how2, went2⟩; have g2 : wr.grownBy w2 (some C) := ⟨went2.grown.os, went2.grown.tape, went2.grown.output, went2.grown.size, went2.grown.block⟩; have kp2 := kept_grown HDS.out.pbox g2 (fun j hj => by cases hj; omega); obtain ⟨⟨qa0, qa1, qa2, qa3, qa4⟩, -⟩ := cells5 kp2; have hpw : w.heap.size + 1 ≤ wr.heap.size := HDS.out.big)
        refine hK.out _ _ trivial (fun _ => ?_)
        clear hK K
        refine wpAnyH_ready (rs := [5]) (by kernel_rfl) (by simp) ?_
        refine AllReadyH.cons rfl (fun K hK => ?_) ?_
        · go_simp
          go_wp2_with (go_at_call 51; refine (l3Any_any C a0 l0 c0 z0 _ went2.cur).mono ?_; rintro e w3 ⟨K', N, S, za, zn, zc, z, rfl, hS3', hn3, hz3, hzi3, how3, went3⟩; have kp3 := kept_grown kp2 went3.grown (fun j hj => by cases hj; omega); obtain ⟨⟨qb0, qb1, qb2, qb3, qb4⟩, -⟩ := cells5 kp3; have D3 := HDS.out.bind hlt g2 went3.grown went3.cur; have NEW := drawn_bind (K := K') (N := N) (S := S) (own_lt how2 (base' := w.heap.size + 1) hpw) hok2 went3.grown (by omega) how3 hzi3 (Nat.le_refl _) (Nat.le_trans hpw g2.size) hS3'; have D4 := D3.below (below_one w3 (.cells #[.slice oa on oc, .int .i64 K', .int .i64 N, .string S, .slice za zn zc] 84)); obtain ⟨⟨qd0, qd1, qd2, qd3, qd4⟩, -⟩ := cells5 D4.pbox; have NEW4 := NEW.own.below (below_one w3 (.cells #[.slice oa on oc, .int .i64 K', .int .i64 N, .string S, .slice za zn zc] 84)); have HAP : ∀ z' ∈ ys, ∀ b' ∈ z'.blks, b' ∉ (BI.mk oa on oc o K' N S za zn zc z).blks := (fun z' hz' b' hb' hc => apart_new (HDS.out.bo.item z' hz') how2 how3 (Nat.le_refl _) g2.size hb' hc); have hsz4 : w.heap.size + 1 ≤ (w3.alloc (.cells #[.slice oa on oc, .int .i64 K', .int .i64 N, .string S, .slice za zn zc] 84)).heap.size := (by have h1 := g2.size; have h2 := went3.grown.size; simp; omega))
          refine hK.out _ _ trivial (fun _ => ?_)
          clear hK K
          refine wpAnyH_take (i := 6) (oi := _) (v := ?_) rfl (by kernel_rfl) (by kernel_rfl) (by kernel_rfl) (fun _ _ _ h => h) (Or.inl ⟨by rfl, ?_⟩) trivial ?_
          rotate_left
          · (intro wY _; go_simp; try with_reducible rfl)
          try simp only [Act.put]
          try simp only [List.setIfInBounds_toArray]
          try simp only [List.set_cons_succ]
          try simp only [List.set_cons_zero]
          refine wpAnyH_ready (rs := [7]) (by kernel_rfl) (by simp) ?_
          refine AllReadyH.cons rfl (fun K hK => ?_) ?_
          · go_simp
            refine hK.out _ _ trivial (fun _ => ?_)
            clear hK K
            refine wpAnyH_ready (rs := [8]) (by kernel_rfl) (by simp) ?_
            refine AllReadyH.cons rfl (fun K hK => ?_) ?_
            · (refine step_append_bind rfl _ _ 24 rfl (w.heap.size + 1) Tryz.underlying24 Tryz.infoBind' lo cap ys rfl D4.bo w3.heap.size (BI.mk oa on oc o K' N S za zn zc z) rfl (bind_news w3 (BI.mk oa on oc o K' N S za zn zc z)) NEW4 NEW.nd HAP (by omega) hsz4 ?_; intro lo' cap' w5 hb5 hg5; have D5 := D4.push hg5 hb5 hlt; have kp5 := (Only.of_grown hg5).kept D4.pbox (fun hc => box_apart D4.bo D4.pbox (List.mem_append_left _ hc)); obtain ⟨⟨qc0, qc1, qc2, qc3, qc4⟩, pf0, pf1, pf2, pf3, pf4⟩ := cells5 kp5)
              refine hK.out _ _ trivial (fun _ => ?_)
              clear hK K
              refine wpAnyH_take (i := 9) (oi := _) (v := ?_) rfl (by kernel_rfl) (by kernel_rfl) (by kernel_rfl) (fun _ _ _ h => h) (Or.inl ⟨by rfl, ?_⟩) trivial ?_
              rotate_left
              · (intro wY _; go_simp; try with_reducible rfl)
              try simp only [Act.put]
              try simp only [List.setIfInBounds_toArray]
              try simp only [List.set_cons_succ]
              try simp only [List.set_cons_zero]
              refine wpAnyH_ready (rs := [10]) (by kernel_rfl) (by simp) ?_
              refine AllReadyH.cons rfl (fun K hK => ?_) ?_
              · go_simp
                refine hK.out _ _ trivial (fun _ => ?_)
                clear hK K
                refine wpAnyH_done (by kernel_rfl) ?_ _
                obtain ⟨yy, hyl, DX⟩ : ∃ yy : List BI, yy.length = ys.length + 1 ∧ ASt w (w5.setCell ⟨pb, 4, none⟩ (.slice lo' (ys.length + 1) cap')) pb C a0 l0 c0 z0 k id a b yy lo' cap' := ⟨_, by simp, D5⟩
                clear HDS
                have HDS := hide DX
                clear DX D5 p0 p1 p2 p3 p4 qb0 qb1 qb2 qb3 qb4 qa0 qa1 qa2 qa3 qa4 qc0 qc1 qc2 qc3 qc4 qd0 qd1 qd2 qd3 qd4 pf0 pf1 pf2 pf3 pf4
                generalize w5.setCell ⟨pb, 4, none⟩ (.slice lo' (ys.length + 1) cap') = wx at *
                have m1 : ¬ pb = w.heap.size := by have := HDS.out.low; omega
                obtain ⟨⟨t0, t1, t2, t3, t4⟩, -⟩ := cells5 HDS.out.pbox
                obtain ⟨⟨d0, d1, d2, d3, d4⟩, e0, e1, e2, e3, e4⟩ := cells5 HDS.out.rbox
                go_wp2
                refine bodyPost_ret (v := .agg #[.int .i64 k, .int .i64 id, .int .i64 a, .int .i64 b, .slice lo' yy.length cap']) (by simp [results, Tryz.results25, go_sem, *]) rfl ⟨_, _, _, _, yy, _, _, rfl, by omega, ?_, ?_⟩
                · refine BOwns.lt (base := w.heap.size + 1) ?_ (by omega)
                  repeat (refine BOwns.set_below ?_ (by omega))
                  exact HDS.out.bo
                · refine HDS.out.went.madeAt (B := w.heap.size) ?_ hlt (Nat.le_refl _)
                  repeat (refine below_set ?_ (Nat.le_refl _) _ _)
                  exact Below.refl _ _
              exact AllReadyH.nil

            exact AllReadyH.nil

          exact AllReadyH.nil

        exact AllReadyH.nil

      exact AllReadyH.nil

    refine AllReadyH.cons rfl (fun K hK => ?_) ?_
    · go_simp
      go_wp2_with (go_at_call 50; refine (oidAny_any C a0 l0 c0 z0 _ (HDS.out.went.cur.below (below_drewN (Below.refl _ _) _))).mono ?_; rintro e w2 ⟨oa, on, oc, o, rfl, hlo2, hhi2, hol2, hok2, how2, went2⟩; have g2 : wr.grownBy w2 (some C) := ⟨went2.grown.os, went2.grown.tape, went2.grown.output, went2.grown.size, went2.grown.block⟩; have kp2 := kept_grown HDS.out.pbox g2 (fun j hj => by cases hj; omega); obtain ⟨⟨qa0, qa1, qa2, qa3, qa4⟩, -⟩ := cells5 kp2; have hpw : w.heap.size + 1 ≤ wr.heap.size := HDS.out.big)
      refine hK.out _ _ trivial (fun _ => ?_)
      clear hK K
      refine wpAnyH_ready (rs := [1, 5]) (by kernel_rfl) (by simp) ?_
      refine AllReadyH.cons rfl (fun K hK => ?_) ?_
      · go_simp
        refine hK.out _ _ trivial (fun _ => ?_)
        clear hK K
        refine wpAnyH_ready (rs := [5]) (by kernel_rfl) (by simp) ?_
        refine AllReadyH.cons rfl (fun K hK => ?_) ?_
        · go_simp
          go_wp2_with (go_at_call 51; refine (l3Any_any C a0 l0 c0 z0 _ went2.cur).mono ?_; rintro e w3 ⟨K', N, S, za, zn, zc, z, rfl, hS3', hn3, hz3, hzi3, how3, went3⟩; have kp3 := kept_grown kp2 went3.grown (fun j hj => by cases hj; omega); obtain ⟨⟨qb0, qb1, qb2, qb3, qb4⟩, -⟩ := cells5 kp3; have D3 := HDS.out.bind hlt g2 went3.grown went3.cur; have NEW := drawn_bind (K := K') (N := N) (S := S) (own_lt how2 (base' := w.heap.size + 1) hpw) hok2 went3.grown (by omega) how3 hzi3 (Nat.le_refl _) (Nat.le_trans hpw g2.size) hS3'; have D4 := D3.below (below_one w3 (.cells #[.slice oa on oc, .int .i64 K', .int .i64 N, .string S, .slice za zn zc] 84)); obtain ⟨⟨qd0, qd1, qd2, qd3, qd4⟩, -⟩ := cells5 D4.pbox; have NEW4 := NEW.own.below (below_one w3 (.cells #[.slice oa on oc, .int .i64 K', .int .i64 N, .string S, .slice za zn zc] 84)); have HAP : ∀ z' ∈ ys, ∀ b' ∈ z'.blks, b' ∉ (BI.mk oa on oc o K' N S za zn zc z).blks := (fun z' hz' b' hb' hc => apart_new (HDS.out.bo.item z' hz') how2 how3 (Nat.le_refl _) g2.size hb' hc); have hsz4 : w.heap.size + 1 ≤ (w3.alloc (.cells #[.slice oa on oc, .int .i64 K', .int .i64 N, .string S, .slice za zn zc] 84)).heap.size := (by have h1 := g2.size; have h2 := went3.grown.size; simp; omega))
          refine hK.out _ _ trivial (fun _ => ?_)
          clear hK K
          refine wpAnyH_take (i := 6) (oi := _) (v := ?_) rfl (by kernel_rfl) (by kernel_rfl) (by kernel_rfl) (fun _ _ _ h => h) (Or.inl ⟨by rfl, ?_⟩) trivial ?_
          rotate_left
          · (intro wY _; go_simp; try with_reducible rfl)
          try simp only [Act.put]
          try simp only [List.setIfInBounds_toArray]
          try simp only [List.set_cons_succ]
          try simp only [List.set_cons_zero]
          refine wpAnyH_ready (rs := [7]) (by kernel_rfl) (by simp) ?_
          refine AllReadyH.cons rfl (fun K hK => ?_) ?_
          · go_simp
            refine hK.out _ _ trivial (fun _ => ?_)
            clear hK K
            refine wpAnyH_ready (rs := [8]) (by kernel_rfl) (by simp) ?_
            refine AllReadyH.cons rfl (fun K hK => ?_) ?_
            · (refine step_append_bind rfl _ _ 24 rfl (w.heap.size + 1) Tryz.underlying24 Tryz.infoBind' lo cap ys rfl D4.bo w3.heap.size (BI.mk oa on oc o K' N S za zn zc z) rfl (bind_news w3 (BI.mk oa on oc o K' N S za zn zc z)) NEW4 NEW.nd HAP (by omega) hsz4 ?_; intro lo' cap' w5 hb5 hg5; have D5 := D4.push hg5 hb5 hlt; have kp5 := (Only.of_grown hg5).kept D4.pbox (fun hc => box_apart D4.bo D4.pbox (List.mem_append_left _ hc)); obtain ⟨⟨qc0, qc1, qc2, qc3, qc4⟩, pf0, pf1, pf2, pf3, pf4⟩ := cells5 kp5)
              refine hK.out _ _ trivial (fun _ => ?_)
              clear hK K
              refine wpAnyH_take (i := 9) (oi := _) (v := ?_) rfl (by kernel_rfl) (by kernel_rfl) (by kernel_rfl) (fun _ _ _ h => h) (Or.inl ⟨by rfl, ?_⟩) trivial ?_
              rotate_left
              · (intro wY _; go_simp; try with_reducible rfl)
              try simp only [Act.put]
              try simp only [List.setIfInBounds_toArray]
              try simp only [List.set_cons_succ]
              try simp only [List.set_cons_zero]
              refine wpAnyH_ready (rs := [10]) (by kernel_rfl) (by simp) ?_
              refine AllReadyH.cons rfl (fun K hK => ?_) ?_
              · go_simp
                refine hK.out _ _ trivial (fun _ => ?_)
                clear hK K
                refine wpAnyH_done (by kernel_rfl) ?_ _
                obtain ⟨yy, hyl, DX⟩ : ∃ yy : List BI, yy.length = ys.length + 1 ∧ ASt w (w5.setCell ⟨pb, 4, none⟩ (.slice lo' (ys.length + 1) cap')) pb C a0 l0 c0 z0 k id a b yy lo' cap' := ⟨_, by simp, D5⟩
                clear HDS
                have HDS := hide DX
                clear DX D5 p0 p1 p2 p3 p4 qb0 qb1 qb2 qb3 qb4 qa0 qa1 qa2 qa3 qa4 qc0 qc1 qc2 qc3 qc4 qd0 qd1 qd2 qd3 qd4 pf0 pf1 pf2 pf3 pf4
                generalize w5.setCell ⟨pb, 4, none⟩ (.slice lo' (ys.length + 1) cap') = wx at *
                have m1 : ¬ pb = w.heap.size := by have := HDS.out.low; omega
                obtain ⟨⟨t0, t1, t2, t3, t4⟩, -⟩ := cells5 HDS.out.pbox
                obtain ⟨⟨d0, d1, d2, d3, d4⟩, e0, e1, e2, e3, e4⟩ := cells5 HDS.out.rbox
                go_wp2
                refine bodyPost_ret (v := .agg #[.int .i64 k, .int .i64 id, .int .i64 a, .int .i64 b, .slice lo' yy.length cap']) (by simp [results, Tryz.results25, go_sem, *]) rfl ⟨_, _, _, _, yy, _, _, rfl, by omega, ?_, ?_⟩
                · refine BOwns.lt (base := w.heap.size + 1) ?_ (by omega)
                  repeat (refine BOwns.set_below ?_ (by omega))
                  exact HDS.out.bo
                · refine HDS.out.went.madeAt (B := w.heap.size) ?_ hlt (Nat.le_refl _)
                  repeat (refine below_set ?_ (Nat.le_refl _) _ _)
                  exact Below.refl _ _
              exact AllReadyH.nil

            exact AllReadyH.nil

          exact AllReadyH.nil

        exact AllReadyH.nil

      refine AllReadyH.cons rfl (fun K hK => ?_) ?_
      · go_simp
        go_wp2_with (go_at_call 51; refine (l3Any_any C a0 l0 c0 z0 _ went2.cur).mono ?_; rintro e w3 ⟨K', N, S, za, zn, zc, z, rfl, hS3', hn3, hz3, hzi3, how3, went3⟩; have kp3 := kept_grown kp2 went3.grown (fun j hj => by cases hj; omega); obtain ⟨⟨qb0, qb1, qb2, qb3, qb4⟩, -⟩ := cells5 kp3; have D3 := HDS.out.bind hlt g2 went3.grown went3.cur; have NEW := drawn_bind (K := K') (N := N) (S := S) (own_lt how2 (base' := w.heap.size + 1) hpw) hok2 went3.grown (by omega) how3 hzi3 (Nat.le_refl _) (Nat.le_trans hpw g2.size) hS3'; have D4 := D3.below (below_one w3 (.cells #[.slice oa on oc, .int .i64 K', .int .i64 N, .string S, .slice za zn zc] 84)); obtain ⟨⟨qd0, qd1, qd2, qd3, qd4⟩, -⟩ := cells5 D4.pbox; have NEW4 := NEW.own.below (below_one w3 (.cells #[.slice oa on oc, .int .i64 K', .int .i64 N, .string S, .slice za zn zc] 84)); have HAP : ∀ z' ∈ ys, ∀ b' ∈ z'.blks, b' ∉ (BI.mk oa on oc o K' N S za zn zc z).blks := (fun z' hz' b' hb' hc => apart_new (HDS.out.bo.item z' hz') how2 how3 (Nat.le_refl _) g2.size hb' hc); have hsz4 : w.heap.size + 1 ≤ (w3.alloc (.cells #[.slice oa on oc, .int .i64 K', .int .i64 N, .string S, .slice za zn zc] 84)).heap.size := (by have h1 := g2.size; have h2 := went3.grown.size; simp; omega))
        refine hK.out _ _ trivial (fun _ => ?_)
        clear hK K
        refine wpAnyH_take (i := 6) (oi := _) (v := ?_) rfl (by kernel_rfl) (by kernel_rfl) (by kernel_rfl) (fun _ _ _ h => h) (Or.inl ⟨by rfl, ?_⟩) trivial ?_
        rotate_left
        · (intro wY _; go_simp; try with_reducible rfl)
        try simp only [Act.put]
        try simp only [List.setIfInBounds_toArray]
        try simp only [List.set_cons_succ]
        try simp only [List.set_cons_zero]
        refine wpAnyH_ready (rs := [1, 7]) (by kernel_rfl) (by simp) ?_
        refine AllReadyH.cons rfl (fun K hK => ?_) ?_
        · go_simp
          refine hK.out _ _ trivial (fun _ => ?_)
          clear hK K
          refine wpAnyH_ready (rs := [7]) (by kernel_rfl) (by simp) ?_
          refine AllReadyH.cons rfl (fun K hK => ?_) ?_
          · go_simp
            refine hK.out _ _ trivial (fun _ => ?_)
            clear hK K
            refine wpAnyH_ready (rs := [8]) (by kernel_rfl) (by simp) ?_
            refine AllReadyH.cons rfl (fun K hK => ?_) ?_
            · (refine step_append_bind rfl _ _ 24 rfl (w.heap.size + 1) Tryz.underlying24 Tryz.infoBind' lo cap ys rfl D4.bo w3.heap.size (BI.mk oa on oc o K' N S za zn zc z) rfl (bind_news w3 (BI.mk oa on oc o K' N S za zn zc z)) NEW4 NEW.nd HAP (by omega) hsz4 ?_; intro lo' cap' w5 hb5 hg5; have D5 := D4.push hg5 hb5 hlt; have kp5 := (Only.of_grown hg5).kept D4.pbox (fun hc => box_apart D4.bo D4.pbox (List.mem_append_left _ hc)); obtain ⟨⟨qc0, qc1, qc2, qc3, qc4⟩, pf0, pf1, pf2, pf3, pf4⟩ := cells5 kp5)
              refine hK.out _ _ trivial (fun _ => ?_)
              clear hK K
              refine wpAnyH_take (i := 9) (oi := _) (v := ?_) rfl (by kernel_rfl) (by kernel_rfl) (by kernel_rfl) (fun _ _ _ h => h) (Or.inl ⟨by rfl, ?_⟩) trivial ?_
              rotate_left
              · (intro wY _; go_simp; try with_reducible rfl)
              try simp only [Act.put]
              try simp only [List.setIfInBounds_toArray]
              try simp only [List.set_cons_succ]
              try simp only [List.set_cons_zero]
              refine wpAnyH_ready (rs := [10]) (by kernel_rfl) (by simp) ?_
              refine AllReadyH.cons rfl (fun K hK => ?_) ?_
              · go_simp
                refine hK.out _ _ trivial (fun _ => ?_)
                clear hK K
                refine wpAnyH_done (by kernel_rfl) ?_ _
                obtain ⟨yy, hyl, DX⟩ : ∃ yy : List BI, yy.length = ys.length + 1 ∧ ASt w (w5.setCell ⟨pb, 4, none⟩ (.slice lo' (ys.length + 1) cap')) pb C a0 l0 c0 z0 k id a b yy lo' cap' := ⟨_, by simp, D5⟩
                clear HDS
                have HDS := hide DX
                clear DX D5 p0 p1 p2 p3 p4 qb0 qb1 qb2 qb3 qb4 qa0 qa1 qa2 qa3 qa4 qc0 qc1 qc2 qc3 qc4 qd0 qd1 qd2 qd3 qd4 pf0 pf1 pf2 pf3 pf4
                generalize w5.setCell ⟨pb, 4, none⟩ (.slice lo' (ys.length + 1) cap') = wx at *
                have m1 : ¬ pb = w.heap.size := by have := HDS.out.low; omega
                obtain ⟨⟨t0, t1, t2, t3, t4⟩, -⟩ := cells5 HDS.out.pbox
                obtain ⟨⟨d0, d1, d2, d3, d4⟩, e0, e1, e2, e3, e4⟩ := cells5 HDS.out.rbox
                go_wp2
                refine bodyPost_ret (v := .agg #[.int .i64 k, .int .i64 id, .int .i64 a, .int .i64 b, .slice lo' yy.length cap']) (by simp [results, Tryz.results25, go_sem, *]) rfl ⟨_, _, _, _, yy, _, _, rfl, by omega, ?_, ?_⟩
                · refine BOwns.lt (base := w.heap.size + 1) ?_ (by omega)
                  repeat (refine BOwns.set_below ?_ (by omega))
                  exact HDS.out.bo
                · refine HDS.out.went.madeAt (B := w.heap.size) ?_ hlt (Nat.le_refl _)
                  repeat (refine below_set ?_ (Nat.le_refl _) _ _)
                  exact Below.refl _ _
              exact AllReadyH.nil

            exact AllReadyH.nil

          exact AllReadyH.nil

        refine AllReadyH.cons rfl (fun K hK => ?_) ?_
        · go_simp
          refine hK.out _ _ trivial (fun _ => ?_)
          clear hK K
          refine wpAnyH_ready (rs := [1]) (by kernel_rfl) (by simp) ?_
          refine AllReadyH.cons rfl (fun K hK => ?_) ?_
          · go_simp
            refine hK.out _ _ trivial (fun _ => ?_)
            clear hK K
            refine wpAnyH_ready (rs := [8]) (by kernel_rfl) (by simp) ?_
            refine AllReadyH.cons rfl (fun K hK => ?_) ?_
            · (refine step_append_bind rfl _ _ 24 rfl (w.heap.size + 1) Tryz.underlying24 Tryz.infoBind' lo cap ys rfl D4.bo w3.heap.size (BI.mk oa on oc o K' N S za zn zc z) rfl (bind_news w3 (BI.mk oa on oc o K' N S za zn zc z)) NEW4 NEW.nd HAP (by omega) hsz4 ?_; intro lo' cap' w5 hb5 hg5; have D5 := D4.push hg5 hb5 hlt; have kp5 := (Only.of_grown hg5).kept D4.pbox (fun hc => box_apart D4.bo D4.pbox (List.mem_append_left _ hc)); obtain ⟨⟨qc0, qc1, qc2, qc3, qc4⟩, pf0, pf1, pf2, pf3, pf4⟩ := cells5 kp5)
              refine hK.out _ _ trivial (fun _ => ?_)
              clear hK K
              refine wpAnyH_take (i := 9) (oi := _) (v := ?_) rfl (by kernel_rfl) (by kernel_rfl) (by kernel_rfl) (fun _ _ _ h => h) (Or.inl ⟨by rfl, ?_⟩) trivial ?_
              rotate_left
              · (intro wY _; go_simp; try with_reducible rfl)
              try simp only [Act.put]
              try simp only [List.setIfInBounds_toArray]
              try simp only [List.set_cons_succ]
              try simp only [List.set_cons_zero]
              refine wpAnyH_ready (rs := [10]) (by kernel_rfl) (by simp) ?_
              refine AllReadyH.cons rfl (fun K hK => ?_) ?_
              · go_simp
                refine hK.out _ _ trivial (fun _ => ?_)
                clear hK K
                refine wpAnyH_done (by kernel_rfl) ?_ _
                obtain ⟨yy, hyl, DX⟩ : ∃ yy : List BI, yy.length = ys.length + 1 ∧ ASt w (w5.setCell ⟨pb, 4, none⟩ (.slice lo' (ys.length + 1) cap')) pb C a0 l0 c0 z0 k id a b yy lo' cap' := ⟨_, by simp, D5⟩
                clear HDS
                have HDS := hide DX
                clear DX D5 p0 p1 p2 p3 p4 qb0 qb1 qb2 qb3 qb4 qa0 qa1 qa2 qa3 qa4 qc0 qc1 qc2 qc3 qc4 qd0 qd1 qd2 qd3 qd4 pf0 pf1 pf2 pf3 pf4
                generalize w5.setCell ⟨pb, 4, none⟩ (.slice lo' (ys.length + 1) cap') = wx at *
                have m1 : ¬ pb = w.heap.size := by have := HDS.out.low; omega
                obtain ⟨⟨t0, t1, t2, t3, t4⟩, -⟩ := cells5 HDS.out.pbox
                obtain ⟨⟨d0, d1, d2, d3, d4⟩, e0, e1, e2, e3, e4⟩ := cells5 HDS.out.rbox
                go_wp2
                refine bodyPost_ret (v := .agg #[.int .i64 k, .int .i64 id, .int .i64 a, .int .i64 b, .slice lo' yy.length cap']) (by simp [results, Tryz.results25, go_sem, *]) rfl ⟨_, _, _, _, yy, _, _, rfl, by omega, ?_, ?_⟩
                · refine BOwns.lt (base := w.heap.size + 1) ?_ (by omega)
                  repeat (refine BOwns.set_below ?_ (by omega))
                  exact HDS.out.bo
                · refine HDS.out.went.madeAt (B := w.heap.size) ?_ hlt (Nat.le_refl _)
                  repeat (refine below_set ?_ (Nat.le_refl _) _ _)
                  exact Below.refl _ _
              exact AllReadyH.nil

            exact AllReadyH.nil

          exact AllReadyH.nil

        exact AllReadyH.nil

      exact AllReadyH.nil

    exact AllReadyH.nil

  by_cases j3 : xs = 3
  · subst j3
    go_wp2
    go_loopw [40] (fun _ ws => ∃ (ys : List BI) (lo : Option Addr) (cap : Nat), ys.length ≤ 20 ∧ ASt w ws pb C a0 l0 c0 z0 k id a b ys lo cap) (fun _ ws => 41 - lenOf ((ws.cell? ⟨pb, 4, none⟩).getD (.slice none 0 0)))
    case atStart => exact ⟨ys, lo, cap, hys, HDS.out⟩
    case round =>
      clear HDS hys
      obtain ⟨ys, lo, cap, hml, DS⟩ := hrel
      have HDS := hide DS
      obtain ⟨⟨p0, p1, p2, p3, p4⟩, -⟩ := cells5 DS.pbox
      have HC0 := hide p4
      clear DS
      go_wp2_with fail
      go_region_held3 (fun W => W.cell? ⟨pb, 4, none⟩ = some (.slice lo ys.length cap)) (first | assumption | go_keep) ((go_at_call 38; refine (below_any C a0 l0 c0 z0 2 _ (HDS.out.went.cur.below (below_drewN (Below.refl _ _) _)) (by omega)).mono ?_; rintro e w8 ⟨x8, rfl, hx80, hx81, -, went8⟩; have g8 : wr.grownBy w8 (some C) := ⟨went8.grown.os, went8.grown.tape, went8.grown.output, went8.grown.size, went8.grown.block⟩; have D8 := HDS.out.bind hlt (World.grownBy.refl _ _) g8 went8.cur; have hS8 := (cells5 D8.pbox).1.2.2.2.2))
      clear p0 p1 p2 p3 p4 hS8 HDS
      have HDS := hide D8
      obtain ⟨⟨p0, p1, p2, p3, p4⟩, -⟩ := cells5 D8.pbox
      have hx8 := hx81 (by omega)
      clear D8 g8 went8 hx81
      have hwr : IntKind.i64.wrap (10 + x8) = 10 + x8 := by rcases (show x8 = 0 ∨ x8 = 1 by omega) with rfl | rfl <;> rfl
      by_cases hl : (ys.length : Int) < 10 + x8
      · go_wp2_with fail
        refine wp_region_held_drew (S := fun _ => True) (by kernel_rfl) trivial (fun _ => ?_)
        refine wpAnyH_take (i := 0) (oi := _) (v := ?_) rfl (by kernel_rfl) (by kernel_rfl) (by kernel_rfl) (fun _ _ _ h => h) (Or.inl ⟨by rfl, ?_⟩) trivial ?_
        rotate_left
        · (intro wY _; go_simp; try with_reducible rfl)
        try simp only [Act.put]
        try simp only [List.setIfInBounds_toArray]
        try simp only [List.set_cons_succ]
        try simp only [List.set_cons_zero]
        refine wpAnyH_take (i := 2) (oi := _) (v := ?_) rfl (by kernel_rfl) (by kernel_rfl) (by kernel_rfl) (fun _ _ _ h => h) (Or.inl ⟨by rfl, ?_⟩) trivial ?_
        rotate_left
        · (intro wY _; go_simp; try with_reducible rfl)
        try simp only [Act.put]
        try simp only [List.setIfInBounds_toArray]
        try simp only [List.set_cons_succ]
        try simp only [List.set_cons_zero]
        refine wpAnyH_take (i := 4) (oi := _) (v := ?_) rfl (by kernel_rfl) (by kernel_rfl) (by kernel_rfl) (fun _ _ _ h => h) (Or.inl ⟨by rfl, ?_⟩) trivial ?_
        rotate_left
        · (intro wY _; go_simp; try with_reducible rfl)
        try simp only [Act.put]
        try simp only [List.setIfInBounds_toArray]
        try simp only [List.set_cons_succ]
        try simp only [List.set_cons_zero]
        refine wpAnyH_ready (rs := [1, 3]) (by kernel_rfl) (by simp) ?_
        refine AllReadyH.cons rfl (fun K hK => ?_) ?_
        · go_simp
          refine hK.out _ _ trivial (fun _ => ?_)
          clear hK K
          refine wpAnyH_ready (rs := [3]) (by kernel_rfl) (by simp) ?_
          refine AllReadyH.cons rfl (fun K hK => ?_) ?_
          · go_simp
            go_wp2_with (go_at_call 52; refine (oidDraw_any C a0 l0 c0 z0 _ (HDS.out.went.cur.below (below_drewN (Below.refl _ _) _))).mono ?_; rintro e w2 ⟨oa, on, oc, o, rfl, hlo2, hhi2, hol2, hok2, how2, went2⟩; have g2 : w8.grownBy w2 (some C) := ⟨went2.grown.os, went2.grown.tape, went2.grown.output, went2.grown.size, went2.grown.block⟩; have kp2 := kept_grown HDS.out.pbox g2 (fun j hj => by cases hj; omega); obtain ⟨⟨qa0, qa1, qa2, qa3, qa4⟩, -⟩ := cells5 kp2; have hpw : w.heap.size + 1 ≤ w8.heap.size := HDS.out.big; have g3 := World.grownBy.refl w2 (some C); have D3 := HDS.out.bind hlt g2 g3 went2.cur; have how3 := own_none w2 w2.heap.size; have NEW := drawn_bind (K := 4) (N := 0) (S := ⟨#[116, 119, 101, 110, 116, 121, 45, 98, 121, 116, 101, 115, 45, 111, 102, 45, 116, 101, 120, 116]⟩) (own_lt how2 (base' := w.heap.size + 1) hpw) hok2.i64 g3 (by omega) how3 i64s_nil (Nat.le_refl _) (Nat.le_trans hpw g2.size) (by decide); have D4 := D3.below (below_one w2 (.cells #[.slice oa on oc, .int .i64 4, .int .i64 0, .string ⟨#[116, 119, 101, 110, 116, 121, 45, 98, 121, 116, 101, 115, 45, 111, 102, 45, 116, 101, 120, 116]⟩, .slice none 0 0] 84)); obtain ⟨⟨qd0, qd1, qd2, qd3, qd4⟩, -⟩ := cells5 D4.pbox; have NEW4 := NEW.own.below (below_one w2 (.cells #[.slice oa on oc, .int .i64 4, .int .i64 0, .string ⟨#[116, 119, 101, 110, 116, 121, 45, 98, 121, 116, 101, 115, 45, 111, 102, 45, 116, 101, 120, 116]⟩, .slice none 0 0] 84)); have HAP : ∀ z' ∈ ys, ∀ b' ∈ z'.blks, b' ∉ (BI.mk oa on oc o 4 0 ⟨#[116, 119, 101, 110, 116, 121, 45, 98, 121, 116, 101, 115, 45, 111, 102, 45, 116, 101, 120, 116]⟩ none 0 0 []).blks := (fun z' hz' b' hb' hc => apart_new (HDS.out.bo.item z' hz') how2 how3 (Nat.le_refl _) g2.size hb' hc); have hsz4 : w.heap.size + 1 ≤ (w2.alloc (.cells #[.slice oa on oc, .int .i64 4, .int .i64 0, .string ⟨#[116, 119, 101, 110, 116, 121, 45, 98, 121, 116, 101, 115, 45, 111, 102, 45, 116, 101, 120, 116]⟩, .slice none 0 0] 84)).heap.size := (by have h1 := g2.size; simp; omega))
            refine hK.out _ _ trivial (fun _ => ?_)
            clear hK K
            refine wpAnyH_take (i := 5) (oi := _) (v := ?_) rfl (by kernel_rfl) (by kernel_rfl) (by kernel_rfl) (fun _ _ _ h => h) (Or.inl ⟨by rfl, ?_⟩) trivial ?_
            rotate_left
            · (intro wY _; go_simp; try with_reducible rfl)
            try simp only [Act.put]
            try simp only [List.setIfInBounds_toArray]
            try simp only [List.set_cons_succ]
            try simp only [List.set_cons_zero]
            refine wpAnyH_ready (rs := [6]) (by kernel_rfl) (by simp) ?_
            refine AllReadyH.cons rfl (fun K hK => ?_) ?_
            · go_simp
              refine hK.out _ _ trivial (fun _ => ?_)
              clear hK K
              refine wpAnyH_ready (rs := [7]) (by kernel_rfl) (by simp) ?_
              refine AllReadyH.cons rfl (fun K hK => ?_) ?_
              · (refine step_append_bind rfl _ _ 24 rfl (w.heap.size + 1) Tryz.underlying24 Tryz.infoBind' lo cap ys rfl D4.bo w2.heap.size (BI.mk oa on oc o 4 0 ⟨#[116, 119, 101, 110, 116, 121, 45, 98, 121, 116, 101, 115, 45, 111, 102, 45, 116, 101, 120, 116]⟩ none 0 0 []) rfl (bind_news w2 (BI.mk oa on oc o 4 0 ⟨#[116, 119, 101, 110, 116, 121, 45, 98, 121, 116, 101, 115, 45, 111, 102, 45, 116, 101, 120, 116]⟩ none 0 0 [])) NEW4 NEW.nd HAP (by omega) hsz4 ?_; intro lo' cap' w5 hb5 hg5; have D5 := D4.push hg5 hb5 hlt; have kp5 := (Only.of_grown hg5).kept D4.pbox (fun hc => box_apart D4.bo D4.pbox (List.mem_append_left _ hc)); obtain ⟨⟨qc0, qc1, qc2, qc3, qc4⟩, pf0, pf1, pf2, pf3, pf4⟩ := cells5 kp5)
                refine hK.out _ _ trivial (fun _ => ?_)
                clear hK K
                refine wpAnyH_take (i := 8) (oi := _) (v := ?_) rfl (by kernel_rfl) (by kernel_rfl) (by kernel_rfl) (fun _ _ _ h => h) (Or.inl ⟨by rfl, ?_⟩) trivial ?_
                rotate_left
                · (intro wY _; go_simp; try with_reducible rfl)
                try simp only [Act.put]
                try simp only [List.setIfInBounds_toArray]
                try simp only [List.set_cons_succ]
                try simp only [List.set_cons_zero]
                refine wpAnyH_ready (rs := [9]) (by kernel_rfl) (by simp) ?_
                refine AllReadyH.cons rfl (fun K hK => ?_) ?_
                · go_simp
                  refine hK.out _ _ trivial (fun _ => ?_)
                  clear hK K
                  refine wpAnyH_done (by kernel_rfl) ?_ _
                  obtain ⟨yy, hyl, DX⟩ : ∃ yy : List BI, yy.length = ys.length + 1 ∧ ASt w (w5.setCell ⟨pb, 4, none⟩ (.slice lo' (ys.length + 1) cap')) pb C a0 l0 c0 z0 k id a b yy lo' cap' := ⟨_, by simp, D5⟩
                  clear HDS
                  have HDX := hide DX
                  have HC5 := hide (cells5 DX.pbox).1.2.2.2.2
                  clear DX D5 p0 p1 p2 p3 p4 qa0 qa1 qa2 qa3 qa4 qc0 qc1 qc2 qc3 qc4 qd0 qd1 qd2 qd3 qd4 pf0 pf1 pf2 pf3 pf4
                  generalize w5.setCell ⟨pb, 4, none⟩ (.slice lo' (ys.length + 1) cap') = wx at *
                  go_wp2
                  go_roundw
                  case rel => exact ⟨yy, lo', cap', by omega, HDX.out⟩
                  case measure =>
                    rw [HC5.out, HC0.out]
                    simp only [Option.getD_some, lenOf]
                    omega
                exact AllReadyH.nil

              exact AllReadyH.nil

            exact AllReadyH.nil

          exact AllReadyH.nil

        refine AllReadyH.cons rfl (fun K hK => ?_) ?_
        · go_simp
          go_wp2_with (go_at_call 52; refine (oidDraw_any C a0 l0 c0 z0 _ (HDS.out.went.cur.below (below_drewN (Below.refl _ _) _))).mono ?_; rintro e w2 ⟨oa, on, oc, o, rfl, hlo2, hhi2, hol2, hok2, how2, went2⟩; have g2 : w8.grownBy w2 (some C) := ⟨went2.grown.os, went2.grown.tape, went2.grown.output, went2.grown.size, went2.grown.block⟩; have kp2 := kept_grown HDS.out.pbox g2 (fun j hj => by cases hj; omega); obtain ⟨⟨qa0, qa1, qa2, qa3, qa4⟩, -⟩ := cells5 kp2; have hpw : w.heap.size + 1 ≤ w8.heap.size := HDS.out.big; have g3 := World.grownBy.refl w2 (some C); have D3 := HDS.out.bind hlt g2 g3 went2.cur; have how3 := own_none w2 w2.heap.size; have NEW := drawn_bind (K := 4) (N := 0) (S := ⟨#[116, 119, 101, 110, 116, 121, 45, 98, 121, 116, 101, 115, 45, 111, 102, 45, 116, 101, 120, 116]⟩) (own_lt how2 (base' := w.heap.size + 1) hpw) hok2.i64 g3 (by omega) how3 i64s_nil (Nat.le_refl _) (Nat.le_trans hpw g2.size) (by decide); have D4 := D3.below (below_one w2 (.cells #[.slice oa on oc, .int .i64 4, .int .i64 0, .string ⟨#[116, 119, 101, 110, 116, 121, 45, 98, 121, 116, 101, 115, 45, 111, 102, 45, 116, 101, 120, 116]⟩, .slice none 0 0] 84)); obtain ⟨⟨qd0, qd1, qd2, qd3, qd4⟩, -⟩ := cells5 D4.pbox; have NEW4 := NEW.own.below (below_one w2 (.cells #[.slice oa on oc, .int .i64 4, .int .i64 0, .string ⟨#[116, 119, 101, 110, 116, 121, 45, 98, 121, 116, 101, 115, 45, 111, 102, 45, 116, 101, 120, 116]⟩, .slice none 0 0] 84)); have HAP : ∀ z' ∈ ys, ∀ b' ∈ z'.blks, b' ∉ (BI.mk oa on oc o 4 0 ⟨#[116, 119, 101, 110, 116, 121, 45, 98, 121, 116, 101, 115, 45, 111, 102, 45, 116, 101, 120, 116]⟩ none 0 0 []).blks := (fun z' hz' b' hb' hc => apart_new (HDS.out.bo.item z' hz') how2 how3 (Nat.le_refl _) g2.size hb' hc); have hsz4 : w.heap.size + 1 ≤ (w2.alloc (.cells #[.slice oa on oc, .int .i64 4, .int .i64 0, .string ⟨#[116, 119, 101, 110, 116, 121, 45, 98, 121, 116, 101, 115, 45, 111, 102, 45, 116, 101, 120, 116]⟩, .slice none 0 0] 84)).heap.size := (by have h1 := g2.size; simp; omega))
          refine hK.out _ _ trivial (fun _ => ?_)
          clear hK K
          refine wpAnyH_take (i := 5) (oi := _) (v := ?_) rfl (by kernel_rfl) (by kernel_rfl) (by kernel_rfl) (fun _ _ _ h => h) (Or.inl ⟨by rfl, ?_⟩) trivial ?_
          rotate_left
          · (intro wY _; go_simp; try with_reducible rfl)
          try simp only [Act.put]
          try simp only [List.setIfInBounds_toArray]
          try simp only [List.set_cons_succ]
          try simp only [List.set_cons_zero]
          refine wpAnyH_ready (rs := [1, 6]) (by kernel_rfl) (by simp) ?_
          refine AllReadyH.cons rfl (fun K hK => ?_) ?_
          · go_simp
            refine hK.out _ _ trivial (fun _ => ?_)
            clear hK K
            refine wpAnyH_ready (rs := [6]) (by kernel_rfl) (by simp) ?_
            refine AllReadyH.cons rfl (fun K hK => ?_) ?_
            · go_simp
              refine hK.out _ _ trivial (fun _ => ?_)
              clear hK K
              refine wpAnyH_ready (rs := [7]) (by kernel_rfl) (by simp) ?_
              refine AllReadyH.cons rfl (fun K hK => ?_) ?_
              · (refine step_append_bind rfl _ _ 24 rfl (w.heap.size + 1) Tryz.underlying24 Tryz.infoBind' lo cap ys rfl D4.bo w2.heap.size (BI.mk oa on oc o 4 0 ⟨#[116, 119, 101, 110, 116, 121, 45, 98, 121, 116, 101, 115, 45, 111, 102, 45, 116, 101, 120, 116]⟩ none 0 0 []) rfl (bind_news w2 (BI.mk oa on oc o 4 0 ⟨#[116, 119, 101, 110, 116, 121, 45, 98, 121, 116, 101, 115, 45, 111, 102, 45, 116, 101, 120, 116]⟩ none 0 0 [])) NEW4 NEW.nd HAP (by omega) hsz4 ?_; intro lo' cap' w5 hb5 hg5; have D5 := D4.push hg5 hb5 hlt; have kp5 := (Only.of_grown hg5).kept D4.pbox (fun hc => box_apart D4.bo D4.pbox (List.mem_append_left _ hc)); obtain ⟨⟨qc0, qc1, qc2, qc3, qc4⟩, pf0, pf1, pf2, pf3, pf4⟩ := cells5 kp5)
                refine hK.out _ _ trivial (fun _ => ?_)
                clear hK K
                refine wpAnyH_take (i := 8) (oi := _) (v := ?_) rfl (by kernel_rfl) (by kernel_rfl) (by kernel_rfl) (fun _ _ _ h => h) (Or.inl ⟨by rfl, ?_⟩) trivial ?_
                rotate_left
                · (intro wY _; go_simp; try with_reducible rfl)
                try simp only [Act.put]
                try simp only [List.setIfInBounds_toArray]
                try simp only [List.set_cons_succ]
                try simp only [List.set_cons_zero]
                refine wpAnyH_ready (rs := [9]) (by kernel_rfl) (by simp) ?_
                refine AllReadyH.cons rfl (fun K hK => ?_) ?_
                · go_simp
                  refine hK.out _ _ trivial (fun _ => ?_)
                  clear hK K
                  refine wpAnyH_done (by kernel_rfl) ?_ _
                  obtain ⟨yy, hyl, DX⟩ : ∃ yy : List BI, yy.length = ys.length + 1 ∧ ASt w (w5.setCell ⟨pb, 4, none⟩ (.slice lo' (ys.length + 1) cap')) pb C a0 l0 c0 z0 k id a b yy lo' cap' := ⟨_, by simp, D5⟩
                  clear HDS
                  have HDX := hide DX
                  have HC5 := hide (cells5 DX.pbox).1.2.2.2.2
                  clear DX D5 p0 p1 p2 p3 p4 qa0 qa1 qa2 qa3 qa4 qc0 qc1 qc2 qc3 qc4 qd0 qd1 qd2 qd3 qd4 pf0 pf1 pf2 pf3 pf4
                  generalize w5.setCell ⟨pb, 4, none⟩ (.slice lo' (ys.length + 1) cap') = wx at *
                  go_wp2
                  go_roundw
                  case rel => exact ⟨yy, lo', cap', by omega, HDX.out⟩
                  case measure =>
                    rw [HC5.out, HC0.out]
                    simp only [Option.getD_some, lenOf]
                    omega
                exact AllReadyH.nil

              exact AllReadyH.nil

            exact AllReadyH.nil

          refine AllReadyH.cons rfl (fun K hK => ?_) ?_
          · go_simp
            refine hK.out _ _ trivial (fun _ => ?_)
            clear hK K
            refine wpAnyH_ready (rs := [1]) (by kernel_rfl) (by simp) ?_
            refine AllReadyH.cons rfl (fun K hK => ?_) ?_
            · go_simp
              refine hK.out _ _ trivial (fun _ => ?_)
              clear hK K
              refine wpAnyH_ready (rs := [7]) (by kernel_rfl) (by simp) ?_
              refine AllReadyH.cons rfl (fun K hK => ?_) ?_
              · (refine step_append_bind rfl _ _ 24 rfl (w.heap.size + 1) Tryz.underlying24 Tryz.infoBind' lo cap ys rfl D4.bo w2.heap.size (BI.mk oa on oc o 4 0 ⟨#[116, 119, 101, 110, 116, 121, 45, 98, 121, 116, 101, 115, 45, 111, 102, 45, 116, 101, 120, 116]⟩ none 0 0 []) rfl (bind_news w2 (BI.mk oa on oc o 4 0 ⟨#[116, 119, 101, 110, 116, 121, 45, 98, 121, 116, 101, 115, 45, 111, 102, 45, 116, 101, 120, 116]⟩ none 0 0 [])) NEW4 NEW.nd HAP (by omega) hsz4 ?_; intro lo' cap' w5 hb5 hg5; have D5 := D4.push hg5 hb5 hlt; have kp5 := (Only.of_grown hg5).kept D4.pbox (fun hc => box_apart D4.bo D4.pbox (List.mem_append_left _ hc)); obtain ⟨⟨qc0, qc1, qc2, qc3, qc4⟩, pf0, pf1, pf2, pf3, pf4⟩ := cells5 kp5)
                refine hK.out _ _ trivial (fun _ => ?_)
                clear hK K
                refine wpAnyH_take (i := 8) (oi := _) (v := ?_) rfl (by kernel_rfl) (by kernel_rfl) (by kernel_rfl) (fun _ _ _ h => h) (Or.inl ⟨by rfl, ?_⟩) trivial ?_
                rotate_left
                · (intro wY _; go_simp; try with_reducible rfl)
                try simp only [Act.put]
                try simp only [List.setIfInBounds_toArray]
                try simp only [List.set_cons_succ]
                try simp only [List.set_cons_zero]
                refine wpAnyH_ready (rs := [9]) (by kernel_rfl) (by simp) ?_
                refine AllReadyH.cons rfl (fun K hK => ?_) ?_
                · go_simp
                  refine hK.out _ _ trivial (fun _ => ?_)
                  clear hK K
                  refine wpAnyH_done (by kernel_rfl) ?_ _
                  obtain ⟨yy, hyl, DX⟩ : ∃ yy : List BI, yy.length = ys.length + 1 ∧ ASt w (w5.setCell ⟨pb, 4, none⟩ (.slice lo' (ys.length + 1) cap')) pb C a0 l0 c0 z0 k id a b yy lo' cap' := ⟨_, by simp, D5⟩
                  clear HDS
                  have HDX := hide DX
                  have HC5 := hide (cells5 DX.pbox).1.2.2.2.2
                  clear DX D5 p0 p1 p2 p3 p4 qa0 qa1 qa2 qa3 qa4 qc0 qc1 qc2 qc3 qc4 qd0 qd1 qd2 qd3 qd4 pf0 pf1 pf2 pf3 pf4
                  generalize w5.setCell ⟨pb, 4, none⟩ (.slice lo' (ys.length + 1) cap') = wx at *
                  go_wp2
                  go_roundw
                  case rel => exact ⟨yy, lo', cap', by omega, HDX.out⟩
                  case measure =>
                    rw [HC5.out, HC0.out]
                    simp only [Option.getD_some, lenOf]
                    omega
                exact AllReadyH.nil

              exact AllReadyH.nil

            exact AllReadyH.nil

          exact AllReadyH.nil

        exact AllReadyH.nil

      · clear p0 p1 p2 p3 p4
        have m1 : ¬ pb = w.heap.size := by have := HDS.out.low; omega
        obtain ⟨⟨t0, t1, t2, t3, t4⟩, -⟩ := cells5 HDS.out.pbox
        obtain ⟨⟨d0, d1, d2, d3, d4⟩, e0, e1, e2, e3, e4⟩ := cells5 HDS.out.rbox
        go_wp2
        refine bodyPost_ret (v := .agg #[.int .i64 k, .int .i64 id, .int .i64 a, .int .i64 b, .slice lo ys.length cap]) (by simp [results, Tryz.results25, go_sem, *]) rfl ⟨_, _, _, _, ys, _, _, rfl, by omega, ?_, ?_⟩
        · refine BOwns.lt (base := w.heap.size + 1) ?_ (by omega)
          repeat (refine BOwns.set_below ?_ (by omega))
          exact HDS.out.bo
        · refine HDS.out.went.madeAt (B := w.heap.size) ?_ hlt (Nat.le_refl _)
          repeat (refine below_set ?_ (Nat.le_refl _) _ _)
          exact Below.refl _ _
  have m1 : ¬ pb = w.heap.size := by have := HDS.out.low; omega
  obtain ⟨⟨t0, t1, t2, t3, t4⟩, -⟩ := cells5 HDS.out.pbox
  obtain ⟨⟨d0, d1, d2, d3, d4⟩, e0, e1, e2, e3, e4⟩ := cells5 HDS.out.rbox
  go_wp2
  refine bodyPost_ret (v := .agg #[.int .i64 k, .int .i64 id, .int .i64 a, .int .i64 b, .slice lo ys.length cap]) (by simp [results, Tryz.results25, go_sem, *]) rfl ⟨_, _, _, _, ys, _, _, rfl, by omega, ?_, ?_⟩
  · refine BOwns.lt (base := w.heap.size + 1) ?_ (by omega)
    repeat (refine BOwns.set_below ?_ (by omega))
    exact HDS.out.bo
  · refine HDS.out.went.madeAt (B := w.heap.size) ?_ hlt (Nat.le_refl _)
    repeat (refine below_set ?_ (Nat.le_refl _) _ _)
    exact Below.refl _ _

def DrawnOne (w w' : World) (e : Ending) : Prop :=
  ∃ (k id a b : Int) (ys : List BI) (lo : Option Addr) (cap : Nat), e = .returned (.agg #[.int .i64 k, .int .i64 id, .int .i64 a, .int .i64 b, .slice lo ys.length cap]) ∧ BRow w' lo ys.length cap ys ∧ Below w.heap.size w w'

theorem putP_len (k id a b : Int) (bs : List BD) : (putP k id a b bs).length ≤ 1000 := by
  unfold putP
  split
  · rename_i h
    have := putTlv_length [] k (bodyP id a b bs)
    simp at this
    omega
  · simp

theorem brow_of {w : World} {base : Nat} {ao : Option Addr} {n cap : Nat} {l : List BI} (row : w.ownsRow base 84 5 (.slice ao n cap) n (cBs l)) (hin : ∀ x ∈ l, x.In w) : BRow w ao n cap l := by
  have hl : l.length = n := by have := row.1; rw [cBs_length] at this; omega
  rcases row.2 with ⟨e, h0⟩ | ⟨g, cap', cur, e, _, _, h1, h2, _⟩
  · cases e
    exact ⟨hl, Nat.le_refl _, Nat.zero_le _, fun _ => rfl, hin, .inl rfl⟩
  · cases e
    refine ⟨hl, h1, h2, (by intro h; cases h), hin, .inr ⟨g, 0, rfl, fun i x hi => ?_⟩⟩
    obtain ⟨hil, hx⟩ := List.getElem?_eq_some_iff.1 hi
    have el : l = l.take i ++ x :: l.drop (i + 1) := by rw [← hx, ← List.drop_eq_getElem_cons hil, List.take_append_drop]
    have at_ : ∀ j, j < 5 → w.cell? ⟨g, i * 5 + j, none⟩ = x.cs[j]? := by
      intro j hj
      rw [row.cellAt _ (by omega)]
      have := cBs_at (l.take i) x (l.drop (i + 1)) j hj
      rw [← el, List.length_take, Nat.min_eq_left (by omega)] at this
      exact this
    have a0 := at_ 0 (by omega); have a1 := at_ 1 (by omega); have a2 := at_ 2 (by omega); have a3 := at_ 3 (by omega); have a4 := at_ 4 (by omega)
    unfold BI.At
    rw [Nat.zero_add]
    exact ⟨a0, a1, a2, a3, a4⟩

theorem cBs_oneCell (l : List BI) : ∀ u ∈ cBs l, u.oneCell' = true := by
  intro u hu
  obtain ⟨y, _, hu⟩ := List.mem_flatMap.1 hu
  exact cs_oneCell y u hu

/-- 'append' of owned binds to an empty row, as one step of a region that draws its order. -/
theorem step_copy_binds {P : Program} {ops : Array Oper} {o : Oper} {a : Act} {w : World} {K : Act → World → Prop} {Q : Exit → Act → World → Prop} {E : Prop} (hgd : o.guard = none)
    (s x : Operand) (t : TypeId) (ho : o.op = Op.call { callee := Callee.builtin Builtin.append, args := #[s, x], argTypes := #[t, t] }) (base : Nat)
    (ht : P.underlying t = some (TypeDesc.slice 84)) (hinfo : (P.info? 84).map (fun i => (i.zero, i.size, i.bytes)) = some (some (.agg #[.slice none 0 0, .int .i64 0, .int .i64 0, .string ⟨#[]⟩, .slice none 0 0]), 5, 80))
    (B : Nat) (hs : a.eval s = .slice (some ⟨B, 0, none⟩) 0 0) (hown : w.ownsRow base 84 5 (.slice (some ⟨B, 0, none⟩) 0 0) 0 (cBs [])) (lo : Option Addr) (cap : Nat) (ys : List BI) (hx : a.eval x = .slice lo ys.length cap) (base' : Nat) (hb : BOwns w base' lo ys.length cap ys) (hB : ∀ b ∈ allB lo ys, b ≠ B) (hn : ys.length ≤ 1000) (hbase : base ≤ w.heap.size)
    (h : ∀ lo' cap' w', BRow w' lo' ys.length cap' ys → BOwns w' base' lo ys.length cap ys → w.grownBy w' (some B) → K (a.put o.dst (.slice lo' ys.length cap')) w') :
    if Region.wanted o (yielded ops a.tmps) = true then Oper.wp P o a w K Q else E := by
  have hw : Region.wanted o (yielded ops a.tmps) = true := by simp [Region.wanted, hgd]
  rw [if_pos hw]
  obtain ⟨i0, hi, hz0, hz1, hz2⟩ := info_parts hinfo
  cases lo with
  | none =>
    have R := hb.brow
    have hc0 : cap = 0 := R.nil rfl
    have hl0 : ys.length = 0 := by have := R.le; omega
    obtain rfl : ys = [] := List.length_eq_zero_iff.1 hl0
    subst hc0
    have hrun := run_append_owned_none (P := P) (w := w) base t o.type _ i0 5 ht hi _ _ _ hown
    have hx' : a.eval x = .slice none 0 0 := hx
    unfold Oper.wp
    simp [execOp, ho, resolve, invoke, builtin, hs, hx', hrun, Result.andThen, Oper.upon]
    exact h _ _ _ (brow_of hown (by intro y hy; cases hy)) hb (World.grownBy.refl _ _)
  | some ad =>
    rcases hb.row.2 with ⟨e, _⟩ | ⟨g, cap', cur, e, _, _, h1, h2, _⟩
    · cases e
    cases e
    refine wp_append_own w s x t ho base 84 i0 (.agg #[.slice none 0 0, .int .i64 0, .int .i64 0, .string ⟨#[]⟩, .slice none 0 0]) 5 80 ht hi hz0 hz1 hz2 rfl (by decide) _ 0 (cBs []) hs hown ⟨g, 0, none⟩ ys.length cap (cBs ys) hx (cBs_length ys) (fun j u hj => ?_) (cBs_oneCell ys) (by unfold maxLen; omega) (by omega) hbase ?_
    · have hjl := (List.getElem?_eq_some_iff.1 hj).1
      rw [cBs_length] at hjl
      rw [add_none, Nat.zero_add, hb.row.cellAt _ (by omega)]
      exact hj
    · intro v' w' how hgr _
      obtain ⟨lo', cap', rfl⟩ := own_slice how
      have hgr' : w.grownBy w' (some B) := hgr
      have O : Only [B] w w' := ⟨hgr'.os, hgr'.tape, hgr'.output, hgr'.size, fun k hk hn => hgr'.block k hk (fun e => by cases e; simp at hn)⟩
      have hb' := hb.only O (fun b hb1 hb2 => hB b hb1 (List.mem_singleton.1 hb2))
      have how' : w'.ownsRow base 84 5 (.slice lo' ys.length cap') ys.length (cBs ys) := by simpa [cBs] using how
      have := h lo' cap' w' (brow_of how' (fun x hx => (hb'.item x hx).in)) hb' hgr'
      simpa using this

def DrawnBB (w w' : World) (e : Ending) : Prop :=
  ∃ (lo : Option Addr) (n cap : Nat) (l : List BI) (lo' : Option Addr) (n' cap' : Nat) (l' : List BI), e = .returned (.tuple #[.slice lo n cap, .slice lo' n' cap']) ∧ BRow w' lo n cap l ∧ BRow w' lo' n' cap' l' ∧ Below w.heap.size w w'

end Go.Proofs.YtjkmagpppfnlpaaGreatDoor
