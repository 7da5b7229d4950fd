/-
  A frame of its bytes, as the program reads it.
-/
import Derived.Test.YtanonfdgckanhaaFrameCutter
import Derived.Test.YtanonfdgckanhaaFrameOk
namespace Go.Proofs.Ytanonfdgckanhaa
open Go.RowKit

/-- Bytes do not lie in a frame's box. -/
theorem row_box {w w' : World} {fb : Nat} {K N S : Int} {a : Option Addr} {l c : Nat} {t : TypeId} (h : w.heap[fb]? = some (.cells #[.int .i64 K, .int .i64 N, .int .i64 S, .slice a l c] t)) (hg : w.grownBy w' (some fb)) {a2 : Option Addr} {n2 c2 : Nat} {z2 : List Int} (r : Row w a2 n2 c2 z2) : Row w' a2 n2 c2 z2 := by
  refine ⟨r.size, r.le, r.top, r.nil, r.byte, ?_⟩
  rcases r.cell with h0 | ⟨b, off, ha, hc⟩
  · exact .inl h0
  · refine .inr ⟨b, off, ha, fun i hi => hg.cell (hc i hi) ?_⟩
    intro e
    simp only [Option.some.injEq] at e
    have hi' := hc i hi
    subst e
    rw [show w.cell? ⟨b, off + i, none⟩ = #[Value.int .i64 K, .int .i64 N, .int .i64 S, .slice a l c][off + i]? by simp [World.cell?, h]] at hi'
    match hk : off + i with
    | 0 => rw [hk] at hi'; simp at hi'
    | 1 => rw [hk] at hi'; simp at hi'
    | 2 => rw [hk] at hi'; simp at hi'
    | 3 => rw [hk] at hi'; simp at hi'
    | k + 4 => rw [hk] at hi'; simp at hi'

/-- While a frame is read: the box of the answer, the cutter, the frame so far. -/
structure GSt (w W : World) (r0 rb fb : Nat) (ao : Option Addr) (n c : Nat) (z : List Int) (bad : Bool) (K N S : Int) (a : Option Addr) (l k : Nat) : Prop where
  res : W.heap[r0]? = some (.cells #[.int .i64 0, .int .i64 0, .int .i64 0, .slice none 0 0] 25)
  cut : FCut W rb ao n c z bad
  fr : W.heap[fb]? = some (.cells #[.int .i64 K, .int .i64 N, .int .i64 S, .slice a l k] 25)
  bel : Below w.heap.size w W
  o1 : w.heap.size ≤ r0
  o2 : r0 < rb
  o3 : rb < fb
  o4 : fb < W.heap.size

theorem GSt.read {w W W' : World} {r0 rb fb : Nat} {ao : Option Addr} {n c : Nat} {z : List Int} {bad : Bool} {K N S : Int} {a : Option Addr} {l k : Nat} (h : GSt w W r0 rb fb ao n c z bad K N S a l k) (hg : W.grownBy W' (some rb)) {ao' : Option Addr} {n' c' : Nat} {z' : List Int} {bad' : Bool} (hc : FCut W' rb ao' n' c' z' bad') : GSt w W' r0 rb fb ao' n' c' z' bad' K N S a l k where
  res := kept_grown h.res hg (by intro j e; cases e; have := h.o2; omega)
  cut := hc
  fr := kept_grown h.fr hg (by intro j e; cases e; have := h.o3; omega)
  bel := belowGr h.bel hg (by have := h.o1; have := h.o2; omega)
  o1 := h.o1
  o2 := h.o2
  o3 := h.o3
  o4 := Nat.lt_of_lt_of_le h.o4 hg.size

theorem GSt.put {w W : World} {r0 rb fb : Nat} {ao : Option Addr} {n c : Nat} {z : List Int} {bad : Bool} {K N S : Int} {a : Option Addr} {l k : Nat} (h : GSt w W r0 rb fb ao n c z bad K N S a l k) (j : Nat) (u : Value) {K' N' S' : Int} {a' : Option Addr} {l' k' : Nat} (hf : (W.setCell ⟨fb, j, none⟩ u).heap[fb]? = some (.cells #[.int .i64 K', .int .i64 N', .int .i64 S', .slice a' l' k'] 25)) : GSt w (W.setCell ⟨fb, j, none⟩ u) r0 rb fb ao n c z bad K' N' S' a' l' k' where
  res := kept_set h.res (by have := h.o2; have := h.o3; omega)
  cut := ⟨kept_set h.cut.box (by have := h.o3; omega), row_box h.fr (grown_set j u) h.cut.row, h.cut.small⟩
  fr := hf
  bel := below_set h.bel (by have := h.o1; have := h.o2; have := h.o3; omega) j u
  o1 := h.o1
  o2 := h.o2
  o3 := h.o3
  o4 := Nat.lt_of_lt_of_le h.o4 (grown_set (w := W) (rb := fb) j u).size

theorem GSt.put1 {w W : World} {r0 rb fb : Nat} {ao : Option Addr} {n c : Nat} {z : List Int} {bad : Bool} {K N S : Int} {a : Option Addr} {l k : Nat} (h : GSt w W r0 rb fb ao n c z bad K N S a l k) (m : Int) : GSt w (W.setCell ⟨fb, 1, none⟩ (.int .i64 m)) r0 rb fb ao n c z bad K m S a l k :=
  h.put 1 _ (by have := set_block5 (j := 1) h.fr (.int .i64 m); simpa using this)
theorem GSt.put2 {w W : World} {r0 rb fb : Nat} {ao : Option Addr} {n c : Nat} {z : List Int} {bad : Bool} {K N S : Int} {a : Option Addr} {l k : Nat} (h : GSt w W r0 rb fb ao n c z bad K N S a l k) (m : Int) : GSt w (W.setCell ⟨fb, 2, none⟩ (.int .i64 m)) r0 rb fb ao n c z bad K N m a l k :=
  h.put 2 _ (by have := set_block5 (j := 2) h.fr (.int .i64 m); simpa using this)
theorem GSt.put3 {w W : World} {r0 rb fb : Nat} {ao : Option Addr} {n c : Nat} {z : List Int} {bad : Bool} {K N S : Int} {a : Option Addr} {l k : Nat} (h : GSt w W r0 rb fb ao n c z bad K N S a l k) (a' : Option Addr) (l' k' : Nat) : GSt w (W.setCell ⟨fb, 3, none⟩ (.slice a' l' k')) r0 rb fb ao n c z bad K N S a' l' k' :=
  h.put 3 _ (by have := set_block5 (j := 3) h.fr (.slice a' l' k'); simpa using this)

theorem gst_new {w w1 : World} {ao : Option Addr} {n c : Nat} {bad : Bool} (d : Int) (hg : ((w.alloc (.cells #[.int .i64 0, .int .i64 0, .int .i64 0, .slice none 0 0] 25)).alloc (.cells #[.slice ao n c, .bool false] 64)).grownBy w1 (some (w.heap.size + 1))) {ao' : Option Addr} {n' c' : Nat} {z' : List Int} (hc : FCut w1 (w.heap.size + 1) ao' n' c' z' bad) :
    GSt w (w1.alloc (.cells #[.int .i64 d, .int .i64 0, .int .i64 0, .slice none 0 0] 25)) w.heap.size (w.heap.size + 1) w1.heap.size ao' n' c' z' bad d 0 0 none 0 0 := by
  have hn : w.heap.size + 1 + 1 ≤ w1.heap.size := by have := hg.size; simpa using this
  have b1 : Below w.heap.size w w1 := belowGr (below_two w _ _) hg (by omega)
  refine ⟨?_, hc.below (below_one _ _), block_last _ _, gr_alloc b1 _, Nat.le_refl _, by omega, by omega, by simp⟩
  refine kept_block (kept_grown (kept_block (block_last w _) (below_one _ _)) hg (by intro j e; cases e; omega)) (below_one _ _)

theorem fcut_new (w : World) (ao : Option Addr) (n c : Nat) (zs : List Int) (hr : Row w ao n c zs) (hs : n ≤ 1048576) (o : Obj) : FCut ((w.alloc o).alloc (.cells #[.slice ao n c, .bool false] 64)) (w.heap.size + 1) ao n c zs false :=
  ⟨by have := block_last (w.alloc o) (.cells #[.slice ao n c, .bool false] 64); simpa using this, hr.below (below_two _ _ _), hs⟩

set_option maxRecDepth 100000 in
set_option maxHeartbeats 4000000 in
theorem implGetFrame_made (ao : Option Addr) (n c : Nat) (z : List Int) (K N S : Int) (O : List Int) (ok : Bool) (hG : gotF z = (K, N, S, O, ok)) (w : World) (h : Row w ao n c z) (hs : n ≤ 1048576) :
    Calls Try.prog 13 #[.slice ao n c] w fun e w' => ∃ ao' cap, e = .returned (.tuple #[.agg #[.int .i64 K, .int .i64 N, .int .i64 S, .slice ao' O.length cap], .bool ok]) ∧
      w'.ownsRow w.heap.size 5 1 (.slice ao' O.length cap) O.length (cB O) ∧ Row w' ao' O.length cap O ∧ Below w.heap.size w w' := by
  have HG := hide hG
  clear hG
  have hbz := h.byte
  have HF := fcut_new w ao n c z h hs (.cells #[.int .i64 0, .int .i64 0, .int .i64 0, .slice none 0 0] 25)
  have HR := hide h
  clear h
  go_enter Try.func13, Try.ntmps13
  go_wp2_with fail
  refine (cnum_any _ ao n c z 1 false _ HF).mono ?_
  rintro e w1 ⟨d, ao1, n1, cp1, z1, b1, rfl, h1, g1, C1⟩
  have s1 := gst_new d g1 h1
  have HC1 := hide C1
  clear HF h1 g1 C1
  go_wp2_with fail
  refine (cnum_any _ ao1 n1 cp1 z1 1 b1 _ s1.cut).mono ?_
  rintro e w2 ⟨s, ao2, n2, cp2, z2, b2, rfl, h2, g2, C2⟩
  have s2 := s1.read g2 h2
  obtain ⟨⟨x0, x1, x2, x3⟩, f0, f1, f2, f3⟩ := cells4 s2.fr
  have s2' := s2.put1 s
  generalize hfb : w1.heap.size = fb at *
  have HC2 := hide C2
  clear s1 h2 g2 C2 s2
  go_wp2_with fail
  refine (cnet_any _ ao2 n2 cp2 z2 b2 _ s2'.cut).mono ?_
  rintro e w3 ⟨g, ao3, n3, cp3, z3, b3, rfl, h3, g3, C3⟩
  have s3 := s2'.read g3 h3
  clear x0 x1 x2 x3 f0 f1 f2 f3
  obtain ⟨⟨x0, x1, x2, x3⟩, f0, f1, f2, f3⟩ := cells4 s3.fr
  have s3' := s3.put2 g
  have HC3 := hide C3
  clear s2' h3 g3 C3 s3
  go_wp2_with fail
  refine (cpart_any _ ao3 n3 cp3 z3 3 b3 _ s3'.cut).mono ?_
  rintro e w4 ⟨bo, x, bc, ao4, n4, cp4, z4, b4, rfl, r4, h4, g4, o4, hx4, C4⟩
  have s4 := s3'.read g4 h4
  have o4' := own_set o4 (g := fb) (j := 3) (u := .slice bo x.length bc) s3'.o4
  clear x0 x1 x2 x3 f0 f1 f2 f3
  obtain ⟨⟨x0, x1, x2, x3⟩, f0, f1, f2, f3⟩ := cells4 s4.fr
  have s4' := s4.put3 bo x.length bc
  have hgot := cut_frame hbz HC1.out HC2.out HC3.out C4
  rw [HG.out] at hgot
  have o5 := o4'
  generalize hB : (w3.setCell ⟨fb, 2, none⟩ (.int .i64 g)).heap.size = B at o5
  have hBw : w.heap.size < B := by have := s3'.o4; have := s3'.o3; omega
  have hz4 := s4.cut.row.size
  have ne1 : ¬ fb = w.heap.size + 1 := by have := s4.o3; omega
  have ne2 : ¬ fb = w.heap.size := by have := s4.o3; omega
  obtain ⟨⟨y0, y1⟩, e0, e1⟩ := cells2 s4.cut.box
  obtain ⟨⟨v0, v1, v2, v3⟩, j0, j1, j2, j3⟩ := cells4 s4.res
  have r5 := row_own o5 r4.byte
  have hbx := r4.byte
  have hn4 := s4.cut.small
  have H4 := hide s4'
  have HO := hide o5
  have HR5 := hide r5
  clear s4 s4' s3' o4 o4' o5 r5 h4 g4 C4 HC1 HC2 HC3 HR HG r4 hB
  cases b4 with
  | true =>
    rw [if_neg (by simp)] at hgot
    cases hgot
    go_wp2
    refine bodyPost_ret (v := .tuple #[.agg #[.int .i64 0, .int .i64 0, .int .i64 0, .slice none 0 0], .bool false]) (by simp [results, Try.results13, go_sem, *]) rfl ⟨none, 0, rfl, World.ownsRow_nil _ _ _ _, row_nil _, below_set4 H4.out.bel (Nat.le_refl _) _ _ _ _⟩
  | false =>
    by_cases hn0 : n4 = 0
    · subst hn0
      cases hk : okF d s g x.length with
      | false =>
        rw [if_neg (by rw [hk]; simp)] at hgot
        cases hgot
        have HK := hide hk
        clear hk
        go_wp2_with fail
        refine (implFrameOk_any d s g bo x.length bc x _ HR5.out).mono ?_
        rintro e w6 ⟨rfl, hb6⟩
        rw [HK.out]
        clear x0 x1 x2 x3 f0 f1 f2 f3 y0 y1 e0 e1 v0 v1 v2 v3 j0 j1 j2 j3
        obtain ⟨⟨v0, v1, v2, v3⟩, j0, j1, j2, j3⟩ := cells4 (kept_block H4.out.res hb6)
        have HB6 := hide (gr_trans H4.out.bel hb6)
        clear hb6
        go_wp2
        refine bodyPost_ret (v := .tuple #[.agg #[.int .i64 0, .int .i64 0, .int .i64 0, .slice none 0 0], .bool false]) (by simp [results, Try.results13, go_sem, *]) rfl ⟨none, 0, rfl, World.ownsRow_nil _ _ _ _, row_nil _, below_set4 HB6.out (Nat.le_refl _) _ _ _ _⟩
      | true =>
        rw [if_pos ⟨rfl, by omega, hk⟩] at hgot
        simp only [Prod.mk.injEq] at hgot
        obtain ⟨e1', e2', e3', e4', e5'⟩ := hgot
        subst e1' e2' e3' e4' e5'
        have HK := hide hk
        clear hk
        go_wp2_with fail
        refine (implFrameOk_any K N S bo O.length bc O _ HR5.out).mono ?_
        rintro e w6 ⟨rfl, hb6⟩
        rw [HK.out]
        clear x0 x1 x2 x3 f0 f1 f2 f3 y0 y1 e0 e1 v0 v1 v2 v3 j0 j1 j2 j3
        obtain ⟨⟨v0, v1, v2, v3⟩, j0, j1, j2, j3⟩ := cells4 (kept_block H4.out.res hb6)
        obtain ⟨⟨x0, x1, x2, x3⟩, f0, f1, f2, f3⟩ := cells4 (kept_block H4.out.fr hb6)
        have HB6 := hide (gr_trans H4.out.bel hb6)
        have HO6 := hide (own_below HO.out hb6)
        clear hb6
        go_wp2
        have o6 := own_set4 HO6.out (g := w.heap.size) hBw (.int .i64 K) (.int .i64 N) (.int .i64 S) (.slice bo O.length bc)
        refine bodyPost_ret (v := .tuple #[.agg #[.int .i64 K, .int .i64 N, .int .i64 S, .slice bo O.length bc], .bool true]) (by simp [results, Try.results13, go_sem, *]) rfl ⟨bo, bc, rfl, own_lt o6 (by omega), row_own o6 hbx, below_set4 HB6.out (Nat.le_refl _) _ _ _ _⟩
    · rw [if_neg (by rintro ⟨_, h, _⟩; omega)] at hgot
      cases hgot
      go_wp2
      refine bodyPost_ret (v := .tuple #[.agg #[.int .i64 0, .int .i64 0, .int .i64 0, .slice none 0 0], .bool false]) (by simp [results, Try.results13, go_sem, *]) rfl ⟨none, 0, rfl, World.ownsRow_nil _ _ _ _, row_nil _, below_set4 H4.out.bel (Nat.le_refl _) _ _ _ _⟩

end Go.Proofs.Ytanonfdgckanhaa
