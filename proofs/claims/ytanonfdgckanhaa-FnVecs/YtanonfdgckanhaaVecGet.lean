/-
  A vector of its bytes, as the program reads it.
-/
import Derived.Test.YtanonfdgckanhaaFrameCutter
import Derived.Test.YtanonfdgckanhaaVecOk
namespace Go.Proofs.Ytanonfdgckanhaa
open Go.RowKit

/-- Bytes do not lie in a box of five numbers. -/
theorem row_box5 {w w' : World} {fb : Nat} {R C H B P : Int} {t : TypeId} (h : w.heap[fb]? = some (.cells #[.int .i64 R, .int .i64 C, .int .i64 H, .int .i64 B, .int .i64 P] t)) (hg : w.grownBy w' (some fb)) {a2 : Option Addr} {n2 c2 : Nat} {z2 : List Int} (r : Row w a2 n2 c2 z2) : Row w' a2 n2 c2 z2 := by
  refine ⟨r.size, r.le, r.top, r.nil, r.byte, ?_⟩
  rcases r.cell with h0 | ⟨b, off, ha, hc⟩
  · exact .inl h0
  · refine .inr ⟨b, off, ha, fun i hi => hg.cell (hc i hi) ?_⟩
    intro e
    simp only [Option.some.injEq] at e
    have hi' := hc i hi
    subst e
    rw [show w.cell? ⟨b, off + i, none⟩ = #[Value.int .i64 R, .int .i64 C, .int .i64 H, .int .i64 B, .int .i64 P][off + i]? by simp [World.cell?, h]] at hi'
    match hk : off + i with
    | 0 => rw [hk] at hi'; simp at hi'
    | 1 => rw [hk] at hi'; simp at hi'
    | 2 => rw [hk] at hi'; simp at hi'
    | 3 => rw [hk] at hi'; simp at hi'
    | 4 => rw [hk] at hi'; simp at hi'
    | k + 5 => rw [hk] at hi'; simp at hi'

/-- While a vector is read: the box of the answer, the cutter, the five numbers so far. -/
structure VSt (w W : World) (r0 rb fb : Nat) (ao : Option Addr) (n c : Nat) (z : List Int) (bad : Bool) (R C H B P : Int) : Prop where
  res : W.heap[r0]? = some (.cells #[.int .i64 0, .int .i64 0, .int .i64 0, .int .i64 0, .int .i64 0] 38)
  cut : FCut W rb ao n c z bad
  fr : W.heap[fb]? = some (.cells #[.int .i64 R, .int .i64 C, .int .i64 H, .int .i64 B, .int .i64 P] 79)
  bel : Below w.heap.size w W
  o1 : w.heap.size ≤ r0
  o2 : r0 < rb
  o3 : rb < fb
  o4 : fb < W.heap.size

theorem VSt.read {w W W' : World} {r0 rb fb : Nat} {ao : Option Addr} {n c : Nat} {z : List Int} {bad : Bool} {R C H B P : Int} (h : VSt w W r0 rb fb ao n c z bad R C H B P) (hg : W.grownBy W' (some rb)) {ao' : Option Addr} {n' c' : Nat} {z' : List Int} {bad' : Bool} (hc : FCut W' rb ao' n' c' z' bad') : VSt w W' r0 rb fb ao' n' c' z' bad' R C H B P where
  res := kept_grown h.res hg (by intro j e; cases e; have := h.o2; omega)
  cut := hc
  fr := kept_grown h.fr hg (by intro j e; cases e; have := h.o3; omega)
  bel := belowGr h.bel hg (by have := h.o1; have := h.o2; omega)
  o1 := h.o1
  o2 := h.o2
  o3 := h.o3
  o4 := Nat.lt_of_lt_of_le h.o4 hg.size

theorem VSt.put {w W : World} {r0 rb fb : Nat} {ao : Option Addr} {n c : Nat} {z : List Int} {bad : Bool} {R C H B P : Int} (h : VSt w W r0 rb fb ao n c z bad R C H B P) (j : Nat) (u : Value) {R' C' H' B' P' : Int} (hf : (W.setCell ⟨fb, j, none⟩ u).heap[fb]? = some (.cells #[.int .i64 R', .int .i64 C', .int .i64 H', .int .i64 B', .int .i64 P'] 79)) : VSt w (W.setCell ⟨fb, j, none⟩ u) r0 rb fb ao n c z bad R' C' H' B' P' where
  res := kept_set h.res (by have := h.o2; have := h.o3; omega)
  cut := ⟨kept_set h.cut.box (by have := h.o3; omega), row_box5 h.fr (grown_set j u) h.cut.row, h.cut.small⟩
  fr := hf
  bel := below_set h.bel (by have := h.o1; have := h.o2; have := h.o3; omega) j u
  o1 := h.o1
  o2 := h.o2
  o3 := h.o3
  o4 := Nat.lt_of_lt_of_le h.o4 (grown_set (w := W) (rb := fb) j u).size

theorem VSt.put0 {w W : World} {r0 rb fb : Nat} {ao : Option Addr} {n c : Nat} {z : List Int} {bad : Bool} {R C H B P : Int} (h : VSt w W r0 rb fb ao n c z bad R C H B P) (m : Int) : VSt w (W.setCell ⟨fb, 0, none⟩ (.int .i64 m)) r0 rb fb ao n c z bad m C H B P :=
  h.put 0 _ (by have := set_block5 (j := 0) h.fr (.int .i64 m); simpa using this)
theorem VSt.put1 {w W : World} {r0 rb fb : Nat} {ao : Option Addr} {n c : Nat} {z : List Int} {bad : Bool} {R C H B P : Int} (h : VSt w W r0 rb fb ao n c z bad R C H B P) (m : Int) : VSt w (W.setCell ⟨fb, 1, none⟩ (.int .i64 m)) r0 rb fb ao n c z bad R m H B P :=
  h.put 1 _ (by have := set_block5 (j := 1) h.fr (.int .i64 m); simpa using this)
theorem VSt.put2 {w W : World} {r0 rb fb : Nat} {ao : Option Addr} {n c : Nat} {z : List Int} {bad : Bool} {R C H B P : Int} (h : VSt w W r0 rb fb ao n c z bad R C H B P) (m : Int) : VSt w (W.setCell ⟨fb, 2, none⟩ (.int .i64 m)) r0 rb fb ao n c z bad R C m B P :=
  h.put 2 _ (by have := set_block5 (j := 2) h.fr (.int .i64 m); simpa using this)
theorem VSt.put3 {w W : World} {r0 rb fb : Nat} {ao : Option Addr} {n c : Nat} {z : List Int} {bad : Bool} {R C H B P : Int} (h : VSt w W r0 rb fb ao n c z bad R C H B P) (m : Int) : VSt w (W.setCell ⟨fb, 3, none⟩ (.int .i64 m)) r0 rb fb ao n c z bad R C H m P :=
  h.put 3 _ (by have := set_block5 (j := 3) h.fr (.int .i64 m); simpa using this)
theorem VSt.put4 {w W : World} {r0 rb fb : Nat} {ao : Option Addr} {n c : Nat} {z : List Int} {bad : Bool} {R C H B P : Int} (h : VSt w W r0 rb fb ao n c z bad R C H B P) (m : Int) : VSt w (W.setCell ⟨fb, 4, none⟩ (.int .i64 m)) r0 rb fb ao n c z bad R C H B m :=
  h.put 4 _ (by have := set_block5 (j := 4) h.fr (.int .i64 m); simpa using this)

theorem vst_new (w : World) (ao : Option Addr) (n c : Nat) (z : List Int) (hr : Row w ao n c z) (hs : n ≤ 1048576) :
    VSt w (((w.alloc (.cells #[.int .i64 0, .int .i64 0, .int .i64 0, .int .i64 0, .int .i64 0] 38)).alloc (.cells #[.slice ao n c, .bool false] 64)).alloc (.cells #[.int .i64 0, .int .i64 0, .int .i64 0, .int .i64 0, .int .i64 0] 79)) w.heap.size (w.heap.size + 1) (w.heap.size + 1 + 1) ao n c z false 0 0 0 0 0 where
  res := kept_block (kept_block (block_last w _) (below_one _ _)) (below_one _ _)
  cut := ⟨kept_block (block_at (by simp)) (below_one _ _), hr.below (below_three _ _ _ _), hs⟩
  fr := block_at (by simp)
  bel := below_three _ _ _ _
  o1 := Nat.le_refl _
  o2 := by omega
  o3 := by omega
  o4 := by simp

/-- What has been read behind k numbers. -/
def ReadV (z : List Int) : Nat → Int → Int → Int → Int → Int → List Int → Bool → Prop
  | 0, _, _, _, _, _, z', b => z' = z ∧ b = false
  | 1, r, _, _, _, _, z', b => CutN 2 z false r z' b
  | 2, r, c, _, _, _, z', b => ∃ z1 b1, CutN 2 z false r z1 b1 ∧ CutN 2 z1 b1 c z' b
  | 3, r, c, h, _, _, z', b => ∃ z1 b1 z2 b2, CutN 2 z false r z1 b1 ∧ CutN 2 z1 b1 c z2 b2 ∧ CutN 2 z2 b2 h z' b
  | 4, r, c, h, d, _, z', b => ∃ z1 b1 z2 b2 z3 b3, CutN 2 z false r z1 b1 ∧ CutN 2 z1 b1 c z2 b2 ∧ CutN 2 z2 b2 h z3 b3 ∧ CutN 2 z3 b3 d z' b
  | _, r, c, h, d, p, z', b => ∃ z1 b1 z2 b2 z3 b3 z4 b4, CutN 2 z false r z1 b1 ∧ CutN 2 z1 b1 c z2 b2 ∧ CutN 2 z2 b2 h z3 b3 ∧ CutN 2 z3 b3 d z4 b4 ∧ CutN 2 z4 b4 p z' b

set_option maxRecDepth 100000 in
set_option maxHeartbeats 4000000 in
theorem implGetVec_made (ao : Option Addr) (n c : Nat) (z : List Int) (R C H B P : Int) (ok : Bool) (hG : gotVc z = (R, C, H, B, P, ok)) (w : World) (h : Row w ao n c z) (hs : n ≤ 1048576) :
    Calls Try.prog 24 #[.slice ao n c] w fun e w' => e = .returned (.tuple #[.agg #[.int .i64 R, .int .i64 C, .int .i64 H, .int .i64 B, .int .i64 P], .bool ok]) ∧ Below w.heap.size w w' := by
  have HG := hide hG
  clear hG
  have hbz := h.byte
  have HS := vst_new w ao n c z h hs
  clear h
  go_enter Try.func24, Try.ntmps24
  go_wp2_with fail
  go_loopw [11] (fun i wr => ∃ (k : Nat) (r c' h d p : Int) (ao' : Option Addr) (n' cp' : Nat) (z' : List Int) (b : Bool), k ≤ 5 ∧ i = .int .i64 k ∧ VSt w wr w.heap.size (w.heap.size + 1) (w.heap.size + 1 + 1) ao' n' cp' z' b r c' h d p ∧ ReadV z k r c' h d p z' b) (fun i _ => 5 - (intOf i).toNat)
  case atStart => exact ⟨0, 0, 0, 0, 0, 0, _, _, _, _, _, Nat.zero_le _, rfl, HS, rfl, rfl⟩
  case round =>
    obtain ⟨k, r, c', h, d, p, ao', n', cp', z', b, hk, hi, st, rd⟩ := hrel
    clear HS
    rcases (show k = 0 ∨ k = 1 ∨ k = 2 ∨ k = 3 ∨ k = 4 ∨ k = 5 by omega) with rfl | rfl | rfl | rfl | rfl | rfl
    · have hi : _ = Value.int .i64 0 := hi
      subst hi
      have HRd := hide rd
      clear rd
      go_wp2_with fail
      refine (cnum_any _ ao' n' cp' z' 2 b _ st.cut).mono ?_
      rintro e w1 ⟨m, ao1, n1, cp1, z1', b1', rfl, h1, g1, C9⟩
      have s1 := st.read g1 h1
      obtain ⟨⟨x0, x1, x2, x3, x4⟩, f0, f1, f2, f3, f4⟩ := cells5 s1.fr
      have HS1 := hide (s1.put0 m)
      have HC := hide C9
      clear st h1 g1 s1 C9
      go_wp2
      go_roundw
      case rel =>
        have rd := HRd.out
        have C9 := HC.out
        obtain ⟨rfl, rfl⟩ := rd
        exact ⟨0 + 1, m, c', h, d, p, ao1, n1, cp1, z1', b1', by omega, by go_num, HS1.out, C9⟩
      case measure => simp [intOf]
    · have hi : _ = Value.int .i64 1 := hi
      subst hi
      have HRd := hide rd
      clear rd
      go_wp2_with fail
      refine (cnum_any _ ao' n' cp' z' 2 b _ st.cut).mono ?_
      rintro e w1 ⟨m, ao1, n1, cp1, z1', b1', rfl, h1, g1, C9⟩
      have s1 := st.read g1 h1
      obtain ⟨⟨x0, x1, x2, x3, x4⟩, f0, f1, f2, f3, f4⟩ := cells5 s1.fr
      have HS1 := hide (s1.put1 m)
      have HC := hide C9
      clear st h1 g1 s1 C9
      go_wp2
      go_roundw
      case rel =>
        have rd := HRd.out
        have C9 := HC.out
        skip
        exact ⟨1 + 1, r, m, h, d, p, ao1, n1, cp1, z1', b1', by omega, by go_num, HS1.out, ⟨_, _, rd, C9⟩⟩
      case measure => simp [intOf]
    · have hi : _ = Value.int .i64 2 := hi
      subst hi
      have HRd := hide rd
      clear rd
      go_wp2_with fail
      refine (cnum_any _ ao' n' cp' z' 2 b _ st.cut).mono ?_
      rintro e w1 ⟨m, ao1, n1, cp1, z1', b1', rfl, h1, g1, C9⟩
      have s1 := st.read g1 h1
      obtain ⟨⟨x0, x1, x2, x3, x4⟩, f0, f1, f2, f3, f4⟩ := cells5 s1.fr
      have HS1 := hide (s1.put2 m)
      have HC := hide C9
      clear st h1 g1 s1 C9
      go_wp2
      go_roundw
      case rel =>
        have rd := HRd.out
        have C9 := HC.out
        obtain ⟨z1, b1, c1, c2⟩ := rd
        exact ⟨2 + 1, r, c', m, d, p, ao1, n1, cp1, z1', b1', by omega, by go_num, HS1.out, ⟨_, _, _, _, c1, c2, C9⟩⟩
      case measure => simp [intOf]
    · have hi : _ = Value.int .i64 3 := hi
      subst hi
      have HRd := hide rd
      clear rd
      go_wp2_with fail
      refine (cnum_any _ ao' n' cp' z' 2 b _ st.cut).mono ?_
      rintro e w1 ⟨m, ao1, n1, cp1, z1', b1', rfl, h1, g1, C9⟩
      have s1 := st.read g1 h1
      obtain ⟨⟨x0, x1, x2, x3, x4⟩, f0, f1, f2, f3, f4⟩ := cells5 s1.fr
      have HS1 := hide (s1.put3 m)
      have HC := hide C9
      clear st h1 g1 s1 C9
      go_wp2
      go_roundw
      case rel =>
        have rd := HRd.out
        have C9 := HC.out
        obtain ⟨z1, b1, z2, b2, c1, c2, c3⟩ := rd
        exact ⟨3 + 1, r, c', h, m, p, ao1, n1, cp1, z1', b1', by omega, by go_num, HS1.out, ⟨_, _, _, _, _, _, c1, c2, c3, C9⟩⟩
      case measure => simp [intOf]
    · have hi : _ = Value.int .i64 4 := hi
      subst hi
      have HRd := hide rd
      clear rd
      go_wp2_with fail
      refine (cnum_any _ ao' n' cp' z' 2 b _ st.cut).mono ?_
      rintro e w1 ⟨m, ao1, n1, cp1, z1', b1', rfl, h1, g1, C9⟩
      have s1 := st.read g1 h1
      obtain ⟨⟨x0, x1, x2, x3, x4⟩, f0, f1, f2, f3, f4⟩ := cells5 s1.fr
      have HS1 := hide (s1.put4 m)
      have HC := hide C9
      clear st h1 g1 s1 C9
      go_wp2
      go_roundw
      case rel =>
        have rd := HRd.out
        have C9 := HC.out
        obtain ⟨z1, b1, z2, b2, z3, b3, c1, c2, c3, c4⟩ := rd
        exact ⟨4 + 1, r, c', h, d, m, ao1, n1, cp1, z1', b1', by omega, by go_num, HS1.out, ⟨_, _, _, _, _, _, _, _, c1, c2, c3, c4, C9⟩⟩
      case measure => simp [intOf]
    · have hi : _ = Value.int .i64 5 := hi
      subst hi
      obtain ⟨z1, b1, z2, b2, z3, b3, z4, b4, c1, c2, c3, c4, c5⟩ := rd
      have hgot := cut_vec hbz c1 c2 c3 c4 c5
      rw [HG.out] at hgot
      have hz' := st.cut.row.size
      have ne1 : ¬ w.heap.size = w.heap.size + 1 := by omega
      have hn' := st.cut.small
      clear c1 c2 c3 c4 c5 HG
      obtain ⟨⟨x0, x1, x2, x3, x4⟩, -⟩ := cells5 st.fr
      have HS := hide st
      clear st
      go_wp2_with fail
      refine (vecOf_any r c' h d p _).mono ?_
      rintro e w2 ⟨rfl, hb2⟩
      clear x0 x1 x2 x3 x4
      have q2 := gr_trans hb2 (below_one w2 (.cells #[.int .i64 r, .int .i64 c', .int .i64 h, .int .i64 d, .int .i64 p] 38))
      have k7 := block_last w2 (.cells #[.int .i64 r, .int .i64 c', .int .i64 h, .int .i64 d, .int .i64 p] 38)
      have kc := kept_block HS.out.cut.box q2
      have kr := kept_block HS.out.res q2
      have b3 := gr_trans HS.out.bel q2
      have lt2 : w.heap.size + 1 < w2.heap.size := by have := hb2.size; have := HS.out.o4; omega
      clear HS hb2 q2
      go_upto_region 9 with fail
      generalize w2.alloc (.cells #[.int .i64 r, .int .i64 c', .int .i64 h, .int .i64 d, .int .i64 p] 38) = w3 at *
      obtain ⟨⟨t0, t1⟩, -⟩ := cells2 kc
      obtain ⟨⟨y0, y1, y2, y3, y4⟩, g0, g1, g2, g3, g4⟩ := cells5 kr
      obtain ⟨⟨x0, x1, x2, x3, x4⟩, -⟩ := cells5 k7
      have HB := hide b3
      have K7 := hide k7
      have KR := hide kr
      clear kc b3 k7 kr
      cases b with
      | true =>
        rw [if_neg (by simp)] at hgot
        cases hgot
        go_wp2
        exact bodyPost_ret (v := .tuple #[.agg #[.int .i64 0, .int .i64 0, .int .i64 0, .int .i64 0, .int .i64 0], .bool false]) (by simp [results, Try.results24, go_sem, *]) rfl ⟨rfl, below_set5 HB.out (Nat.le_refl _) _ _ _ _ _⟩
      | false =>
        by_cases hn0 : n' = 0
        · subst hn0
          cases hk : okVc r c' h d p with
          | false =>
            rw [if_neg (by rw [hk]; simp)] at hgot
            cases hgot
            have HK := hide hk
            clear hk
            go_wp2_with fail
            refine (implVecOk_any r c' h d p _).mono ?_
            rintro e w4 ⟨rfl, hb4⟩
            rw [HK.out]
            clear x0 x1 x2 x3 x4 y0 y1 y2 y3 y4 g0 g1 g2 g3 g4 t0 t1
            obtain ⟨⟨y0, y1, y2, y3, y4⟩, g0, g1, g2, g3, g4⟩ := cells5 (kept_block KR.out hb4)
            have HB4 := hide (gr_trans HB.out hb4)
            clear hb4
            go_wp2
            exact bodyPost_ret (v := .tuple #[.agg #[.int .i64 0, .int .i64 0, .int .i64 0, .int .i64 0, .int .i64 0], .bool false]) (by simp [results, Try.results24, go_sem, *]) rfl ⟨rfl, below_set5 HB4.out (Nat.le_refl _) _ _ _ _ _⟩
          | true =>
            rw [if_pos ⟨rfl, by omega, hk⟩] at hgot
            simp only [Prod.mk.injEq] at hgot
            obtain ⟨e1, e2, e3, e4, e5, e6⟩ := hgot
            subst e1 e2 e3 e4 e5 e6
            have HK := hide hk
            clear hk
            go_wp2_with fail
            refine (implVecOk_any R C H B P _).mono ?_
            rintro e w4 ⟨rfl, hb4⟩
            rw [HK.out]
            clear x0 x1 x2 x3 x4 y0 y1 y2 y3 y4 g0 g1 g2 g3 g4 t0 t1
            obtain ⟨⟨y0, y1, y2, y3, y4⟩, g0, g1, g2, g3, g4⟩ := cells5 (kept_block KR.out hb4)
            obtain ⟨⟨x0, x1, x2, x3, x4⟩, -⟩ := cells5 (kept_block K7.out hb4)
            have HB4 := hide (gr_trans HB.out hb4)
            clear hb4
            go_wp2
            exact bodyPost_ret (v := .tuple #[.agg #[.int .i64 R, .int .i64 C, .int .i64 H, .int .i64 B, .int .i64 P], .bool true]) (by simp [results, Try.results24, go_sem, *]) rfl ⟨rfl, below_set5 HB4.out (Nat.le_refl _) _ _ _ _ _⟩
        · rw [if_neg (by rintro ⟨_, h, _⟩; omega)] at hgot
          cases hgot
          go_wp2
          exact bodyPost_ret (v := .tuple #[.agg #[.int .i64 0, .int .i64 0, .int .i64 0, .int .i64 0, .int .i64 0], .bool false]) (by simp [results, Try.results24, go_sem, *]) rfl ⟨rfl, below_set5 HB.out (Nat.le_refl _) _ _ _ _ _⟩

end Go.Proofs.Ytanonfdgckanhaa
