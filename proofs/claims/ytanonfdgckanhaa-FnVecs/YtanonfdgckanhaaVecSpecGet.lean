/-
  A vector of its bytes, as the specification reads it.
-/
import Derived.Test.YtanonfdgckanhaaSRead
import Derived.Test.YtanonfdgckanhaaVecGet
namespace Go.Proofs.Ytanonfdgckanhaa
open Go.RowKit

/-- While a vector is read: the box of the answer, the reader, the vector so far. -/
structure WSt (w W : World) (r0 rb fb : Nat) (ao : Option Addr) (n c : Nat) (z : List Int) (t : Int) (bad : Bool) (R C H B P : Int) : Prop where
  res : W.heap[r0]? = some (.cells #[.int .i64 0, .int .i64 0, .int .i64 0, .int .i64 0, .int .i64 0] 38)
  cut : SRd W rb ao n c z t bad
  fr : W.heap[fb]? = some (.cells #[.int .i64 R, .int .i64 C, .int .i64 H, .int .i64 B, .int .i64 P] 38)
  bel : Below w.heap.size w W
  o1 : w.heap.size ≤ r0
  o2 : r0 < rb
  o3 : rb < fb
  o4 : fb < W.heap.size

theorem WSt.read {w W W' : World} {r0 rb fb : Nat} {ao : Option Addr} {n c : Nat} {z : List Int} {t : Int} {bad : Bool} {R C H B P : Int} (h : WSt w W r0 rb fb ao n c z t bad R C H B P) (hg : W.grownBy W' (some rb)) {t' : Int} {bad' : Bool} (hc : SRd W' rb ao n c z t' bad') : WSt w W' r0 rb fb ao n c z t' bad' R C H B P where
  res := kept_grown h.res hg (by intro j e; cases e; have := h.o2; omega)
  cut := hc
  fr := kept_grown h.fr hg (by intro j e; cases e; have := h.o3; omega)
  bel := belowGr h.bel hg (by have := h.o1; have := h.o2; omega)
  o1 := h.o1
  o2 := h.o2
  o3 := h.o3
  o4 := Nat.lt_of_lt_of_le h.o4 hg.size

theorem WSt.put {w W : World} {r0 rb fb : Nat} {ao : Option Addr} {n c : Nat} {z : List Int} {t : Int} {bad : Bool} {R C H B P : Int} (h : WSt w W r0 rb fb ao n c z t bad R C H B P) (j : Nat) (u : Value) {R' C' H' B' P' : Int} (hf : (W.setCell ⟨fb, j, none⟩ u).heap[fb]? = some (.cells #[.int .i64 R', .int .i64 C', .int .i64 H', .int .i64 B', .int .i64 P'] 38)) : WSt w (W.setCell ⟨fb, j, none⟩ u) r0 rb fb ao n c z t bad R' C' H' B' P' where
  res := kept_set h.res (by have := h.o2; have := h.o3; omega)
  cut := ⟨kept_set h.cut.box (by have := h.o3; omega), row_box5 h.fr (grown_set j u) h.cut.row, h.cut.small⟩
  fr := hf
  bel := below_set h.bel (by have := h.o1; have := h.o2; have := h.o3; omega) j u
  o1 := h.o1
  o2 := h.o2
  o3 := h.o3
  o4 := Nat.lt_of_lt_of_le h.o4 (grown_set (w := W) (rb := fb) j u).size

theorem WSt.put0 {w W : World} {r0 rb fb : Nat} {ao : Option Addr} {n c : Nat} {z : List Int} {t : Int} {bad : Bool} {R C H B P : Int} (h : WSt w W r0 rb fb ao n c z t bad R C H B P) (m : Int) : WSt w (W.setCell ⟨fb, 0, none⟩ (.int .i64 m)) r0 rb fb ao n c z t bad m C H B P :=
  h.put 0 _ (by have := set_block5 (j := 0) h.fr (.int .i64 m); simpa using this)
theorem WSt.put1 {w W : World} {r0 rb fb : Nat} {ao : Option Addr} {n c : Nat} {z : List Int} {t : Int} {bad : Bool} {R C H B P : Int} (h : WSt w W r0 rb fb ao n c z t bad R C H B P) (m : Int) : WSt w (W.setCell ⟨fb, 1, none⟩ (.int .i64 m)) r0 rb fb ao n c z t bad R m H B P :=
  h.put 1 _ (by have := set_block5 (j := 1) h.fr (.int .i64 m); simpa using this)
theorem WSt.put2 {w W : World} {r0 rb fb : Nat} {ao : Option Addr} {n c : Nat} {z : List Int} {t : Int} {bad : Bool} {R C H B P : Int} (h : WSt w W r0 rb fb ao n c z t bad R C H B P) (m : Int) : WSt w (W.setCell ⟨fb, 2, none⟩ (.int .i64 m)) r0 rb fb ao n c z t bad R C m B P :=
  h.put 2 _ (by have := set_block5 (j := 2) h.fr (.int .i64 m); simpa using this)
theorem WSt.put3 {w W : World} {r0 rb fb : Nat} {ao : Option Addr} {n c : Nat} {z : List Int} {t : Int} {bad : Bool} {R C H B P : Int} (h : WSt w W r0 rb fb ao n c z t bad R C H B P) (m : Int) : WSt w (W.setCell ⟨fb, 3, none⟩ (.int .i64 m)) r0 rb fb ao n c z t bad R C H m P :=
  h.put 3 _ (by have := set_block5 (j := 3) h.fr (.int .i64 m); simpa using this)
theorem WSt.put4 {w W : World} {r0 rb fb : Nat} {ao : Option Addr} {n c : Nat} {z : List Int} {t : Int} {bad : Bool} {R C H B P : Int} (h : WSt w W r0 rb fb ao n c z t bad R C H B P) (m : Int) : WSt w (W.setCell ⟨fb, 4, none⟩ (.int .i64 m)) r0 rb fb ao n c z t bad R C H B m :=
  h.put 4 _ (by have := set_block5 (j := 4) h.fr (.int .i64 m); simpa using this)

theorem wst_new (w : World) (ao : Option Addr) (n c : Nat) (z : List Int) (hr : Row w ao n c z) (hs : n ≤ 1048576) :
    WSt w (((w.alloc (.cells #[.int .i64 0, .int .i64 0, .int .i64 0, .int .i64 0, .int .i64 0] 38)).alloc (.cells #[.slice ao n c, .int .i64 0, .bool false] 69)).alloc (.cells #[.int .i64 0, .int .i64 0, .int .i64 0, .int .i64 0, .int .i64 0] 38)) w.heap.size (w.heap.size + 1) (w.heap.size + 1 + 1) ao n c z 0 false 0 0 0 0 0 where
  res := kept_block (kept_block (block_last w _) (below_one _ _)) (below_one _ _)
  cut := (srd_new w ao n c z hr hs _).below (below_one _ _)
  fr := block_at (by simp)
  bel := below_three _ _ _ _
  o1 := Nat.le_refl _
  o2 := by omega
  o3 := by omega
  o4 := by simp

set_option maxRecDepth 100000 in
set_option maxHeartbeats 4000000 in
theorem specGetVec_made (ao : Option Addr) (n c : Nat) (z : List Int) (R C H B P : Int) (ok : Bool) (hG : gotVc z = (R, C, H, B, P, ok)) (w : World) (h : Row w ao n c z) (hs : n ≤ 1048576) :
    Calls Try.prog 25 #[.slice ao n c] w fun e w' => e = .returned (.tuple #[.agg #[.int .i64 R, .int .i64 C, .int .i64 H, .int .i64 B, .int .i64 P], .bool ok]) ∧ Below w.heap.size w w' := by
  have HG := hide hG
  clear hG
  have hlen := h.size
  have hle := h.le
  have htop := h.top
  unfold maxLen at htop
  have HS := wst_new w ao n c z h hs
  have ne1 : ¬ w.heap.size + 1 + 1 = w.heap.size + 1 := by omega
  have ne2 : ¬ w.heap.size + 1 + 1 = w.heap.size := by omega
  clear h
  go_enter Try.func25, Try.ntmps25
  go_wp2_with fail
  refine (snum_any _ ao n c z 0 false _ HS.cut).mono ?_
  rintro e w1 ⟨r, t1, b1, rfl, h1, g1, C1⟩
  have s1 := HS.read g1 h1
  obtain ⟨⟨x0, x1, x2, x3, x4⟩, f0, f1, f2, f3, f4⟩ := cells5 s1.fr
  have s1' := s1.put0 r
  have HC1 : Hid (RdM z 0 false r t1 b1) := C1
  clear HS h1 g1 C1 s1
  go_wp2_with fail
  refine (snum_any _ ao n c z t1 b1 _ s1'.cut).mono ?_
  rintro e w2 ⟨c', t2, b2, rfl, h2, g2, C2⟩
  have s2 := s1'.read g2 h2
  clear x0 x1 x2 x3 x4 f0 f1 f2 f3 f4
  obtain ⟨⟨x0, x1, x2, x3, x4⟩, f0, f1, f2, f3, f4⟩ := cells5 s2.fr
  have s2' := s2.put1 c'
  have HC2 : Hid (RdM z t1 b1 c' t2 b2) := C2
  clear s1' h2 g2 C2 s2
  go_wp2_with fail
  refine (snum_any _ ao n c z t2 b2 _ s2'.cut).mono ?_
  rintro e w3 ⟨h, t3, b3, rfl, h3, g3, C3⟩
  have s3 := s2'.read g3 h3
  clear x0 x1 x2 x3 x4 f0 f1 f2 f3 f4
  obtain ⟨⟨x0, x1, x2, x3, x4⟩, f0, f1, f2, f3, f4⟩ := cells5 s3.fr
  have s3' := s3.put2 h
  have HC3 : Hid (RdM z t2 b2 h t3 b3) := C3
  clear s2' h3 g3 C3 s3
  go_wp2_with fail
  refine (snum_any _ ao n c z t3 b3 _ s3'.cut).mono ?_
  rintro e w4 ⟨d, t4, b4, rfl, h4, g4, C4⟩
  have s4 := s3'.read g4 h4
  clear x0 x1 x2 x3 x4 f0 f1 f2 f3 f4
  obtain ⟨⟨x0, x1, x2, x3, x4⟩, f0, f1, f2, f3, f4⟩ := cells5 s4.fr
  have s4' := s4.put3 d
  have HC4 : Hid (RdM z t3 b3 d t4 b4) := C4
  clear s3' h4 g4 C4 s4
  go_wp2_with fail
  refine (snum_any _ ao n c z t4 b4 _ s4'.cut).mono ?_
  rintro e w5 ⟨p, t5, b5, rfl, h5, g5, C5⟩
  have s5 := s4'.read g5 h5
  clear x0 x1 x2 x3 x4 f0 f1 f2 f3 f4
  obtain ⟨⟨x0, x1, x2, x3, x4⟩, f0, f1, f2, f3, f4⟩ := cells5 s5.fr
  have s5' := s5.put4 p
  have HC5 : Hid (RdM z t4 b4 p t5 b5) := C5
  clear s4' h5 g5 C5
  have hgot := read_vec HC1.out HC2.out HC3.out HC4.out HC5.out
  rw [HG.out] at hgot
  obtain ⟨⟨y0, y1, y2⟩, e0, e1, e2⟩ := cells3 s5.cut.box
  obtain ⟨⟨v0, v1, v2, v3, v4⟩, j0, j1, j2, j3, j4⟩ := cells5 s5.res
  have H5 := hide s5'
  clear s5 s5' HC1 HC2 HC3 HC4 HC5 HG
  cases b5 with
  | true =>
    rw [if_neg (by simp)] at hgot
    cases hgot
    go_wp2
    exact bodyPost_ret (v := .tuple #[.agg #[.int .i64 0, .int .i64 0, .int .i64 0, .int .i64 0, .int .i64 0], .bool false]) (by simp [results, Try.results25, go_sem, *]) rfl ⟨rfl, below_set5 H5.out.bel (Nat.le_refl _) _ _ _ _ _⟩
  | false =>
    by_cases ht : t5 = (n : Int)
    · cases hk : okVc r c' h d p with
      | false =>
        rw [if_neg (by rw [hk]; simp)] at hgot
        cases hgot
        have HK := hide hk
        clear hk
        go_wp2_with fail
        refine (specVecOk_any r c' h d p _).mono ?_
        rintro e w6 ⟨rfl, hb6⟩
        rw [HK.out]
        clear x0 x1 x2 x3 x4 f0 f1 f2 f3 f4 y0 y1 y2 e0 e1 e2 v0 v1 v2 v3 v4 j0 j1 j2 j3 j4
        obtain ⟨⟨v0, v1, v2, v3, v4⟩, j0, j1, j2, j3, j4⟩ := cells5 (kept_block H5.out.res hb6)
        have HB6 := hide (gr_trans H5.out.bel hb6)
        clear hb6
        go_wp2
        exact bodyPost_ret (v := .tuple #[.agg #[.int .i64 0, .int .i64 0, .int .i64 0, .int .i64 0, .int .i64 0], .bool false]) (by simp [results, Try.results25, go_sem, *]) rfl ⟨rfl, below_set5 HB6.out (Nat.le_refl _) _ _ _ _ _⟩
      | true =>
        rw [if_pos ⟨rfl, by omega, hk⟩] at hgot
        simp only [Prod.mk.injEq] at hgot
        obtain ⟨q1, q2, q3, q4, q5, q6⟩ := hgot
        subst q1 q2 q3 q4 q5 q6
        have HK := hide hk
        clear hk
        go_wp2_with fail
        refine (specVecOk_any R C H B P _).mono ?_
        rintro e w6 ⟨rfl, hb6⟩
        rw [HK.out]
        clear x0 x1 x2 x3 x4 f0 f1 f2 f3 f4 y0 y1 y2 e0 e1 e2 v0 v1 v2 v3 v4 j0 j1 j2 j3 j4
        obtain ⟨⟨v0, v1, v2, v3, v4⟩, j0, j1, j2, j3, j4⟩ := cells5 (kept_block H5.out.res hb6)
        obtain ⟨⟨x0, x1, x2, x3, x4⟩, f0, f1, f2, f3, f4⟩ := cells5 (kept_block H5.out.fr hb6)
        have HB6 := hide (gr_trans H5.out.bel hb6)
        clear hb6
        go_wp2
        exact bodyPost_ret (v := .tuple #[.agg #[.int .i64 R, .int .i64 C, .int .i64 H, .int .i64 B, .int .i64 P], .bool true]) (by simp [results, Try.results25, go_sem, *]) rfl ⟨rfl, below_set5 HB6.out (Nat.le_refl _) _ _ _ _ _⟩
    · rw [if_neg (by rintro ⟨_, h, _⟩; omega)] at hgot
      cases hgot
      have ht' : (t5 != (n : Int)) = true := by simp [ht]
      go_wp2
      exact bodyPost_ret (v := .tuple #[.agg #[.int .i64 0, .int .i64 0, .int .i64 0, .int .i64 0, .int .i64 0], .bool false]) (by simp [results, Try.results25, go_sem, *]) rfl ⟨rfl, below_set5 H5.out.bel (Nat.le_refl _) _ _ _ _ _⟩

end Go.Proofs.Ytanonfdgckanhaa
