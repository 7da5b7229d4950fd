/-
  A frame of its bytes, as the specification reads it.
-/
import Derived.Test.YtanonfdgckanhaaFrameGet
import Derived.Test.YtanonfdgckanhaaFrameSpec
namespace Go.Proofs.Ytanonfdgckanhaa
open Go.RowKit

/-- A number that the reader read, or could not. -/
def RdN (tag : Int) (z : List Int) (t : Int) (bad : Bool) (m t' : Int) (bad' : Bool) : Prop :=
  (bad' = false ∧ bad = false ∧ numT tag z t = some (m, t')) ∨ (bad' = true ∧ (bad = true ∨ numT tag z t = none))

/-- A part that the reader read, or could not. -/
def RdP (tag : Int) (z : List Int) (t : Int) (bad : Bool) (x : List Int) (t' : Int) (bad' : Bool) : Prop :=
  (bad' = false ∧ bad = false ∧ getTlv z t = (tag, x, t', true)) ∨ (bad' = true ∧ (bad = true ∨ partM z t tag = none))

theorem RdN.good {tag : Int} {z : List Int} {t : Int} {bad : Bool} {m t' : Int} {bad' : Bool} (h : RdN tag z t bad m t' bad') (hb : bad' = false) : bad = false ∧ numT tag z t = some (m, t') := by
  rcases h with ⟨-, h1, h2⟩ | ⟨h, -⟩
  · exact ⟨h1, h2⟩
  · rw [hb] at h; cases h
theorem RdN.no {tag : Int} {z : List Int} {t : Int} {bad : Bool} {m t' : Int} {bad' : Bool} (h : RdN tag z t bad m t' bad') (hb : bad' = true) : bad = true ∨ numT tag z t = none := by
  rcases h with ⟨h, -, -⟩ | ⟨-, h⟩
  · rw [hb] at h; cases h
  · exact h
theorem RdP.good {tag : Int} {z : List Int} {t : Int} {bad : Bool} {x : List Int} {t' : Int} {bad' : Bool} (h : RdP tag z t bad x t' bad') (hb : bad' = false) : bad = false ∧ getTlv z t = (tag, x, t', true) := by
  rcases h with ⟨-, h1, h2⟩ | ⟨h, -⟩
  · exact ⟨h1, h2⟩
  · rw [hb] at h; cases h
theorem RdP.no {tag : Int} {z : List Int} {t : Int} {bad : Bool} {x : List Int} {t' : Int} {bad' : Bool} (h : RdP tag z t bad x t' bad') (hb : bad' = true) : bad = true ∨ partM z t tag = none := by
  rcases h with ⟨h, -, -⟩ | ⟨-, h⟩
  · rw [hb] at h; cases h
  · exact h

theorem spec_head {z : List Int} {d s t1 t2 : Int} {b1 b2 : Bool} (h1 : RdN 1 z 0 false d t1 b1) (h2 : RdN 1 z t1 b1 s t2 b2) : (b2 = false → numT 1 z 0 = some (d, t1) ∧ numT 1 z t1 = some (s, t2)) ∧ (b2 = true → getF z = none) := by
  refine ⟨fun hb => ?_, fun hb => ?_⟩
  · obtain ⟨e1, n2⟩ := h2.good hb
    exact ⟨(h1.good e1).2, n2⟩
  · rcases h2.no hb with e1 | n2
    · rcases h1.no e1 with e | n1
      · cases e
      · unfold getF; rw [n1]
    · cases b1 with
      | true =>
        rcases h1.no rfl with e | n1
        · cases e
        · unfold getF; rw [n1]
      | false =>
        unfold getF; rw [(h1.good rfl).2]; simp only; rw [n2]

theorem spec_plain {z x : List Int} {d s t1 t2 t4 : Int} {b1 b2 b4 : Bool} (h1 : RdN 1 z 0 false d t1 b1) (h2 : RdN 1 z t1 b1 s t2 b2) (h3 : ¬ ((getTlv z t2).2.2.2 = true ∧ (getTlv z t2).1 = 2)) (h4 : RdP 3 z t2 b2 x t4 b4) :
    gotF z = if b4 = false ∧ t4 = (z.length : Int) ∧ okF d s 0 x.length = true then (d, s, 0, x, true) else (0, 0, 0, [], false) := by
  obtain ⟨hy, hn⟩ := spec_head h1 h2
  have hG : b2 = false → getF z = (match partM z t2 3 with
        | some (x, t4) => if t4 = z.length ∧ okF d s 0 x.length = true then some (⟨d, s, 0, x⟩ : FD) else none
        | none => none) := by
    intro hb
    obtain ⟨n1, n2⟩ := hy hb
    unfold getF
    rw [n1]
    simp only
    rw [n2]
    simp only
    rw [if_neg h3]
    rfl
  cases b4 with
  | false =>
    obtain ⟨e2, n4⟩ := h4.good rfl
    have hG := hG e2
    rw [part_of n4] at hG
    simp only at hG
    by_cases hk : t4 = (z.length : Int) ∧ okF d s 0 x.length = true
    · rw [if_pos hk] at hG
      rw [gotF_some hG, if_pos ⟨rfl, hk⟩]
    · rw [if_neg hk] at hG
      rw [gotF_none hG, if_neg (fun h => hk h.2)]
  | true =>
    rw [if_neg (by simp)]
    refine gotF_none ?_
    cases b2 with
    | true => exact hn rfl
    | false =>
      rw [hG rfl]
      rcases h4.no rfl with e | e
      · cases e
      · rw [e]

theorem spec_tagged {z x : List Int} {d s g t1 t2 t3 t4 : Int} {b1 b2 b3 b4 : Bool} (h1 : RdN 1 z 0 false d t1 b1) (h2 : RdN 1 z t1 b1 s t2 b2) (h3 : (getTlv z t2).2.2.2 = true ∧ (getTlv z t2).1 = 2) (hg : RdN 2 z t2 b2 g t3 b3) (h4 : RdP 3 z t3 b3 x t4 b4) :
    gotF z = if b4 = false ∧ t4 = (z.length : Int) ∧ okF d s g x.length = true ∧ ¬ g = 0 then (d, s, g, x, true) else (0, 0, 0, [], false) := by
  obtain ⟨hy, hn⟩ := spec_head h1 h2
  have hG : b2 = false → getF z = (match numT 2 z t2 with
        | some (g, t3) =>
          match partM z t3 3 with
          | some (x, t4) => if t4 = z.length ∧ okF d s g x.length = true ∧ ¬ g = 0 then some (⟨d, s, g, x⟩ : FD) else none
          | none => none
        | none => none) := by
    intro hb
    obtain ⟨n1, n2⟩ := hy hb
    unfold getF
    rw [n1]
    simp only
    rw [n2]
    simp only
    rw [if_pos h3]
    rfl
  cases b4 with
  | false =>
    obtain ⟨e3, n4⟩ := h4.good rfl
    obtain ⟨e2, n3⟩ := hg.good e3
    have hG := hG e2
    rw [n3] at hG
    simp only at hG
    rw [part_of n4] at hG
    simp only at hG
    by_cases hk : t4 = (z.length : Int) ∧ okF d s g x.length = true ∧ ¬ g = 0
    · rw [if_pos hk] at hG
      rw [gotF_some hG, if_pos ⟨rfl, hk⟩]
    · rw [if_neg hk] at hG
      rw [gotF_none hG, if_neg (fun h => hk h.2)]
  | true =>
    rw [if_neg (by simp)]
    refine gotF_none ?_
    cases b2 with
    | true => exact hn rfl
    | false =>
      rw [hG rfl]
      cases b3 with
      | true =>
        rcases hg.no rfl with e | e
        · cases e
        · rw [e]
      | false =>
        rw [(hg.good rfl).2]
        simp only
        rcases h4.no rfl with e | e
        · cases e
        · rw [e]

/-- While a frame is read: the box of the answer, the reader, the frame so far. -/
structure SSt (w W : World) (r0 rb fb : Nat) (ao : Option Addr) (n c : Nat) (z : List Int) (t : Int) (bad : Bool) (K N S : Int) (a : Option Addr) (l k : Nat) : Prop where
  res : W.heap[r0]? = some (.cells #[.int .i64 0, .int .i64 0, .int .i64 0, .slice none 0 0] 25)
  cut : SRd W rb ao n c z t bad
  fr : W.heap[fb]? = some (.cells #[.int .i64 K, .int .i64 N, .int .i64 S, .slice a l k] 25)
  bel : Below w.heap.size w W
  o1 : w.heap.size ≤ r0
  o2 : r0 < rb
  o3 : rb < fb
  o4 : fb < W.heap.size

theorem SSt.read {w W : World} {r0 rb fb : Nat} {ao : Option Addr} {n c : Nat} {z : List Int} {t : Int} {bad : Bool} {K N S : Int} {a : Option Addr} {l k : Nat} (h : SSt w W r0 rb fb ao n c z t bad K N S a l k) {W' : World} (hg : W.grownBy W' (some rb)) {t' : Int} {bad' : Bool} (hc : SRd W' rb ao n c z t' bad') : SSt w W' r0 rb fb ao n c z t' bad' K N S a l k where
  res := kept_grown h.res hg (by intro j e; cases e; have := h.o2; omega)
  cut := hc
  fr := kept_grown h.fr hg (by intro j e; cases e; have := h.o3; omega)
  bel := belowGr h.bel hg (by have := h.o1; have := h.o2; omega)
  o1 := h.o1
  o2 := h.o2
  o3 := h.o3
  o4 := Nat.lt_of_lt_of_le h.o4 hg.size

theorem SSt.below {w W : World} {r0 rb fb : Nat} {ao : Option Addr} {n c : Nat} {z : List Int} {t : Int} {bad : Bool} {K N S : Int} {a : Option Addr} {l k : Nat} (h : SSt w W r0 rb fb ao n c z t bad K N S a l k) {W' : World} (hb : Below W.heap.size W W') : SSt w W' r0 rb fb ao n c z t bad K N S a l k where
  res := kept_block h.res hb
  cut := h.cut.below hb
  fr := kept_block h.fr hb
  bel := gr_trans h.bel hb
  o1 := h.o1
  o2 := h.o2
  o3 := h.o3
  o4 := Nat.lt_of_lt_of_le h.o4 hb.size

theorem SSt.put {w W : World} {r0 rb fb : Nat} {ao : Option Addr} {n c : Nat} {z : List Int} {t : Int} {bad : Bool} {K N S : Int} {a : Option Addr} {l k : Nat} (h : SSt w W r0 rb fb ao n c z t bad K N S a l k) (j : Nat) (u : Value) {K' N' S' : Int} {a' : Option Addr} {l' k' : Nat} (hf : (W.setCell ⟨fb, j, none⟩ u).heap[fb]? = some (.cells #[.int .i64 K', .int .i64 N', .int .i64 S', .slice a' l' k'] 25)) : SSt w (W.setCell ⟨fb, j, none⟩ u) r0 rb fb ao n c z t bad K' N' S' a' l' k' where
  res := kept_set h.res (by have := h.o2; have := h.o3; omega)
  cut := ⟨kept_set h.cut.box (by have := h.o3; omega), row_box h.fr (grown_set j u) h.cut.row, h.cut.small⟩
  fr := hf
  bel := below_set h.bel (by have := h.o1; have := h.o2; have := h.o3; omega) j u
  o1 := h.o1
  o2 := h.o2
  o3 := h.o3
  o4 := Nat.lt_of_lt_of_le h.o4 (grown_set (w := W) (rb := fb) j u).size

theorem SSt.put0 {w W : World} {r0 rb fb : Nat} {ao : Option Addr} {n c : Nat} {z : List Int} {t : Int} {bad : Bool} {K N S : Int} {a : Option Addr} {l k : Nat} (h : SSt w W r0 rb fb ao n c z t bad K N S a l k) (m : Int) : SSt w (W.setCell ⟨fb, 0, none⟩ (.int .i64 m)) r0 rb fb ao n c z t bad m N S a l k :=
  h.put 0 _ (by have := set_block5 (j := 0) h.fr (.int .i64 m); simpa using this)
theorem SSt.put1 {w W : World} {r0 rb fb : Nat} {ao : Option Addr} {n c : Nat} {z : List Int} {t : Int} {bad : Bool} {K N S : Int} {a : Option Addr} {l k : Nat} (h : SSt w W r0 rb fb ao n c z t bad K N S a l k) (m : Int) : SSt w (W.setCell ⟨fb, 1, none⟩ (.int .i64 m)) r0 rb fb ao n c z t bad K m S a l k :=
  h.put 1 _ (by have := set_block5 (j := 1) h.fr (.int .i64 m); simpa using this)
theorem SSt.put2 {w W : World} {r0 rb fb : Nat} {ao : Option Addr} {n c : Nat} {z : List Int} {t : Int} {bad : Bool} {K N S : Int} {a : Option Addr} {l k : Nat} (h : SSt w W r0 rb fb ao n c z t bad K N S a l k) (m : Int) : SSt w (W.setCell ⟨fb, 2, none⟩ (.int .i64 m)) r0 rb fb ao n c z t bad K N m a l k :=
  h.put 2 _ (by have := set_block5 (j := 2) h.fr (.int .i64 m); simpa using this)
theorem SSt.put3 {w W : World} {r0 rb fb : Nat} {ao : Option Addr} {n c : Nat} {z : List Int} {t : Int} {bad : Bool} {K N S : Int} {a : Option Addr} {l k : Nat} (h : SSt w W r0 rb fb ao n c z t bad K N S a l k) (a' : Option Addr) (l' k' : Nat) : SSt w (W.setCell ⟨fb, 3, none⟩ (.slice a' l' k')) r0 rb fb ao n c z t bad K N S a' l' k' :=
  h.put 3 _ (by have := set_block5 (j := 3) h.fr (.slice a' l' k'); simpa using this)

theorem sst_new (w : World) (ao : Option Addr) (n c : Nat) (z : List Int) (hr : Row w ao n c z) (hs : n ≤ 1048576) :
    SSt w (((w.alloc (.cells #[.int .i64 0, .int .i64 0, .int .i64 0, .slice none 0 0] 25)).alloc (.cells #[.slice ao n c, .int .i64 0, .bool false] 69)).alloc (.cells #[.int .i64 0, .int .i64 0, .int .i64 0, .slice none 0 0] 25)) w.heap.size (w.heap.size + 1) (w.heap.size + 1 + 1) ao n c z 0 false 0 0 0 none 0 0 where
  res := kept_block (kept_block (block_last w _) (below_one _ _)) (below_one _ _)
  cut := (srd_new w ao n c z hr hs _).below (below_one _ _)
  fr := by have := block_last ((w.alloc (.cells #[.int .i64 0, .int .i64 0, .int .i64 0, .slice none 0 0] 25)).alloc (.cells #[.slice ao n c, .int .i64 0, .bool false] 69)) (.cells #[.int .i64 0, .int .i64 0, .int .i64 0, .slice none 0 0] 25); simpa using this
  bel := below_three _ _ _ _
  o1 := Nat.le_refl _
  o2 := by omega
  o3 := by omega
  o4 := by simp

set_option maxRecDepth 100000 in
set_option maxHeartbeats 4000000 in
theorem specGetFrame_made (ao : Option Addr) (n c : Nat) (z : List Int) (K N S : Int) (O : List Int) (ok : Bool) (hG : gotF z = (K, N, S, O, ok)) (w : World) (h : Row w ao n c z) (hs : n ≤ 1048576) :
    Calls Try.prog 14 #[.slice ao n c] w fun e w' => ∃ ao' cap, e = .returned (.tuple #[.agg #[.int .i64 K, .int .i64 N, .int .i64 S, .slice ao' O.length cap], .bool ok]) ∧
      w'.ownsRow w.heap.size 5 1 (.slice ao' O.length cap) O.length (cB O) ∧ Row w' ao' O.length cap O ∧ Below w.heap.size w w' := by
  have HG := hide hG
  clear hG
  have hbz := h.byte
  have hzn := h.size
  have s0 := sst_new w ao n c z h hs
  have HR := hide h
  clear h
  go_enter Try.func14, Try.ntmps14
  go_wp2_with fail
  refine (tnum_any _ ao n c z 1 0 false _ s0.cut).mono ?_
  rintro e w1 ⟨d, t1, b1, rfl, h1, g1, C1⟩
  have s1 := s0.read g1 h1
  obtain ⟨⟨x0, x1, x2, x3⟩, f0, f1, f2, f3⟩ := cells4 s1.fr
  have s1' := s1.put0 d
  have HC1 : Hid (RdN 1 z 0 false d t1 b1) := hide C1
  clear s0 s1 h1 g1 C1
  go_wp2_with fail
  refine (tnum_any _ ao n c z 1 t1 b1 _ s1'.cut).mono ?_
  rintro e w2 ⟨s, t2, b2, rfl, h2, g2, C2⟩
  have s2 := s1'.read g2 h2
  clear x0 x1 x2 x3 f0 f1 f2 f3
  obtain ⟨⟨x0, x1, x2, x3⟩, f0, f1, f2, f3⟩ := cells4 s2.fr
  obtain ⟨⟨y0, y1, y2⟩, e0, e1, e2⟩ := cells3 s2.cut.box
  have s2' := s2.put1 s
  have HC2 : Hid (RdN 1 z t1 b1 s t2 b2) := hide C2
  clear s1' s2 h2 g2 C2
  rcases hT : getTlv z t2 with ⟨kk, tb, nx, ok2⟩
  have HT := hide hT
  clear hT
  go_wp2_with fail
  refine (specGet_made ao n c z t2 kk nx ok2 tb HT.out _ s2'.cut.row (by omega)).mono ?_
  rintro e w3 ⟨ao3, cp3, rfl, -, -, hb3⟩
  have s3 := s2'.below hb3
  clear x0 x1 x2 x3 f0 f1 f2 f3 y0 y1 y2 e0 e1 e2
  by_cases htg : ok2 = true ∧ kk = 2
  · obtain ⟨rfl, rfl⟩ := htg
    have htl : (getTlv z t2).2.2.2 = true ∧ (getTlv z t2).1 = 2 := by rw [HT.out]; exact ⟨rfl, rfl⟩
    have S2 := hide s3
    clear s2' hb3 s3
    go_wp2_with fail
    refine (tnum_any _ ao n c z 2 t2 b2 _ S2.out.cut).mono ?_
    rintro e wg ⟨g, t3, b3, rfl, hg3, gg3, C3⟩
    have HC3 : Hid (RdN 2 z t2 b2 g t3 b3) := hide C3
    have sg := S2.out.read gg3 hg3
    obtain ⟨⟨x0, x1, x2, x3⟩, f0, f1, f2, f3⟩ := cells4 sg.fr
    have S3 := hide (sg.put2 g)
    clear S2 sg hg3 gg3 C3
    go_wp2_with fail
    clear x0 x1 x2 x3 f0 f1 f2 f3
    refine (spart_any _ ao n c z t3 3 b3 _ S3.out.cut).mono ?_
    rintro e w4 ⟨bo, x, bc, t4, b4, rfl, r4, h4, g4, hx4, hbx, D4⟩
    have P4 : RdP 3 z t3 b3 x t4 b4 := by
      rcases D4 with ⟨q1, q2, q3, -⟩ | ⟨q1, -, q3⟩
      · exact .inl ⟨q1, q2, q3⟩
      · exact .inr ⟨q1, q3⟩
    have o4 : b4 = false → w4.ownsRow (w.heap.size + 1) 5 1 (.slice bo x.length bc) x.length (cB x) := by
      intro hb
      rcases D4 with ⟨-, -, -, q4⟩ | ⟨q1, -, -⟩
      · exact own_lt q4 (by have := S3.out.o4; omega)
      · rw [hb] at q1; cases q1
    have o4f : b4 = false → (w4.setCell ⟨w.heap.size + 1 + 1, 3, none⟩ (.slice bo x.length bc)).ownsRow (w.heap.size + 1) 5 1 (.slice bo x.length bc) x.length (cB x) := by
      intro hb
      rcases D4 with ⟨-, -, -, q4⟩ | ⟨q1, -, -⟩
      · exact own_lt (own_set q4 (g := w.heap.size + 1 + 1) (j := 3) (u := .slice bo x.length bc) S3.out.o4) (by have := S3.out.o4; omega)
      · rw [hb] at q1; cases q1
    have s4 := S3.out.read g4 h4
    have hc1 := HC1.out
    have hc2 := HC2.out
    have hc3 := HC3.out
    have hgot := spec_tagged hc1 hc2 htl hc3 P4
    rw [HG.out] at hgot
    obtain ⟨⟨x0, x1, x2, x3⟩, f0, f1, f2, f3⟩ := cells4 s4.fr
    obtain ⟨⟨y0, y1, y2⟩, e0, e1, e2⟩ := cells3 s4.cut.box
    obtain ⟨⟨v0, v1, v2, v3⟩, j0, j1, j2, j3⟩ := cells4 s4.res
    have HR5 := hide (row_box s4.fr (grown_set 3 (.slice bo x.length bc)) r4)
    have H4 := hide (s4.put3 bo x.length bc)
    clear s4 S3 r4 h4 g4 D4 P4 HC1 HC2 HR HG hc1 hc2 htl HT o4 HC3 hc3
    cases b4 with
    | true =>
      rw [if_neg (by simp)] at hgot
      cases hgot
      clear o4f
      go_wp2
      refine bodyPost_ret (v := .tuple #[.agg #[.int .i64 0, .int .i64 0, .int .i64 0, .slice none 0 0], .bool false]) (by simp [results, Try.results14, go_sem, *]) rfl ⟨none, 0, rfl, World.ownsRow_nil _ _ _ _, row_nil _, below_set4 H4.out.bel (Nat.le_refl _) _ _ _ _⟩
    | false =>
      have HO := hide (o4f rfl)
      clear o4f
      by_cases ht4 : t4 = (z.length : Int)
      · have ht4' : t4 = (n : Int) := by omega
        subst ht4'
        cases hk : okF d s g x.length with
        | false =>
          rw [if_neg (by rw [hk]; simp)] at hgot
          cases hgot
          have HK := hide hk
          clear hk ht4
          go_wp2_with fail
          refine (specFrameOk_any d s g bo x.length bc x _ HR5.out).mono ?_
          rintro e w6 ⟨rfl, hb6⟩
          rw [HK.out]
          clear x0 x1 x2 x3 f0 f1 f2 f3 y0 y1 y2 e0 e1 e2 v0 v1 v2 v3 j0 j1 j2 j3
          obtain ⟨⟨v0, v1, v2, v3⟩, j0, j1, j2, j3⟩ := cells4 (kept_block H4.out.res hb6)
          have HB6 := hide (gr_trans H4.out.bel hb6)
          clear hb6
          go_wp2
          refine bodyPost_ret (v := .tuple #[.agg #[.int .i64 0, .int .i64 0, .int .i64 0, .slice none 0 0], .bool false]) (by simp [results, Try.results14, go_sem, *]) rfl ⟨none, 0, rfl, World.ownsRow_nil _ _ _ _, row_nil _, below_set4 HB6.out (Nat.le_refl _) _ _ _ _⟩
        | true =>
          by_cases hg0 : g = 0
          · rw [if_neg (fun h => h.2.2.2 hg0)] at hgot
            cases hgot
            subst hg0
            have HK := hide hk
            clear hk ht4
            go_wp2_with fail
            refine (specFrameOk_any d s 0 bo x.length bc x _ HR5.out).mono ?_
            rintro e w6 ⟨rfl, hb6⟩
            rw [HK.out]
            clear x0 x1 x2 x3 f0 f1 f2 f3 y0 y1 y2 e0 e1 e2 v0 v1 v2 v3 j0 j1 j2 j3
            obtain ⟨⟨v0, v1, v2, v3⟩, j0, j1, j2, j3⟩ := cells4 (kept_block H4.out.res hb6)
            obtain ⟨⟨x0, x1, x2, x3⟩, f0, f1, f2, f3⟩ := cells4 (kept_block H4.out.fr hb6)
            have HB6 := hide (gr_trans H4.out.bel hb6)
            clear hb6
            go_wp2
            refine bodyPost_ret (v := .tuple #[.agg #[.int .i64 0, .int .i64 0, .int .i64 0, .slice none 0 0], .bool false]) (by simp [results, Try.results14, go_sem, *]) rfl ⟨none, 0, rfl, World.ownsRow_nil _ _ _ _, row_nil _, below_set4 HB6.out (Nat.le_refl _) _ _ _ _⟩
          · rw [if_pos ⟨rfl, ht4, hk, hg0⟩] at hgot
            have hgf : (g == 0) = false := by simpa using hg0
            simp only [Prod.mk.injEq] at hgot
            obtain ⟨e1', e2', e3', e4', e5'⟩ := hgot
            subst e1' e2' e3' e4' e5'
            have HK := hide hk
            clear hk ht4
            go_wp2_with fail
            refine (specFrameOk_any K N S bo O.length bc O _ HR5.out).mono ?_
            rintro e w6 ⟨rfl, hb6⟩
            rw [HK.out]
            clear x0 x1 x2 x3 f0 f1 f2 f3 y0 y1 y2 e0 e1 e2 v0 v1 v2 v3 j0 j1 j2 j3
            obtain ⟨⟨v0, v1, v2, v3⟩, j0, j1, j2, j3⟩ := cells4 (kept_block H4.out.res hb6)
            obtain ⟨⟨x0, x1, x2, x3⟩, f0, f1, f2, f3⟩ := cells4 (kept_block H4.out.fr hb6)
            have HB6 := hide (gr_trans H4.out.bel hb6)
            have HO6 := hide (own_below HO.out hb6)
            clear hb6
            go_wp2
            have o6 := own_set4 HO6.out (g := w.heap.size) (by omega) (.int .i64 K) (.int .i64 N) (.int .i64 S) (.slice bo O.length bc)
            refine bodyPost_ret (v := .tuple #[.agg #[.int .i64 K, .int .i64 N, .int .i64 S, .slice bo O.length bc], .bool true]) (by simp [results, Try.results14, go_sem, *]) rfl ⟨bo, bc, rfl, own_lt o6 (by omega), row_own o6 hbx, below_set4 HB6.out (Nat.le_refl _) _ _ _ _⟩
      · rw [if_neg (fun h => ht4 h.2.1)] at hgot
        cases hgot
        have hne : (t4 != (n : Int)) = true := by rw [bne_iff_ne]; omega
        go_wp2
        refine bodyPost_ret (v := .tuple #[.agg #[.int .i64 0, .int .i64 0, .int .i64 0, .slice none 0 0], .bool false]) (by simp [results, Try.results14, go_sem, *]) rfl ⟨none, 0, rfl, World.ownsRow_nil _ _ _ _, row_nil _, below_set4 H4.out.bel (Nat.le_refl _) _ _ _ _⟩
  · have htl : ¬ ((getTlv z t2).2.2.2 = true ∧ (getTlv z t2).1 = 2) := by rw [HT.out]; exact htg
    have S3 := hide s3
    clear s2' hb3 s3
    cases ok2 with
    | false =>
      clear htg
      go_wp2_with fail
      refine (spart_any _ ao n c z t2 3 b2 _ S3.out.cut).mono ?_
      rintro e w4 ⟨bo, x, bc, t4, b4, rfl, r4, h4, g4, hx4, hbx, D4⟩
      have P4 : RdP 3 z t2 b2 x t4 b4 := by
        rcases D4 with ⟨q1, q2, q3, -⟩ | ⟨q1, -, q3⟩
        · exact .inl ⟨q1, q2, q3⟩
        · exact .inr ⟨q1, q3⟩
      have o4 : b4 = false → w4.ownsRow (w.heap.size + 1) 5 1 (.slice bo x.length bc) x.length (cB x) := by
        intro hb
        rcases D4 with ⟨-, -, -, q4⟩ | ⟨q1, -, -⟩
        · exact own_lt q4 (by have := S3.out.o4; omega)
        · rw [hb] at q1; cases q1
      have o4f : b4 = false → (w4.setCell ⟨w.heap.size + 1 + 1, 3, none⟩ (.slice bo x.length bc)).ownsRow (w.heap.size + 1) 5 1 (.slice bo x.length bc) x.length (cB x) := by
        intro hb
        rcases D4 with ⟨-, -, -, q4⟩ | ⟨q1, -, -⟩
        · exact own_lt (own_set q4 (g := w.heap.size + 1 + 1) (j := 3) (u := .slice bo x.length bc) S3.out.o4) (by have := S3.out.o4; omega)
        · rw [hb] at q1; cases q1
      have s4 := S3.out.read g4 h4
      have hc1 := HC1.out
      have hc2 := HC2.out
      have hgot := spec_plain hc1 hc2 htl P4
      rw [HG.out] at hgot
      obtain ⟨⟨x0, x1, x2, x3⟩, f0, f1, f2, f3⟩ := cells4 s4.fr
      obtain ⟨⟨y0, y1, y2⟩, e0, e1, e2⟩ := cells3 s4.cut.box
      obtain ⟨⟨v0, v1, v2, v3⟩, j0, j1, j2, j3⟩ := cells4 s4.res
      have HR5 := hide (row_box s4.fr (grown_set 3 (.slice bo x.length bc)) r4)
      have H4 := hide (s4.put3 bo x.length bc)
      clear s4 S3 r4 h4 g4 D4 P4 HC1 HC2 HR HG hc1 hc2 htl HT o4
      cases b4 with
      | true =>
        rw [if_neg (by simp)] at hgot
        cases hgot
        clear o4f
        go_wp2
        refine bodyPost_ret (v := .tuple #[.agg #[.int .i64 0, .int .i64 0, .int .i64 0, .slice none 0 0], .bool false]) (by simp [results, Try.results14, go_sem, *]) rfl ⟨none, 0, rfl, World.ownsRow_nil _ _ _ _, row_nil _, below_set4 H4.out.bel (Nat.le_refl _) _ _ _ _⟩
      | false =>
        have HO := hide (o4f rfl)
        clear o4f
        by_cases ht4 : t4 = (z.length : Int)
        · have ht4' : t4 = (n : Int) := by omega
          subst ht4'
          cases hk : okF d s 0 x.length with
          | false =>
            rw [if_neg (by rw [hk]; simp)] at hgot
            cases hgot
            have HK := hide hk
            clear hk ht4
            go_wp2_with fail
            refine (specFrameOk_any d s 0 bo x.length bc x _ HR5.out).mono ?_
            rintro e w6 ⟨rfl, hb6⟩
            rw [HK.out]
            clear x0 x1 x2 x3 f0 f1 f2 f3 y0 y1 y2 e0 e1 e2 v0 v1 v2 v3 j0 j1 j2 j3
            obtain ⟨⟨v0, v1, v2, v3⟩, j0, j1, j2, j3⟩ := cells4 (kept_block H4.out.res hb6)
            have HB6 := hide (gr_trans H4.out.bel hb6)
            clear hb6
            go_wp2
            refine bodyPost_ret (v := .tuple #[.agg #[.int .i64 0, .int .i64 0, .int .i64 0, .slice none 0 0], .bool false]) (by simp [results, Try.results14, go_sem, *]) rfl ⟨none, 0, rfl, World.ownsRow_nil _ _ _ _, row_nil _, below_set4 HB6.out (Nat.le_refl _) _ _ _ _⟩
          | true =>
            rw [if_pos ⟨rfl, ht4, hk⟩] at hgot
            simp only [Prod.mk.injEq] at hgot
            obtain ⟨e1', e2', e3', e4', e5'⟩ := hgot
            subst e1' e2' e3' e4' e5'
            have HK := hide hk
            clear hk ht4
            go_wp2_with fail
            refine (specFrameOk_any K N 0 bo O.length bc O _ HR5.out).mono ?_
            rintro e w6 ⟨rfl, hb6⟩
            rw [HK.out]
            clear x0 x1 x2 x3 f0 f1 f2 f3 y0 y1 y2 e0 e1 e2 v0 v1 v2 v3 j0 j1 j2 j3
            obtain ⟨⟨v0, v1, v2, v3⟩, j0, j1, j2, j3⟩ := cells4 (kept_block H4.out.res hb6)
            obtain ⟨⟨x0, x1, x2, x3⟩, f0, f1, f2, f3⟩ := cells4 (kept_block H4.out.fr hb6)
            have HB6 := hide (gr_trans H4.out.bel hb6)
            have HO6 := hide (own_below HO.out hb6)
            clear hb6
            go_wp2
            have o6 := own_set4 HO6.out (g := w.heap.size) (by omega) (.int .i64 K) (.int .i64 N) (.int .i64 0) (.slice bo O.length bc)
            refine bodyPost_ret (v := .tuple #[.agg #[.int .i64 K, .int .i64 N, .int .i64 0, .slice bo O.length bc], .bool true]) (by simp [results, Try.results14, go_sem, *]) rfl ⟨bo, bc, rfl, own_lt o6 (by omega), row_own o6 hbx, below_set4 HB6.out (Nat.le_refl _) _ _ _ _⟩
        · rw [if_neg (fun h => ht4 h.2.1)] at hgot
          cases hgot
          have hne : (t4 != (n : Int)) = true := by rw [bne_iff_ne]; omega
          go_wp2
          refine bodyPost_ret (v := .tuple #[.agg #[.int .i64 0, .int .i64 0, .int .i64 0, .slice none 0 0], .bool false]) (by simp [results, Try.results14, go_sem, *]) rfl ⟨none, 0, rfl, World.ownsRow_nil _ _ _ _, row_nil _, below_set4 H4.out.bel (Nat.le_refl _) _ _ _ _⟩
    | true =>
      have hk2 : (kk == 2) = false := by
        rw [beq_eq_false_iff_ne]
        exact fun h => htg ⟨rfl, h⟩
      clear htg
      go_wp2_with fail
      refine (spart_any _ ao n c z t2 3 b2 _ S3.out.cut).mono ?_
      rintro e w4 ⟨bo, x, bc, t4, b4, rfl, r4, h4, g4, hx4, hbx, D4⟩
      have P4 : RdP 3 z t2 b2 x t4 b4 := by
        rcases D4 with ⟨q1, q2, q3, -⟩ | ⟨q1, -, q3⟩
        · exact .inl ⟨q1, q2, q3⟩
        · exact .inr ⟨q1, q3⟩
      have o4 : b4 = false → w4.ownsRow (w.heap.size + 1) 5 1 (.slice bo x.length bc) x.length (cB x) := by
        intro hb
        rcases D4 with ⟨-, -, -, q4⟩ | ⟨q1, -, -⟩
        · exact own_lt q4 (by have := S3.out.o4; omega)
        · rw [hb] at q1; cases q1
      have o4f : b4 = false → (w4.setCell ⟨w.heap.size + 1 + 1, 3, none⟩ (.slice bo x.length bc)).ownsRow (w.heap.size + 1) 5 1 (.slice bo x.length bc) x.length (cB x) := by
        intro hb
        rcases D4 with ⟨-, -, -, q4⟩ | ⟨q1, -, -⟩
        · exact own_lt (own_set q4 (g := w.heap.size + 1 + 1) (j := 3) (u := .slice bo x.length bc) S3.out.o4) (by have := S3.out.o4; omega)
        · rw [hb] at q1; cases q1
      have s4 := S3.out.read g4 h4
      have hc1 := HC1.out
      have hc2 := HC2.out
      have hgot := spec_plain hc1 hc2 htl P4
      rw [HG.out] at hgot
      obtain ⟨⟨x0, x1, x2, x3⟩, f0, f1, f2, f3⟩ := cells4 s4.fr
      obtain ⟨⟨y0, y1, y2⟩, e0, e1, e2⟩ := cells3 s4.cut.box
      obtain ⟨⟨v0, v1, v2, v3⟩, j0, j1, j2, j3⟩ := cells4 s4.res
      have HR5 := hide (row_box s4.fr (grown_set 3 (.slice bo x.length bc)) r4)
      have H4 := hide (s4.put3 bo x.length bc)
      clear s4 S3 r4 h4 g4 D4 P4 HC1 HC2 HR HG hc1 hc2 htl HT o4
      cases b4 with
      | true =>
        rw [if_neg (by simp)] at hgot
        cases hgot
        clear o4f
        go_wp2
        refine bodyPost_ret (v := .tuple #[.agg #[.int .i64 0, .int .i64 0, .int .i64 0, .slice none 0 0], .bool false]) (by simp [results, Try.results14, go_sem, *]) rfl ⟨none, 0, rfl, World.ownsRow_nil _ _ _ _, row_nil _, below_set4 H4.out.bel (Nat.le_refl _) _ _ _ _⟩
      | false =>
        have HO := hide (o4f rfl)
        clear o4f
        by_cases ht4 : t4 = (z.length : Int)
        · have ht4' : t4 = (n : Int) := by omega
          subst ht4'
          cases hk : okF d s 0 x.length with
          | false =>
            rw [if_neg (by rw [hk]; simp)] at hgot
            cases hgot
            have HK := hide hk
            clear hk ht4
            go_wp2_with fail
            refine (specFrameOk_any d s 0 bo x.length bc x _ HR5.out).mono ?_
            rintro e w6 ⟨rfl, hb6⟩
            rw [HK.out]
            clear x0 x1 x2 x3 f0 f1 f2 f3 y0 y1 y2 e0 e1 e2 v0 v1 v2 v3 j0 j1 j2 j3
            obtain ⟨⟨v0, v1, v2, v3⟩, j0, j1, j2, j3⟩ := cells4 (kept_block H4.out.res hb6)
            have HB6 := hide (gr_trans H4.out.bel hb6)
            clear hb6
            go_wp2
            refine bodyPost_ret (v := .tuple #[.agg #[.int .i64 0, .int .i64 0, .int .i64 0, .slice none 0 0], .bool false]) (by simp [results, Try.results14, go_sem, *]) rfl ⟨none, 0, rfl, World.ownsRow_nil _ _ _ _, row_nil _, below_set4 HB6.out (Nat.le_refl _) _ _ _ _⟩
          | true =>
            rw [if_pos ⟨rfl, ht4, hk⟩] at hgot
            simp only [Prod.mk.injEq] at hgot
            obtain ⟨e1', e2', e3', e4', e5'⟩ := hgot
            subst e1' e2' e3' e4' e5'
            have HK := hide hk
            clear hk ht4
            go_wp2_with fail
            refine (specFrameOk_any K N 0 bo O.length bc O _ HR5.out).mono ?_
            rintro e w6 ⟨rfl, hb6⟩
            rw [HK.out]
            clear x0 x1 x2 x3 f0 f1 f2 f3 y0 y1 y2 e0 e1 e2 v0 v1 v2 v3 j0 j1 j2 j3
            obtain ⟨⟨v0, v1, v2, v3⟩, j0, j1, j2, j3⟩ := cells4 (kept_block H4.out.res hb6)
            obtain ⟨⟨x0, x1, x2, x3⟩, f0, f1, f2, f3⟩ := cells4 (kept_block H4.out.fr hb6)
            have HB6 := hide (gr_trans H4.out.bel hb6)
            have HO6 := hide (own_below HO.out hb6)
            clear hb6
            go_wp2
            have o6 := own_set4 HO6.out (g := w.heap.size) (by omega) (.int .i64 K) (.int .i64 N) (.int .i64 0) (.slice bo O.length bc)
            refine bodyPost_ret (v := .tuple #[.agg #[.int .i64 K, .int .i64 N, .int .i64 0, .slice bo O.length bc], .bool true]) (by simp [results, Try.results14, go_sem, *]) rfl ⟨bo, bc, rfl, own_lt o6 (by omega), row_own o6 hbx, below_set4 HB6.out (Nat.le_refl _) _ _ _ _⟩
        · rw [if_neg (fun h => ht4 h.2.1)] at hgot
          cases hgot
          have hne : (t4 != (n : Int)) = true := by rw [bne_iff_ne]; omega
          go_wp2
          refine bodyPost_ret (v := .tuple #[.agg #[.int .i64 0, .int .i64 0, .int .i64 0, .slice none 0 0], .bool false]) (by simp [results, Try.results14, go_sem, *]) rfl ⟨none, 0, rfl, World.ownsRow_nil _ _ _ _, row_nil _, below_set4 H4.out.bel (Nat.le_refl _) _ _ _ _⟩

end Go.Proofs.Ytanonfdgckanhaa
