/-
  Packed: DrawBr2 DrawBr3 DrawBr4 MapWalk.
-/
import Derived.Test.YtfknffdlmcckkaaGreatPTKW
import Derived.Test.YtfknffdlmcckkaaGreatPTBrStepS
import Derived.Test.YtfknffdlmcckkaaGreatPTDrawBr
import Derived.Test.YtfknffdlmcckkaaGreatPTDrawVtab2
import Derived.Test.YtfknffdlmcckkaaGreatPTFdbTable
import Derived.Test.YtfknffdlmcckkaaGreatPTK01
import Derived.Test.YtfknffdlmcckkaaGreatPTK03
import Derived.Test.YtfknffdlmcckkaaGreatPTK11
import Derived.Test.YtfknffdlmcckkaaGreatPTK16
import Derived.Test.YtfknffdlmcckkaaGreatPTK25
import Derived.Deep.RegionHeld3
namespace Go.Proofs.YtfknffdlmcckkaaGreat
open Go.RowKit

structure FewB (B : BR) : Prop where
 pl : B.ports.length ≤ 6
 fl : B.f.length ≤ 100
 fr : ∀ x ∈ B.f, x.Rng
 v : ∃ pp, Fine B.v pp 13 ∧ pp ≤ 6
 nm : B.name.size ≤ 30

theorem DIn.few {B : BR} {m : Nat} (h : DIn B m) (hm : m ≤ 4) : FewB B :=
 ⟨by rw [h.len]; omega, Nat.le_trans (ok_len h.f) (by decide), ok_rng h.f, ⟨m, h.v.toFine.mono (by decide), by omega⟩, Nat.le_trans h.name (by decide)⟩

set_option maxRecDepth 100000 in
set_option maxHeartbeats 16000000 in
theorem l11Any_any (C : Nat) (a0 : Option Addr) (l0 c0 : Nat) (z0 : List Int) (w : World) (hc : Cur w C a0 l0 c0 z0) :
  Calls Tryz.prog 32 #[.pointer (some ⟨C, 0, none⟩)] w fun e w' => ∃ (a : Option Addr) (n c : Nat) (fa : Option Addr) (fn fc : Nat) (ra : Option Addr) (rn rc : Nat) (oa : Option Addr) (on oc : Nat) (B : BR), e = .returned (.agg #[.int .i64 B.id, .string B.name, .slice a n c, .slice fa fn fc, .slice ra rn rc, .slice oa on oc, .int .i64 B.ticks, .int .i64 B.parse, .int .i64 B.word, .int .i64 B.drops, .int .i64 B.vers]) ∧ BrOwn w' w.heap.size a n c fa fn fc ra rn rc oa on oc B ∧ FewB B ∧ Went w w' C a0 l0 c0 z0 := by
 have hlt := hc.lt
 generalize hw1 : w.alloc (Obj.cells #[.int .i64 0, .string ⟨#[]⟩, .slice none 0 0, .slice none 0 0, .slice none 0 0, .slice none 0 0, .int .i64 0, .int .i64 0, .int .i64 0, .int .i64 0, .int .i64 0] 31) = w1
 have b1 : Below w.heap.size w w1 := by rw [← hw1]; exact below_one _ _
 have kR : w1.heap[w.heap.size]? = some (.cells #[.int .i64 0, .string ⟨#[]⟩, .slice none 0 0, .slice none 0 0, .slice none 0 0, .slice none 0 0, .int .i64 0, .int .i64 0, .int .i64 0, .int .i64 0, .int .i64 0] 31) := by rw [← hw1]; exact block_last _ _
 have wn1 := Went.start hc b1
 have HS1 := hide b1.size
 clear b1
 go_enter Tryz.func32, Tryz.ntmps32
 go_wp2_with fail
 clear hw1
 refine (l11Draw_any C a0 l0 c0 z0 _ wn1.cur).mono ?_
 rintro e w2 ⟨m, a, c, fa, fn, fc, ra, rn, rc, oa, on, oc, B, rfl, o2, hD, -, h4, wt⟩
 have HD := hide (hD.few h4)
 have o2 := o2.lt (base' := w.heap.size) HS1.out
 have kR := kept_grown kR wt.grown (by intro k e; cases e; omega)
 have wn2 := wn1.trans wt
 have hX : w.heap.size < w2.heap.size := (Array.getElem?_eq_some_iff.1 kR).1
 obtain ⟨n, hnr⟩ : ∃ y, y = m := ⟨_, rfl⟩
 subst hnr
 clear wt wn1 hD h4
 go_upto_region 2 with fail
 generalize hw5 : w2.alloc (Obj.cells #[.int .i64 B.id, .string B.name, .slice a n c, .slice fa fn fc, .slice ra rn rc, .slice oa on oc, .int .i64 B.ticks, .int .i64 B.parse, .int .i64 B.word, .int .i64 B.drops, .int .i64 B.vers] 31) = w5
 have b5 : Below w2.heap.size w2 w5 := by rw [← hw5]; exact below_one _ _
 have st : DbSt w w5 C a0 l0 c0 z0 w2.heap.size a n c fa fn fc ra rn rc oa on oc B := ⟨by rw [← hw5]; exact block_last _ _, o2.below b5, kept_block kR b5, wn2.made b5, hlt, hX⟩
 generalize hXX : w2.heap.size = X at st
 clear hw5 b5 kR wn2 o2 hX
 go_wp2_with fail
 refine (below_any C a0 l0 c0 z0 16 _ st.went.cur (by omega)).mono ?_
 rintro e w3 ⟨y, rfl, hy0, hy1, -, wt⟩
 have hy1 := hy1 (by omega)
 have st := st.draw wt
 have SZ3 := hide st.size
 clear wt
 by_cases y0z : y = 0
 ·subst y0z
  go_wp2_with fail
  refine (pick_any C a0 l0 c0 z0 [0, 99, 100] _ _ w3 st.went.cur rfl rfl (by simp) (by simp)).mono ?_
  rintro e w4 ⟨q, -, rfl, wt⟩
  have st := st.draw wt
  have hD : FewB { B with id := q } := ⟨HD.out.pl, HD.out.fl, HD.out.fr, HD.out.v, HD.out.nm⟩
  have st2 := st.put (B' := { B with id := q }) ⟨st.own.ports, st.own.f, st.own.v⟩ 0 (.int .i64 q) rfl
  obtain ⟨x0, x1, x2, x3, x4, x5, x6, x7, x8, x9, x10⟩ := cells11 st.box
  have g0 := frozen8 st.box 0
  clear wt HD st
  generalize hB2 : ({ B with id := q } : BR) = B2 at st2 hD
  clear hB2
  have HD := hide hD
  clear hD
  have st := st2
  clear st2
  obtain ⟨B, hBr⟩ : ∃ y, y = B2 := ⟨_, rfl⟩
  subst hBr
  go_upto_region 15 with fail
  clear x0 x1 x2 x3 x4 x5 x6 x7 x8 x9 x10 g0
  generalize hw9 : (w4.setCell ⟨X, 0, none⟩ (.int .i64 q)) = w9 at *
  clear hw9
  obtain ⟨x0, x1, x2, x3, x4, x5, x6, x7, x8, x9, x10⟩ := cells11 st.box
  obtain ⟨y0, y1, y2, y3, y4, y5, y6, y7, y8, y9, y10⟩ := cells11 st.res
  have fr := frozen8 st.res
  have f0 := fr 0
  have f1 := fr 1
  have f2 := fr 2
  have f3 := fr 3
  have f4 := fr 4
  have f5 := fr 5
  have f6 := fr 6
  have f7 := fr 7
  have f8 := fr 8
  have f9 := fr 9
  have f10 := fr 10
  have ne1 : ¬ X = w.heap.size := by have := st.hX; omega
  have ne2 : ¬ w.heap.size = X := by have := st.hX; omega
  have HO := hide (st.own.boxed11 st.res (.int .i64 B.id) (.string B.name) (.slice a n c) (.slice fa fn fc) (.slice ra rn rc) (.slice oa on oc) (.int .i64 B.ticks) (.int .i64 B.parse) (.int .i64 B.word) (.int .i64 B.drops) (.int .i64 B.vers))
  have HW := hide (st.went.madeAt (below_set11 (Below.refl w.heap.size w9) (Nat.le_refl w.heap.size) (.int .i64 B.id) (.string B.name) (.slice a n c) (.slice fa fn fc) (.slice ra rn rc) (.slice oa on oc) (.int .i64 B.ticks) (.int .i64 B.parse) (.int .i64 B.word) (.int .i64 B.drops) (.int .i64 B.vers)) hlt (Nat.le_refl _))
  clear st fr
  go_wp2
  exact bodyPost_ret (v := .agg #[.int .i64 B.id, .string B.name, .slice a n c, .slice fa fn fc, .slice ra rn rc, .slice oa on oc, .int .i64 B.ticks, .int .i64 B.parse, .int .i64 B.word, .int .i64 B.drops, .int .i64 B.vers]) (by simp [results, Tryz.results32, go_sem, *]) rfl ⟨a, n, c, fa, fn, fc, ra, rn, rc, oa, on, oc, B, rfl, HO.out, HD.out, HW.out⟩
 by_cases y1z : y = 1
 ·subst y1z
  go_wp2_with fail
  refine (pickS_upto 11 C a0 l0 c0 z0 _ _ _ w3 st.went.cur rfl ?h1a ?h2a ?h3a ?h4a).mono ?_
  case h1a => rfl
  case h2a => kernel_rfl
  case h3a => decide
  case h4a => decide
  rintro e w4 ⟨S, hS, rfl, wt⟩
  have st := st.draw wt
  have hD : FewB { B with name := S } := ⟨HD.out.pl, HD.out.fl, HD.out.fr, HD.out.v, (by show S.size ≤ 30; omega)⟩
  have st2 := st.put (B' := { B with name := S }) ⟨st.own.ports, st.own.f, st.own.v⟩ 1 (.string S) rfl
  obtain ⟨x0, x1, x2, x3, x4, x5, x6, x7, x8, x9, x10⟩ := cells11 st.box
  have g1 := frozen8 st.box 1
  clear wt HD st
  generalize hB2 : ({ B with name := S } : BR) = B2 at st2 hD
  clear hB2
  have HD := hide hD
  clear hD
  have st := st2
  clear st2
  obtain ⟨B, hBr⟩ : ∃ y, y = B2 := ⟨_, rfl⟩
  subst hBr
  go_upto_region 15 with fail
  clear x0 x1 x2 x3 x4 x5 x6 x7 x8 x9 x10 g1
  generalize hw9 : (w4.setCell ⟨X, 1, none⟩ (.string S)) = w9 at *
  clear hw9
  obtain ⟨x0, x1, x2, x3, x4, x5, x6, x7, x8, x9, x10⟩ := cells11 st.box
  obtain ⟨y0, y1, y2, y3, y4, y5, y6, y7, y8, y9, y10⟩ := cells11 st.res
  have fr := frozen8 st.res
  have f0 := fr 0
  have f1 := fr 1
  have f2 := fr 2
  have f3 := fr 3
  have f4 := fr 4
  have f5 := fr 5
  have f6 := fr 6
  have f7 := fr 7
  have f8 := fr 8
  have f9 := fr 9
  have f10 := fr 10
  have ne1 : ¬ X = w.heap.size := by have := st.hX; omega
  have ne2 : ¬ w.heap.size = X := by have := st.hX; omega
  have HO := hide (st.own.boxed11 st.res (.int .i64 B.id) (.string B.name) (.slice a n c) (.slice fa fn fc) (.slice ra rn rc) (.slice oa on oc) (.int .i64 B.ticks) (.int .i64 B.parse) (.int .i64 B.word) (.int .i64 B.drops) (.int .i64 B.vers))
  have HW := hide (st.went.madeAt (below_set11 (Below.refl w.heap.size w9) (Nat.le_refl w.heap.size) (.int .i64 B.id) (.string B.name) (.slice a n c) (.slice fa fn fc) (.slice ra rn rc) (.slice oa on oc) (.int .i64 B.ticks) (.int .i64 B.parse) (.int .i64 B.word) (.int .i64 B.drops) (.int .i64 B.vers)) hlt (Nat.le_refl _))
  clear st fr
  go_wp2
  exact bodyPost_ret (v := .agg #[.int .i64 B.id, .string B.name, .slice a n c, .slice fa fn fc, .slice ra rn rc, .slice oa on oc, .int .i64 B.ticks, .int .i64 B.parse, .int .i64 B.word, .int .i64 B.drops, .int .i64 B.vers]) (by simp [results, Tryz.results32, go_sem, *]) rfl ⟨a, n, c, fa, fn, fc, ra, rn, rc, oa, on, oc, B, rfl, HO.out, HD.out, HW.out⟩
 by_cases y2z : y = 2
 ·subst y2z
  go_wp2_with fail
  refine (l10Any_any C a0 l0 c0 z0 _ st.went.cur).mono ?_
  rintro e w4 ⟨a7, c7, m7, l7, rfl, h71, h74, hl7, o7, wt⟩
  have st := st.draw wt
  have hD : FewB { B with ports := l7 } := ⟨(by show l7.length ≤ 6; omega), HD.out.fl, HD.out.fr, HD.out.v, HD.out.nm⟩
  have o7 := gown_lt o7 (base' := w.heap.size) SZ3.out
  have st2 := st.put (B' := { B with ports := l7 }) (st.own.putPorts (Below.refl _ _) o7) 2 (.slice a7 m7 c7) rfl
  obtain ⟨x0, x1, x2, x3, x4, x5, x6, x7, x8, x9, x10⟩ := cells11 st.box
  have g2 := frozen8 st.box 2
  clear wt HD st
  generalize hB2 : ({ B with ports := l7 } : BR) = B2 at st2 hD
  clear hB2
  have HD := hide hD
  clear hD
  have st := st2
  clear st2
  obtain ⟨a, har⟩ : ∃ y, y = a7 := ⟨_, rfl⟩
  subst har
  obtain ⟨n, hnr⟩ : ∃ y, y = m7 := ⟨_, rfl⟩
  subst hnr
  obtain ⟨c, hcr⟩ : ∃ y, y = c7 := ⟨_, rfl⟩
  subst hcr
  obtain ⟨B, hBr⟩ : ∃ y, y = B2 := ⟨_, rfl⟩
  subst hBr
  go_upto_region 15 with fail
  clear x0 x1 x2 x3 x4 x5 x6 x7 x8 x9 x10 g2
  generalize hw9 : (w4.setCell ⟨X, 2, none⟩ (.slice a n c)) = w9 at *
  clear hw9
  obtain ⟨x0, x1, x2, x3, x4, x5, x6, x7, x8, x9, x10⟩ := cells11 st.box
  obtain ⟨y0, y1, y2, y3, y4, y5, y6, y7, y8, y9, y10⟩ := cells11 st.res
  have fr := frozen8 st.res
  have f0 := fr 0
  have f1 := fr 1
  have f2 := fr 2
  have f3 := fr 3
  have f4 := fr 4
  have f5 := fr 5
  have f6 := fr 6
  have f7 := fr 7
  have f8 := fr 8
  have f9 := fr 9
  have f10 := fr 10
  have ne1 : ¬ X = w.heap.size := by have := st.hX; omega
  have ne2 : ¬ w.heap.size = X := by have := st.hX; omega
  have HO := hide (st.own.boxed11 st.res (.int .i64 B.id) (.string B.name) (.slice a n c) (.slice fa fn fc) (.slice ra rn rc) (.slice oa on oc) (.int .i64 B.ticks) (.int .i64 B.parse) (.int .i64 B.word) (.int .i64 B.drops) (.int .i64 B.vers))
  have HW := hide (st.went.madeAt (below_set11 (Below.refl w.heap.size w9) (Nat.le_refl w.heap.size) (.int .i64 B.id) (.string B.name) (.slice a n c) (.slice fa fn fc) (.slice ra rn rc) (.slice oa on oc) (.int .i64 B.ticks) (.int .i64 B.parse) (.int .i64 B.word) (.int .i64 B.drops) (.int .i64 B.vers)) hlt (Nat.le_refl _))
  clear st fr
  go_wp2
  exact bodyPost_ret (v := .agg #[.int .i64 B.id, .string B.name, .slice a n c, .slice fa fn fc, .slice ra rn rc, .slice oa on oc, .int .i64 B.ticks, .int .i64 B.parse, .int .i64 B.word, .int .i64 B.drops, .int .i64 B.vers]) (by simp [results, Tryz.results32, go_sem, *]) rfl ⟨a, n, c, fa, fn, fc, ra, rn, rc, oa, on, oc, B, rfl, HO.out, HD.out, HW.out⟩
 by_cases y3z : y = 3
 ·subst y3z
  go_wp2_with fail
  refine (l8Any_any C a0 l0 c0 z0 _ st.went.cur).mono ?_
  rintro e w4 ⟨fa7, fn7, fc7, l7, rfl, hl7, hlen7, hR7, o7, wt⟩
  have st := st.draw wt
  have hD : FewB { B with f := l7 } := ⟨HD.out.pl, (by show l7.length ≤ 100; omega), hR7, HD.out.v, HD.out.nm⟩
  have o7 := gown_lt o7 (base' := w.heap.size) SZ3.out
  have st2 := st.put (B' := { B with f := l7 }) (st.own.putF (Below.refl _ _) o7) 3 (.slice fa7 fn7 fc7) rfl
  obtain ⟨x0, x1, x2, x3, x4, x5, x6, x7, x8, x9, x10⟩ := cells11 st.box
  have g3 := frozen8 st.box 3
  clear wt HD st
  generalize hB2 : ({ B with f := l7 } : BR) = B2 at st2 hD
  clear hB2
  have HD := hide hD
  clear hD
  have st := st2
  clear st2
  obtain ⟨fa, hfar⟩ : ∃ y, y = fa7 := ⟨_, rfl⟩
  subst hfar
  obtain ⟨fn, hfnr⟩ : ∃ y, y = fn7 := ⟨_, rfl⟩
  subst hfnr
  obtain ⟨fc, hfcr⟩ : ∃ y, y = fc7 := ⟨_, rfl⟩
  subst hfcr
  obtain ⟨B, hBr⟩ : ∃ y, y = B2 := ⟨_, rfl⟩
  subst hBr
  go_upto_region 15 with fail
  clear x0 x1 x2 x3 x4 x5 x6 x7 x8 x9 x10 g3
  generalize hw9 : (w4.setCell ⟨X, 3, none⟩ (.slice fa fn fc)) = w9 at *
  clear hw9
  obtain ⟨x0, x1, x2, x3, x4, x5, x6, x7, x8, x9, x10⟩ := cells11 st.box
  obtain ⟨y0, y1, y2, y3, y4, y5, y6, y7, y8, y9, y10⟩ := cells11 st.res
  have fr := frozen8 st.res
  have f0 := fr 0
  have f1 := fr 1
  have f2 := fr 2
  have f3 := fr 3
  have f4 := fr 4
  have f5 := fr 5
  have f6 := fr 6
  have f7 := fr 7
  have f8 := fr 8
  have f9 := fr 9
  have f10 := fr 10
  have ne1 : ¬ X = w.heap.size := by have := st.hX; omega
  have ne2 : ¬ w.heap.size = X := by have := st.hX; omega
  have HO := hide (st.own.boxed11 st.res (.int .i64 B.id) (.string B.name) (.slice a n c) (.slice fa fn fc) (.slice ra rn rc) (.slice oa on oc) (.int .i64 B.ticks) (.int .i64 B.parse) (.int .i64 B.word) (.int .i64 B.drops) (.int .i64 B.vers))
  have HW := hide (st.went.madeAt (below_set11 (Below.refl w.heap.size w9) (Nat.le_refl w.heap.size) (.int .i64 B.id) (.string B.name) (.slice a n c) (.slice fa fn fc) (.slice ra rn rc) (.slice oa on oc) (.int .i64 B.ticks) (.int .i64 B.parse) (.int .i64 B.word) (.int .i64 B.drops) (.int .i64 B.vers)) hlt (Nat.le_refl _))
  clear st fr
  go_wp2
  exact bodyPost_ret (v := .agg #[.int .i64 B.id, .string B.name, .slice a n c, .slice fa fn fc, .slice ra rn rc, .slice oa on oc, .int .i64 B.ticks, .int .i64 B.parse, .int .i64 B.word, .int .i64 B.drops, .int .i64 B.vers]) (by simp [results, Tryz.results32, go_sem, *]) rfl ⟨a, n, c, fa, fn, fc, ra, rn, rc, oa, on, oc, B, rfl, HO.out, HD.out, HW.out⟩
 by_cases y4z : y = 4
 ·subst y4z
  go_wp2_with fail
  refine (l9Any_any C a0 l0 c0 z0 _ st.went.cur).mono ?_
  rintro e w4 ⟨ra7, rn7, rc7, oa7, on7, oc7, v7, ports7, pp7, rfl, o7, hF7, hp1, hp4, -, wt⟩
  have st := st.draw wt
  have hD : FewB { B with v := v7 } := ⟨HD.out.pl, HD.out.fl, HD.out.fr, ⟨pp7, hF7, by omega⟩, HD.out.nm⟩
  have o7 := o7.lt (base' := w.heap.size) SZ3.out
  have st2 := st.putV o7
  obtain ⟨x0, x1, x2, x3, x4, x5, x6, x7, x8, x9, x10⟩ := cells11 st.box
  have g4 := frozen8 st.box 4
  have g5 := frozen8 st.box 5
  clear wt HD st
  generalize hB2 : ({ B with v := v7 } : BR) = B2 at st2 hD
  clear hB2
  have HD := hide hD
  clear hD
  have st := st2
  clear st2
  obtain ⟨ra, hrar⟩ : ∃ y, y = ra7 := ⟨_, rfl⟩
  subst hrar
  obtain ⟨rn, hrnr⟩ : ∃ y, y = rn7 := ⟨_, rfl⟩
  subst hrnr
  obtain ⟨rc, hrcr⟩ : ∃ y, y = rc7 := ⟨_, rfl⟩
  subst hrcr
  obtain ⟨oa, hoar⟩ : ∃ y, y = oa7 := ⟨_, rfl⟩
  subst hoar
  obtain ⟨on, honr⟩ : ∃ y, y = on7 := ⟨_, rfl⟩
  subst honr
  obtain ⟨oc, hocr⟩ : ∃ y, y = oc7 := ⟨_, rfl⟩
  subst hocr
  obtain ⟨B, hBr⟩ : ∃ y, y = B2 := ⟨_, rfl⟩
  subst hBr
  go_upto_region 15 with fail
  clear x0 x1 x2 x3 x4 x5 x6 x7 x8 x9 x10 g4 g5
  generalize hw9 : ((w4.setCell ⟨X, 4, none⟩ (.slice ra rn rc)).setCell ⟨X, 5, none⟩ (.slice oa on oc)) = w9 at *
  clear hw9
  obtain ⟨x0, x1, x2, x3, x4, x5, x6, x7, x8, x9, x10⟩ := cells11 st.box
  obtain ⟨y0, y1, y2, y3, y4, y5, y6, y7, y8, y9, y10⟩ := cells11 st.res
  have fr := frozen8 st.res
  have f0 := fr 0
  have f1 := fr 1
  have f2 := fr 2
  have f3 := fr 3
  have f4 := fr 4
  have f5 := fr 5
  have f6 := fr 6
  have f7 := fr 7
  have f8 := fr 8
  have f9 := fr 9
  have f10 := fr 10
  have ne1 : ¬ X = w.heap.size := by have := st.hX; omega
  have ne2 : ¬ w.heap.size = X := by have := st.hX; omega
  have HO := hide (st.own.boxed11 st.res (.int .i64 B.id) (.string B.name) (.slice a n c) (.slice fa fn fc) (.slice ra rn rc) (.slice oa on oc) (.int .i64 B.ticks) (.int .i64 B.parse) (.int .i64 B.word) (.int .i64 B.drops) (.int .i64 B.vers))
  have HW := hide (st.went.madeAt (below_set11 (Below.refl w.heap.size w9) (Nat.le_refl w.heap.size) (.int .i64 B.id) (.string B.name) (.slice a n c) (.slice fa fn fc) (.slice ra rn rc) (.slice oa on oc) (.int .i64 B.ticks) (.int .i64 B.parse) (.int .i64 B.word) (.int .i64 B.drops) (.int .i64 B.vers)) hlt (Nat.le_refl _))
  clear st fr
  go_wp2
  exact bodyPost_ret (v := .agg #[.int .i64 B.id, .string B.name, .slice a n c, .slice fa fn fc, .slice ra rn rc, .slice oa on oc, .int .i64 B.ticks, .int .i64 B.parse, .int .i64 B.word, .int .i64 B.drops, .int .i64 B.vers]) (by simp [results, Tryz.results32, go_sem, *]) rfl ⟨a, n, c, fa, fn, fc, ra, rn, rc, oa, on, oc, B, rfl, HO.out, HD.out, HW.out⟩
 by_cases y5z : y = 5
 ·subst y5z
  go_wp2_with fail
  refine (pick_any C a0 l0 c0 z0 [-1, 1000000, 1000001] _ _ w3 st.went.cur rfl rfl (by simp) (by simp)).mono ?_
  rintro e w4 ⟨q, -, rfl, wt⟩
  have st := st.draw wt
  have hD : FewB { B with drops := q } := ⟨HD.out.pl, HD.out.fl, HD.out.fr, HD.out.v, HD.out.nm⟩
  have st2 := st.put (B' := { B with drops := q }) ⟨st.own.ports, st.own.f, st.own.v⟩ 9 (.int .i64 q) rfl
  obtain ⟨x0, x1, x2, x3, x4, x5, x6, x7, x8, x9, x10⟩ := cells11 st.box
  have g9 := frozen8 st.box 9
  clear wt HD st
  generalize hB2 : ({ B with drops := q } : BR) = B2 at st2 hD
  clear hB2
  have HD := hide hD
  clear hD
  have st := st2
  clear st2
  obtain ⟨B, hBr⟩ : ∃ y, y = B2 := ⟨_, rfl⟩
  subst hBr
  go_upto_region 15 with fail
  clear x0 x1 x2 x3 x4 x5 x6 x7 x8 x9 x10 g9
  generalize hw9 : (w4.setCell ⟨X, 9, none⟩ (.int .i64 q)) = w9 at *
  clear hw9
  obtain ⟨x0, x1, x2, x3, x4, x5, x6, x7, x8, x9, x10⟩ := cells11 st.box
  obtain ⟨y0, y1, y2, y3, y4, y5, y6, y7, y8, y9, y10⟩ := cells11 st.res
  have fr := frozen8 st.res
  have f0 := fr 0
  have f1 := fr 1
  have f2 := fr 2
  have f3 := fr 3
  have f4 := fr 4
  have f5 := fr 5
  have f6 := fr 6
  have f7 := fr 7
  have f8 := fr 8
  have f9 := fr 9
  have f10 := fr 10
  have ne1 : ¬ X = w.heap.size := by have := st.hX; omega
  have ne2 : ¬ w.heap.size = X := by have := st.hX; omega
  have HO := hide (st.own.boxed11 st.res (.int .i64 B.id) (.string B.name) (.slice a n c) (.slice fa fn fc) (.slice ra rn rc) (.slice oa on oc) (.int .i64 B.ticks) (.int .i64 B.parse) (.int .i64 B.word) (.int .i64 B.drops) (.int .i64 B.vers))
  have HW := hide (st.went.madeAt (below_set11 (Below.refl w.heap.size w9) (Nat.le_refl w.heap.size) (.int .i64 B.id) (.string B.name) (.slice a n c) (.slice fa fn fc) (.slice ra rn rc) (.slice oa on oc) (.int .i64 B.ticks) (.int .i64 B.parse) (.int .i64 B.word) (.int .i64 B.drops) (.int .i64 B.vers)) hlt (Nat.le_refl _))
  clear st fr
  go_wp2
  exact bodyPost_ret (v := .agg #[.int .i64 B.id, .string B.name, .slice a n c, .slice fa fn fc, .slice ra rn rc, .slice oa on oc, .int .i64 B.ticks, .int .i64 B.parse, .int .i64 B.word, .int .i64 B.drops, .int .i64 B.vers]) (by simp [results, Tryz.results32, go_sem, *]) rfl ⟨a, n, c, fa, fn, fc, ra, rn, rc, oa, on, oc, B, rfl, HO.out, HD.out, HW.out⟩
 go_upto_region 15 with fail
 obtain ⟨x0, x1, x2, x3, x4, x5, x6, x7, x8, x9, x10⟩ := cells11 st.box
 obtain ⟨y0, y1, y2, y3, y4, y5, y6, y7, y8, y9, y10⟩ := cells11 st.res
 have fr := frozen8 st.res
 have f0 := fr 0
 have f1 := fr 1
 have f2 := fr 2
 have f3 := fr 3
 have f4 := fr 4
 have f5 := fr 5
 have f6 := fr 6
 have f7 := fr 7
 have f8 := fr 8
 have f9 := fr 9
 have f10 := fr 10
 have ne1 : ¬ X = w.heap.size := by have := st.hX; omega
 have ne2 : ¬ w.heap.size = X := by have := st.hX; omega
 have HO := hide (st.own.boxed11 st.res (.int .i64 B.id) (.string B.name) (.slice a n c) (.slice fa fn fc) (.slice ra rn rc) (.slice oa on oc) (.int .i64 B.ticks) (.int .i64 B.parse) (.int .i64 B.word) (.int .i64 B.drops) (.int .i64 B.vers))
 have HW := hide (st.went.madeAt (below_set11 (Below.refl w.heap.size w3) (Nat.le_refl w.heap.size) (.int .i64 B.id) (.string B.name) (.slice a n c) (.slice fa fn fc) (.slice ra rn rc) (.slice oa on oc) (.int .i64 B.ticks) (.int .i64 B.parse) (.int .i64 B.word) (.int .i64 B.drops) (.int .i64 B.vers)) hlt (Nat.le_refl _))
 clear st fr
 go_wp2
 exact bodyPost_ret (v := .agg #[.int .i64 B.id, .string B.name, .slice a n c, .slice fa fn fc, .slice ra rn rc, .slice oa on oc, .int .i64 B.ticks, .int .i64 B.parse, .int .i64 B.word, .int .i64 B.drops, .int .i64 B.vers]) (by simp [results, Tryz.results32, go_sem, *]) rfl ⟨a, n, c, fa, fn, fc, ra, rn, rc, oa, on, oc, B, rfl, HO.out, HD.out, HW.out⟩

theorem own_set5 {w : World} {base : Nat} {a : Option Addr} {n c : Nat} {fa : Option Addr} {fn fc : Nat} {ra : Option Addr} {rn rc : Nat} {oa : Option Addr} {on oc : Nat} {B : BR} (h : BrOwn w base a n c fa fn fc ra rn rc oa on oc B) {X : Nat} {cs : Array Value} {T : TypeId} (hX : w.heap[X]? = some (.cells cs T)) (h1 : (44 : Nat) ≠ T) (h2 : (49 : Nat) ≠ T) (h3 : (81 : Nat) ≠ T) (h4 : (3 : Nat) ≠ T) (u0 u1 u2 u3 u4 : Value) : BrOwn (((((w.setCell ⟨X, 0, none⟩ u0).setCell ⟨X, 1, none⟩ u1).setCell ⟨X, 2, none⟩ u2).setCell ⟨X, 3, none⟩ u3).setCell ⟨X, 4, none⟩ u4) base a n c fa fn fc ra rn rc oa on oc B :=
 (BrOwn.other (BrOwn.other (BrOwn.other (BrOwn.other (BrOwn.other h hX h1 h2 h3 h4 0 u0) (box11 hX 0 u0) h1 h2 h3 h4 1 u1) (box11 (box11 hX 0 u0) 1 u1) h1 h2 h3 h4 2 u2) (box11 (box11 (box11 hX 0 u0) 1 u1) 2 u2) h1 h2 h3 h4 3 u3) (box11 (box11 (box11 (box11 hX 0 u0) 1 u1) 2 u2) 3 u3) h1 h2 h3 h4 4 u4)

set_option maxRecDepth 100000 in
set_option maxHeartbeats 8000000 in
theorem drawTick_any (a0 : Option Addr) (l0 c0 : Nat) (z0 : List Int) (w : World) (h0 : Row w a0 l0 c0 z0) (hs : l0 ≤ 1048576) :
  Calls Tryz.prog 18 #[.slice a0 l0 c0] w fun e w' => ∃ (a : Option Addr) (n c : Nat) (fa : Option Addr) (fn fc : Nat) (ra : Option Addr) (rn rc : Nat) (oa : Option Addr) (on oc : Nat) (B : BR), e = .returned (.agg #[.int .i64 B.id, .string B.name, .slice a n c, .slice fa fn fc, .slice ra rn rc, .slice oa on oc, .int .i64 B.ticks, .int .i64 B.parse, .int .i64 B.word, .int .i64 B.drops, .int .i64 B.vers]) ∧ BrOwn w' w.heap.size a n c fa fn fc ra rn rc oa on oc B ∧ FewB B ∧ Below w.heap.size w w' := by
 generalize hwR : w.alloc (Obj.cells #[.int .i64 0, .string ⟨#[]⟩, .slice none 0 0, .slice none 0 0, .slice none 0 0, .slice none 0 0, .int .i64 0, .int .i64 0, .int .i64 0, .int .i64 0, .int .i64 0] 31) = wR
 have bR : Below w.heap.size w wR := by rw [← hwR]; exact below_one _ _
 have zR : w.heap.size < wR.heap.size := by rw [← hwR]; simp
 have kR : wR.heap[w.heap.size]? = some (.cells #[.int .i64 0, .string ⟨#[]⟩, .slice none 0 0, .slice none 0 0, .slice none 0 0, .slice none 0 0, .int .i64 0, .int .i64 0, .int .i64 0, .int .i64 0, .int .i64 0] 31) := by rw [← hwR]; exact block_last _ _
 have bb := bR
 go_enter Tryz.func18, Tryz.ntmps18
 go_wp2_with fail
 refine (new_any a0 l0 c0 z0 _ (h0.below bb) hs).mono ?_
 rintro e w2 ⟨rfl, hc, hb2⟩
 have hlt := hc.lt
 have kR := kept_block kR hb2
 have bb := gr_trans bb hb2
 clear hb2 bR hwR
 generalize hC0 : wR.heap.size = C0 at *
 go_wp2_with fail
 refine (l11Any_any C0 a0 l0 c0 z0 _ hc).mono ?_
 rintro e w3 ⟨a, n, c, fa, fn, fc, ra, rn, rc, oa, on, oc, B, rfl, own, few, wt⟩
 have hc3 := wt.cur
 have hlt3 := hc3.lt
 have hC2 := own.lt (base' := w2.heap.size) (Nat.le_refl _)
 have hsz2 := bb.size
 have kR := kept_grown kR wt.grown (fun i e => by cases e; omega)
 have bb := bb.trans (below_of_grown wt.grown (by omega) (by omega))
 clear wt
 have own := own.lt (base' := w.heap.size) hsz2
 obtain ⟨u0, u1, u2, u3, u4, u5, u6, u7, u8, u9, u10⟩ := cells11 kR
 have fr := frozen8 kR
 have fr0 := fr 0
 have fr1 := fr 1
 have fr2 := fr 2
 have fr3 := fr 3
 have fr4 := fr 4
 have fr5 := fr 5
 have fr6 := fr 6
 have fr7 := fr 7
 have fr8 := fr 8
 have fr9 := fr 9
 have fr10 := fr 10
 have HO := hide (own.boxed11 kR (.int .i64 B.id) (.string B.name) (.slice a n c) (.slice fa fn fc) (.slice ra rn rc) (.slice oa on oc) (.int .i64 B.ticks) (.int .i64 B.parse) (.int .i64 B.word) (.int .i64 B.drops) (.int .i64 B.vers))
 have HB := hide (below_set11 bb (Nat.le_refl _) (.int .i64 B.id) (.string B.name) (.slice a n c) (.slice fa fn fc) (.slice ra rn rc) (.slice oa on oc) (.int .i64 B.ticks) (.int .i64 B.parse) (.int .i64 B.word) (.int .i64 B.drops) (.int .i64 B.vers))
 have HF := hide few
 clear fr own bb kR few hC2
 go_wp2
 exact bodyPost_ret (v := .agg #[.int .i64 B.id, .string B.name, .slice a n c, .slice fa fn fc, .slice ra rn rc, .slice oa on oc, .int .i64 B.ticks, .int .i64 B.parse, .int .i64 B.word, .int .i64 B.drops, .int .i64 B.vers]) (by simp [results, Tryz.results18, go_sem, *]) rfl ⟨a, n, c, fa, fn, fc, ra, rn, rc, oa, on, oc, B, rfl, HO.out, HF.out, HB.out⟩

set_option maxRecDepth 100000 in
set_option maxHeartbeats 8000000 in
theorem drawBridgeOk_any (a0 : Option Addr) (l0 c0 : Nat) (z0 : List Int) (w : World) (h0 : Row w a0 l0 c0 z0) (hs : l0 ≤ 1048576) :
  Calls Tryz.prog 19 #[.slice a0 l0 c0] w fun e w' => ∃ (a : Option Addr) (n c : Nat) (fa : Option Addr) (fn fc : Nat) (ra : Option Addr) (rn rc : Nat) (oa : Option Addr) (on oc : Nat) (B : BR), e = .returned (.agg #[.int .i64 B.id, .string B.name, .slice a n c, .slice fa fn fc, .slice ra rn rc, .slice oa on oc, .int .i64 B.ticks, .int .i64 B.parse, .int .i64 B.word, .int .i64 B.drops, .int .i64 B.vers]) ∧ BrOwn w' w.heap.size a n c fa fn fc ra rn rc oa on oc B ∧ FewB B ∧ Below w.heap.size w w' := by
 generalize hwR : w.alloc (Obj.cells #[.int .i64 0, .string ⟨#[]⟩, .slice none 0 0, .slice none 0 0, .slice none 0 0, .slice none 0 0, .int .i64 0, .int .i64 0, .int .i64 0, .int .i64 0, .int .i64 0] 31) = wR
 have bR : Below w.heap.size w wR := by rw [← hwR]; exact below_one _ _
 have zR : w.heap.size < wR.heap.size := by rw [← hwR]; simp
 have kR : wR.heap[w.heap.size]? = some (.cells #[.int .i64 0, .string ⟨#[]⟩, .slice none 0 0, .slice none 0 0, .slice none 0 0, .slice none 0 0, .int .i64 0, .int .i64 0, .int .i64 0, .int .i64 0, .int .i64 0] 31) := by rw [← hwR]; exact block_last _ _
 have bb := bR
 go_enter Tryz.func19, Tryz.ntmps19
 go_wp2_with fail
 refine (new_any a0 l0 c0 z0 _ (h0.below bb) hs).mono ?_
 rintro e w2 ⟨rfl, hc, hb2⟩
 have hlt := hc.lt
 have kR := kept_block kR hb2
 have bb := gr_trans bb hb2
 clear hb2 bR hwR
 generalize hC0 : wR.heap.size = C0 at *
 go_wp2_with fail
 refine (l11Any_any C0 a0 l0 c0 z0 _ hc).mono ?_
 rintro e w3 ⟨a, n, c, fa, fn, fc, ra, rn, rc, oa, on, oc, B, rfl, own, few, wt⟩
 have hc3 := wt.cur
 have hlt3 := hc3.lt
 have hC2 := own.lt (base' := w2.heap.size) (Nat.le_refl _)
 have hsz2 := bb.size
 have kR := kept_grown kR wt.grown (fun i e => by cases e; omega)
 have bb := bb.trans (below_of_grown wt.grown (by omega) (by omega))
 clear wt
 have own := own.lt (base' := w.heap.size) hsz2
 obtain ⟨u0, u1, u2, u3, u4, u5, u6, u7, u8, u9, u10⟩ := cells11 kR
 have fr := frozen8 kR
 have fr0 := fr 0
 have fr1 := fr 1
 have fr2 := fr 2
 have fr3 := fr 3
 have fr4 := fr 4
 have fr5 := fr 5
 have fr6 := fr 6
 have fr7 := fr 7
 have fr8 := fr 8
 have fr9 := fr 9
 have fr10 := fr 10
 have HO := hide (own.boxed11 kR (.int .i64 B.id) (.string B.name) (.slice a n c) (.slice fa fn fc) (.slice ra rn rc) (.slice oa on oc) (.int .i64 B.ticks) (.int .i64 B.parse) (.int .i64 B.word) (.int .i64 B.drops) (.int .i64 B.vers))
 have HB := hide (below_set11 bb (Nat.le_refl _) (.int .i64 B.id) (.string B.name) (.slice a n c) (.slice fa fn fc) (.slice ra rn rc) (.slice oa on oc) (.int .i64 B.ticks) (.int .i64 B.parse) (.int .i64 B.word) (.int .i64 B.drops) (.int .i64 B.vers))
 have HF := hide few
 clear fr own bb kR few hC2
 go_wp2
 exact bodyPost_ret (v := .agg #[.int .i64 B.id, .string B.name, .slice a n c, .slice fa fn fc, .slice ra rn rc, .slice oa on oc, .int .i64 B.ticks, .int .i64 B.parse, .int .i64 B.word, .int .i64 B.drops, .int .i64 B.vers]) (by simp [results, Tryz.results19, go_sem, *]) rfl ⟨a, n, c, fa, fn, fc, ra, rn, rc, oa, on, oc, B, rfl, HO.out, HF.out, HB.out⟩

set_option maxRecDepth 100000 in
set_option maxHeartbeats 8000000 in
theorem drawLinkSet_any (a0 : Option Addr) (l0 c0 : Nat) (z0 : List Int) (w : World) (h0 : Row w a0 l0 c0 z0) (hs : l0 ≤ 1048576) :
  Calls Tryz.prog 17 #[.slice a0 l0 c0] w fun e w' => ∃ (a : Option Addr) (n c : Nat) (fa : Option Addr) (fn fc : Nat) (ra : Option Addr) (rn rc : Nat) (oa : Option Addr) (on oc : Nat) (B : BR) (port : Int) (up : Bool), e = .returned (.tuple #[.agg #[.int .i64 B.id, .string B.name, .slice a n c, .slice fa fn fc, .slice ra rn rc, .slice oa on oc, .int .i64 B.ticks, .int .i64 B.parse, .int .i64 B.word, .int .i64 B.drops, .int .i64 B.vers], .int .i64 port, .bool up]) ∧ BrOwn w' w.heap.size a n c fa fn fc ra rn rc oa on oc B ∧ FewB B ∧ Below w.heap.size w w' := by
 generalize hwR : w.alloc (Obj.cells #[.int .i64 0, .string ⟨#[]⟩, .slice none 0 0, .slice none 0 0, .slice none 0 0, .slice none 0 0, .int .i64 0, .int .i64 0, .int .i64 0, .int .i64 0, .int .i64 0] 31) = wR
 have bR : Below w.heap.size w wR := by rw [← hwR]; exact below_one _ _
 have zR : w.heap.size < wR.heap.size := by rw [← hwR]; simp
 have kR : wR.heap[w.heap.size]? = some (.cells #[.int .i64 0, .string ⟨#[]⟩, .slice none 0 0, .slice none 0 0, .slice none 0 0, .slice none 0 0, .int .i64 0, .int .i64 0, .int .i64 0, .int .i64 0, .int .i64 0] 31) := by rw [← hwR]; exact block_last _ _
 have bb := bR
 go_enter Tryz.func17, Tryz.ntmps17
 go_wp2_with fail
 refine (new_any a0 l0 c0 z0 _ (h0.below bb) hs).mono ?_
 rintro e w2 ⟨rfl, hc, hb2⟩
 have hlt := hc.lt
 have kR := kept_block kR hb2
 have bb := gr_trans bb hb2
 clear hb2 bR hwR
 generalize hC0 : wR.heap.size = C0 at *
 go_wp2_with fail
 refine (l11Any_any C0 a0 l0 c0 z0 _ hc).mono ?_
 rintro e w3 ⟨a, n, c, fa, fn, fc, ra, rn, rc, oa, on, oc, B, rfl, own, few, wt⟩
 have hc3 := wt.cur
 have hlt3 := hc3.lt
 have hC2 := own.lt (base' := w2.heap.size) (Nat.le_refl _)
 have hsz2 := bb.size
 have kR := kept_grown kR wt.grown (fun i e => by cases e; omega)
 have bb := bb.trans (below_of_grown wt.grown (by omega) (by omega))
 clear wt
 go_wp2_with fail
 refine (pick_any C0 a0 l0 c0 z0 [0, 0, 1, 2, -1, 6] _ _ w3 hc3 rfl rfl (by simp) (by simp)).mono ?_
 rintro e w4 ⟨port, -, rfl, wt⟩
 have own := own.apart wt.grown (fun i e => by cases e; exact hlt)
 have hc4 := wt.cur
 have hlt4 := hc4.lt
 have kR := kept_grown kR wt.grown (fun i e => by cases e; omega)
 have bb := bb.trans (below_of_grown wt.grown (by omega) (by omega))
 clear wt
 go_wp2_with fail
 refine (once_any C0 a0 l0 c0 z0 2 _ hc4 (by omega)).mono ?_
 rintro e w5 ⟨up, rfl, wt⟩
 have own := own.apart wt.grown (fun i e => by cases e; exact hlt)
 have kR := kept_grown kR wt.grown (fun i e => by cases e; omega)
 have bb := bb.trans (below_of_grown wt.grown (by omega) (by omega))
 have own := own.lt (base' := w.heap.size) hsz2
 obtain ⟨u0, u1, u2, u3, u4, u5, u6, u7, u8, u9, u10⟩ := cells11 kR
 have fr := frozen8 kR
 have fr0 := fr 0
 have fr1 := fr 1
 have fr2 := fr 2
 have fr3 := fr 3
 have fr4 := fr 4
 have fr5 := fr 5
 have fr6 := fr 6
 have fr7 := fr 7
 have fr8 := fr 8
 have fr9 := fr 9
 have fr10 := fr 10
 have HO := hide (own.boxed11 kR (.int .i64 B.id) (.string B.name) (.slice a n c) (.slice fa fn fc) (.slice ra rn rc) (.slice oa on oc) (.int .i64 B.ticks) (.int .i64 B.parse) (.int .i64 B.word) (.int .i64 B.drops) (.int .i64 B.vers))
 have HB := hide (below_set11 bb (Nat.le_refl _) (.int .i64 B.id) (.string B.name) (.slice a n c) (.slice fa fn fc) (.slice ra rn rc) (.slice oa on oc) (.int .i64 B.ticks) (.int .i64 B.parse) (.int .i64 B.word) (.int .i64 B.drops) (.int .i64 B.vers))
 have HF := hide few
 clear fr own bb kR few hC2 wt
 go_wp2
 exact bodyPost_ret (v := .tuple #[.agg #[.int .i64 B.id, .string B.name, .slice a n c, .slice fa fn fc, .slice ra rn rc, .slice oa on oc, .int .i64 B.ticks, .int .i64 B.parse, .int .i64 B.word, .int .i64 B.drops, .int .i64 B.vers], .int .i64 port, .bool up]) (by simp [results, Tryz.results17, go_sem, *]) rfl ⟨a, n, c, fa, fn, fc, ra, rn, rc, oa, on, oc, B, port, up, rfl, HO.out, HF.out, HB.out⟩

set_option maxRecDepth 100000 in
set_option maxHeartbeats 8000000 in
theorem drawHearVec_any (a0 : Option Addr) (l0 c0 : Nat) (z0 : List Int) (w : World) (h0 : Row w a0 l0 c0 z0) (hs : l0 ≤ 1048576) :
  Calls Tryz.prog 7 #[.slice a0 l0 c0] w fun e w' => ∃ (a : Option Addr) (n c : Nat) (fa : Option Addr) (fn fc : Nat) (ra : Option Addr) (rn rc : Nat) (oa : Option Addr) (on oc : Nat) (B : BR) (port : Int) (v : VD), e = .returned (.tuple #[.agg #[.int .i64 B.id, .string B.name, .slice a n c, .slice fa fn fc, .slice ra rn rc, .slice oa on oc, .int .i64 B.ticks, .int .i64 B.parse, .int .i64 B.word, .int .i64 B.drops, .int .i64 B.vers], .int .i64 port, .agg #[.int .i64 v.r, .int .i64 v.c, .int .i64 v.h, .int .i64 v.b, .int .i64 v.p]]) ∧ BrOwn w' w.heap.size a n c fa fn fc ra rn rc oa on oc B ∧ FewB B ∧ Below w.heap.size w w' := by
 generalize hwR : w.alloc (Obj.cells #[.int .i64 0, .string ⟨#[]⟩, .slice none 0 0, .slice none 0 0, .slice none 0 0, .slice none 0 0, .int .i64 0, .int .i64 0, .int .i64 0, .int .i64 0, .int .i64 0] 31) = wR
 have bR : Below w.heap.size w wR := by rw [← hwR]; exact below_one _ _
 have zR : w.heap.size < wR.heap.size := by rw [← hwR]; simp
 have kR : wR.heap[w.heap.size]? = some (.cells #[.int .i64 0, .string ⟨#[]⟩, .slice none 0 0, .slice none 0 0, .slice none 0 0, .slice none 0 0, .int .i64 0, .int .i64 0, .int .i64 0, .int .i64 0, .int .i64 0] 31) := by rw [← hwR]; exact block_last _ _
 have bb := bR
 generalize hwV : wR.alloc (Obj.cells #[.int .i64 0, .int .i64 0, .int .i64 0, .int .i64 0, .int .i64 0] 35) = wV
 have bV : Below wR.heap.size wR wV := by rw [← hwV]; exact below_one _ _
 have zV : wR.heap.size < wV.heap.size := by rw [← hwV]; simp
 have kV : wV.heap[wR.heap.size]? = some (.cells #[.int .i64 0, .int .i64 0, .int .i64 0, .int .i64 0, .int .i64 0] 35) := by rw [← hwV]; exact block_last _ _
 have kR := kept_block kR bV
 have bb := gr_trans bb bV
 go_enter Tryz.func7, Tryz.ntmps7
 go_wp2_with fail
 refine (new_any a0 l0 c0 z0 _ (h0.below bb) hs).mono ?_
 rintro e w2 ⟨rfl, hc, hb2⟩
 have hlt := hc.lt
 have kR := kept_block kR hb2
 have kV := kept_block kV hb2
 have bb := gr_trans bb hb2
 clear hb2 bR hwR bV hwV
 generalize hC0 : wV.heap.size = C0 at *
 go_wp2_with fail
 refine (l11Any_any C0 a0 l0 c0 z0 _ hc).mono ?_
 rintro e w3 ⟨a, n, c, fa, fn, fc, ra, rn, rc, oa, on, oc, B, rfl, own, few, wt⟩
 have hc3 := wt.cur
 have hlt3 := hc3.lt
 have hC2 := own.lt (base' := w2.heap.size) (Nat.le_refl _)
 have hsz2 := bb.size
 have kR := kept_grown kR wt.grown (fun i e => by cases e; omega)
 have kV := kept_grown kV wt.grown (fun i e => by cases e; omega)
 have bb := bb.trans (below_of_grown wt.grown (by omega) (by omega))
 clear wt
 go_wp2_with fail
 refine (pick_any C0 a0 l0 c0 z0 [0, 0, 1, 2, -1, 6] _ _ w3 hc3 rfl rfl (by simp) (by simp)).mono ?_
 rintro e w4 ⟨port, -, rfl, wt⟩
 have own := own.apart wt.grown (fun i e => by cases e; exact hlt)
 have hc4 := wt.cur
 have hlt4 := hc4.lt
 have kR := kept_grown kR wt.grown (fun i e => by cases e; omega)
 have kV := kept_grown kV wt.grown (fun i e => by cases e; omega)
 have bb := bb.trans (below_of_grown wt.grown (by omega) (by omega))
 clear wt
 go_wp2_with fail
 refine (l7Any_any C0 a0 l0 c0 z0 _ hc4).mono ?_
 rintro e w5 ⟨r1, r2, r3, r4, r5, rfl, wt⟩
 obtain ⟨v, hv⟩ : ∃ v : VD, v = ⟨r1, r2, r3, r4, r5⟩ := ⟨_, rfl⟩
 rw [show r1 = v.r by rw [hv], show r2 = v.c by rw [hv], show r3 = v.h by rw [hv], show r4 = v.b by rw [hv], show r5 = v.p by rw [hv]]
 clear hv
 have own := own.apart wt.grown (fun i e => by cases e; exact hlt)
 have kR := kept_grown kR wt.grown (fun i e => by cases e; omega)
 have kV := kept_grown kV wt.grown (fun i e => by cases e; omega)
 have bb := bb.trans (below_of_grown wt.grown (by omega) (by omega))
 have own := own.lt (base' := w.heap.size) hsz2
 obtain ⟨u0, u1, u2, u3, u4, u5, u6, u7, u8, u9, u10⟩ := cells11 kR
 have fr := frozen8 kR
 have fr0 := fr 0
 have fr1 := fr 1
 have fr2 := fr 2
 have fr3 := fr 3
 have fr4 := fr 4
 have fr5 := fr 5
 have fr6 := fr 6
 have fr7 := fr 7
 have fr8 := fr 8
 have fr9 := fr 9
 have fr10 := fr 10
 obtain ⟨⟨v0, v1, v2, v3, v4⟩, g0, g1, g2, g3, g4⟩ := cells5 kV
 have nRV : ¬ w.heap.size = wR.heap.size := by omega
 have nVR : ¬ wR.heap.size = w.heap.size := by omega
 have kV6 := kept_set11 kV nVR (.int .i64 B.id) (.string B.name) (.slice a n c) (.slice fa fn fc) (.slice ra rn rc) (.slice oa on oc) (.int .i64 B.ticks) (.int .i64 B.parse) (.int .i64 B.word) (.int .i64 B.drops) (.int .i64 B.vers)
 have HO := hide (own_set5 (own.boxed11 kR (.int .i64 B.id) (.string B.name) (.slice a n c) (.slice fa fn fc) (.slice ra rn rc) (.slice oa on oc) (.int .i64 B.ticks) (.int .i64 B.parse) (.int .i64 B.word) (.int .i64 B.drops) (.int .i64 B.vers)) kV6 (by decide) (by decide) (by decide) (by decide) (.int .i64 v.r) (.int .i64 v.c) (.int .i64 v.h) (.int .i64 v.b) (.int .i64 v.p))
 have HB := hide (below_set5 (below_set11 bb (Nat.le_refl _) (.int .i64 B.id) (.string B.name) (.slice a n c) (.slice fa fn fc) (.slice ra rn rc) (.slice oa on oc) (.int .i64 B.ticks) (.int .i64 B.parse) (.int .i64 B.word) (.int .i64 B.drops) (.int .i64 B.vers)) (g := wR.heap.size) (by omega) (.int .i64 v.r) (.int .i64 v.c) (.int .i64 v.h) (.int .i64 v.b) (.int .i64 v.p))
 have HF := hide few
 clear fr own bb kR kV kV6 few hC2 wt
 go_wp2
 exact bodyPost_ret (v := .tuple #[.agg #[.int .i64 B.id, .string B.name, .slice a n c, .slice fa fn fc, .slice ra rn rc, .slice oa on oc, .int .i64 B.ticks, .int .i64 B.parse, .int .i64 B.word, .int .i64 B.drops, .int .i64 B.vers], .int .i64 port, .agg #[.int .i64 v.r, .int .i64 v.c, .int .i64 v.h, .int .i64 v.b, .int .i64 v.p]]) (by simp [results, Tryz.results7, go_sem, *]) rfl ⟨a, n, c, fa, fn, fc, ra, rn, rc, oa, on, oc, B, port, v, rfl, HO.out, HF.out, HB.out⟩

set_option maxRecDepth 100000 in
set_option maxHeartbeats 8000000 in
theorem drawBridgeNew_any (a0 : Option Addr) (l0 c0 : Nat) (z0 : List Int) (w : World) (h0 : Row w a0 l0 c0 z0) (hs : l0 ≤ 1048576) :
  Calls Tryz.prog 21 #[.slice a0 l0 c0] w fun e w' => ∃ (id ports : Int), e = .returned (.tuple #[.int .i64 id, .int .i64 ports]) ∧ (id ∈ [1, 99, 0, 100] ∧ ports ∈ [1, 6, 0, 7]) ∧ Below w.heap.size w w' := by
 go_enter Tryz.func21, Tryz.ntmps21
 go_wp2_with fail
 refine (new_any a0 l0 c0 z0 _ h0 hs).mono ?_
 rintro e w2 ⟨rfl, hc, hb2⟩
 have hlt := hc.lt
 have bb := hb2
 clear hb2 
 go_wp2_with fail
 refine (pick_any w.heap.size a0 l0 c0 z0 [1, 99, 0, 100] _ _ w2 hc rfl rfl (by simp) (by simp)).mono ?_
 rintro e w3 ⟨id, hi, rfl, wt⟩
 have bb := bb.trans (below_of_grown wt.grown (Nat.le_refl _) (Nat.le_of_lt hlt))
 have hc3 := wt.cur
 have hlt3 := hc3.lt
 clear wt
 go_wp2_with fail
 refine (pick_any w.heap.size a0 l0 c0 z0 [1, 6, 0, 7] _ _ w3 hc3 rfl rfl (by simp) (by simp)).mono ?_
 rintro e w4 ⟨ports, hp, rfl, wt⟩
 have HB := hide (bb.trans (below_of_grown wt.grown (Nat.le_refl _) (Nat.le_of_lt hlt3)))
 have HI := hide hi
 have HP := hide hp
 clear bb wt hi hp
 go_wp2
 exact bodyPost_ret (v := .tuple #[.int .i64 id, .int .i64 ports]) (by simp [results, Tryz.results21, go_sem, *]) rfl ⟨id, ports, rfl, ⟨HI.out, HP.out⟩, HB.out⟩

theorem few_sizes {w : World} {a : Option Addr} {n c : Nat} {fa : Option Addr} {fn fc : Nat} {ra : Option Addr} {rn rc : Nat} {oa : Option Addr} {on oc : Nat} {B : BR} (h : FewB B) (r : BrRow w a n c fa fn fc ra rn rc oa on oc B) : n ≤ 1048576 ∧ fn ≤ 1048576 ∧ rn ≤ 1048576 ∧ on ≤ 1048576 := by
 obtain ⟨pp, hf, h6⟩ := h.v
 have e1 := r.ports.size
 have e2 := r.f.size
 have e3 := r.v.rows.size
 have e4 := r.v.own.size
 have d1 := h.pl
 have d2 := h.fl
 have d3 := hf.len
 have d4 := hf.own
 omega

set_option maxRecDepth 100000 in
set_option maxHeartbeats 8000000 in
theorem drawSame_any (a0 : Option Addr) (l0 c0 : Nat) (z0 : List Int) (w : World) (h0 : Row w a0 l0 c0 z0) (hs : l0 ≤ 1048576) :
  Calls Tryz.prog 20 #[.slice a0 l0 c0] w fun e w' => ∃ (a : Option Addr) (n c : Nat) (fa : Option Addr) (fn fc : Nat) (ra : Option Addr) (rn rc : Nat) (oa : Option Addr) (on oc : Nat) (B : BR) (a2 : Option Addr) (n2 c2 : Nat) (fa2 : Option Addr) (fn2 fc2 : Nat) (ra2 : Option Addr) (rn2 rc2 : Nat) (oa2 : Option Addr) (on2 oc2 : Nat) (B2 : BR), e = .returned (.tuple #[.agg #[.int .i64 B.id, .string B.name, .slice a n c, .slice fa fn fc, .slice ra rn rc, .slice oa on oc, .int .i64 B.ticks, .int .i64 B.parse, .int .i64 B.word, .int .i64 B.drops, .int .i64 B.vers], .agg #[.int .i64 B2.id, .string B2.name, .slice a2 n2 c2, .slice fa2 fn2 fc2, .slice ra2 rn2 rc2, .slice oa2 on2 oc2, .int .i64 B2.ticks, .int .i64 B2.parse, .int .i64 B2.word, .int .i64 B2.drops, .int .i64 B2.vers]]) ∧ BrOwn w' w.heap.size a n c fa fn fc ra rn rc oa on oc B ∧ BrOwn w' w.heap.size a2 n2 c2 fa2 fn2 fc2 ra2 rn2 rc2 oa2 on2 oc2 B2 ∧ FewB B ∧ (B2 = B ∨ B2 = tickB B) ∧ Below w.heap.size w w' := by
 generalize hwR : w.alloc (Obj.cells #[.int .i64 0, .string ⟨#[]⟩, .slice none 0 0, .slice none 0 0, .slice none 0 0, .slice none 0 0, .int .i64 0, .int .i64 0, .int .i64 0, .int .i64 0, .int .i64 0] 31) = wR
 have bR : Below w.heap.size w wR := by rw [← hwR]; exact below_one _ _
 have zR : w.heap.size < wR.heap.size := by rw [← hwR]; simp
 have kR : wR.heap[w.heap.size]? = some (.cells #[.int .i64 0, .string ⟨#[]⟩, .slice none 0 0, .slice none 0 0, .slice none 0 0, .slice none 0 0, .int .i64 0, .int .i64 0, .int .i64 0, .int .i64 0, .int .i64 0] 31) := by rw [← hwR]; exact block_last _ _
 have bb := bR
 generalize hwQ : wR.alloc (Obj.cells #[.int .i64 0, .string ⟨#[]⟩, .slice none 0 0, .slice none 0 0, .slice none 0 0, .slice none 0 0, .int .i64 0, .int .i64 0, .int .i64 0, .int .i64 0, .int .i64 0] 31) = wQ
 have bQ : Below wR.heap.size wR wQ := by rw [← hwQ]; exact below_one _ _
 have zQ : wR.heap.size < wQ.heap.size := by rw [← hwQ]; simp
 have kQ : wQ.heap[wR.heap.size]? = some (.cells #[.int .i64 0, .string ⟨#[]⟩, .slice none 0 0, .slice none 0 0, .slice none 0 0, .slice none 0 0, .int .i64 0, .int .i64 0, .int .i64 0, .int .i64 0, .int .i64 0] 31) := by rw [← hwQ]; exact block_last _ _
 have kR := kept_block kR bQ
 have bb := gr_trans bb bQ
 go_enter Tryz.func20, Tryz.ntmps20
 go_wp2_with fail
 refine (new_any a0 l0 c0 z0 _ (h0.below bb) hs).mono ?_
 rintro e w2 ⟨rfl, hc, hb2⟩
 have hlt := hc.lt
 have kR := kept_block kR hb2
 have kQ := kept_block kQ hb2
 have bb := gr_trans bb hb2
 clear hb2 bR hwR bQ hwQ
 generalize hC0 : wQ.heap.size = C0 at *
 go_wp2_with fail
 refine (l11Any_any C0 a0 l0 c0 z0 _ hc).mono ?_
 rintro e w3 ⟨a, n, c, fa, fn, fc, ra, rn, rc, oa, on, oc, B, rfl, own, few, wt⟩
 have hc3 := wt.cur
 have hlt3 := hc3.lt
 have hC2 := own.lt (base' := w2.heap.size) (Nat.le_refl _)
 have hsz2 := bb.size
 have kR := kept_grown kR wt.grown (fun i e => by cases e; omega)
 have kQ := kept_grown kQ wt.grown (fun i e => by cases e; omega)
 have bb := bb.trans (below_of_grown wt.grown (by omega) (by omega))
 have hsz23 := wt.grown.size
 clear wt
 generalize hwX : w3.alloc (Obj.cells #[.int .i64 B.id, .string B.name, .slice a n c, .slice fa fn fc, .slice ra rn rc, .slice oa on oc, .int .i64 B.ticks, .int .i64 B.parse, .int .i64 B.word, .int .i64 B.drops, .int .i64 B.vers] 31) = wX
 have bX : Below w3.heap.size w3 wX := by rw [← hwX]; exact below_one _ _
 have zX : w3.heap.size < wX.heap.size := by rw [← hwX]; simp
 have kX : wX.heap[w3.heap.size]? = some (.cells #[.int .i64 B.id, .string B.name, .slice a n c, .slice fa fn fc, .slice ra rn rc, .slice oa on oc, .int .i64 B.ticks, .int .i64 B.parse, .int .i64 B.word, .int .i64 B.drops, .int .i64 B.vers] 31) := by rw [← hwX]; exact block_last _ _
 have own := own.below bX
 have kR := kept_block kR bX
 have kQ := kept_block kQ bX
 have hcX := hc3.below bX
 have bb : Below w.heap.size w wX := gr_trans bb bX
 obtain ⟨hn1, hn2, hn3, hn4⟩ := few_sizes few own.row
 go_wp2_with fail
 clear hwX
 refine (once_any C0 a0 l0 c0 z0 2 _ hcX (by omega)).mono ?_
 rintro e w4 ⟨x, rfl, wt⟩
 have own := own.apart wt.grown (fun i e => by cases e; exact hlt)
 have kX := kept_grown kX wt.grown (fun i e => by cases e; omega)
 have kR := kept_grown kR wt.grown (fun i e => by cases e; omega)
 have kQ := kept_grown kQ wt.grown (fun i e => by cases e; omega)
 have bb := bb.trans (below_of_grown wt.grown (by omega) (by omega))
 have own := own.lt (base' := w.heap.size) hsz2
 have nXR : w3.heap.size ≠ w.heap.size := by omega
 have nXQ : w3.heap.size ≠ wR.heap.size := by omega
 have nQR : wR.heap.size ≠ w.heap.size := by omega
 have nRQ : w.heap.size ≠ wR.heap.size := by omega
 clear wt hcX
 cases x
 ·have own := own.below (gr_drew (Below.refl _ _))
  have kX := gr_drewK kX
  have kR := gr_drewK kR
  have kQ := gr_drewK kQ
  have bb := bb.drew
  have HS := hide (cells11 kX)
  go_wp2_with fail
  refine wp_region_held_drew (S := (fun W => (W.cell? ⟨w3.heap.size, 0, none⟩ = some (.int .i64 B.id) ∧ W.cell? ⟨w3.heap.size, 1, none⟩ = some (.string B.name) ∧ W.cell? ⟨w3.heap.size, 2, none⟩ = some (.slice a n c) ∧ W.cell? ⟨w3.heap.size, 3, none⟩ = some (.slice fa fn fc) ∧ W.cell? ⟨w3.heap.size, 4, none⟩ = some (.slice ra rn rc) ∧ W.cell? ⟨w3.heap.size, 5, none⟩ = some (.slice oa on oc) ∧ W.cell? ⟨w3.heap.size, 6, none⟩ = some (.int .i64 B.ticks) ∧ W.cell? ⟨w3.heap.size, 7, none⟩ = some (.int .i64 B.parse) ∧ W.cell? ⟨w3.heap.size, 8, none⟩ = some (.int .i64 B.word) ∧ W.cell? ⟨w3.heap.size, 9, none⟩ = some (.int .i64 B.drops) ∧ W.cell? ⟨w3.heap.size, 10, none⟩ = some (.int .i64 B.vers)))) (by kernel_rfl) (HS.out) (fun hHeld => ?_)
  refine kK 0 ⟨some 15, .load 31 (.tmp 5), 31, "l11_bridge.go:182", #[], none⟩ ?_
  refine kK 1 ⟨some 16, .load 31 (.tmp 5), 31, "l11_bridge.go:182", #[], none⟩ ?_
  refine tR [2] ?_
  refine AllReadyH.cons (o := ⟨some 17, .call ⟨.value (.func 25), #[.tmp 16], #[31]⟩, 31, "l11_bridge.go:182", #[⟨1, .data⟩], none⟩) rfl (fun K hK => ?_) ?_
  ·go_simp
   refine (specTick_made a n c fa fn fc ra rn rc oa on oc B _ own.row hn1 hn2 hn3 hn4 few.fr).mono ?_
   rintro e w5 ⟨a2, n2, c2, fa2, fn2, fc2, ra2, rn2, rc2, oa2, on2, oc2, rfl, own2, hb5⟩
   obtain ⟨B2, hB2⟩ : ∃ y, y = tickB B := ⟨_, rfl⟩
   rw [← hB2] at own2
   have own := own.below hb5
   have kX := kept_block kX hb5
   have kR := kept_block kR hb5
   have kQ := kept_block kQ hb5
   have own2 := own2.lt (base' := w.heap.size) bb.size
   have bb := gr_trans bb hb5
   have HS := hide (cells11 kX)
   clear hb5
   go_wp2_with fail
   refine hK.out _ _ (HS.out) (fun hHeld => ?_)
   clear hK K
   try simp only [Act.put, lA, lB, lC]
   refine tR [3] ?_
   refine AllReadyH.cons (o := ⟨none, .store 31 (.tmp 2) (.tmp 15), 0, "l11_bridge.go:182", #[⟨0, .data⟩, ⟨2, .chain⟩, ⟨0, .phase⟩, { on := 1, ground := Ground.textOnly Departure.lateStores }, { on := 2, ground := Ground.textOnly Departure.lateStoresUnsure }], none⟩) rfl (fun K hK => ?_) ?_
   ·obtain ⟨u0, u1, u2, u3, u4, u5, u6, u7, u8, u9, u10⟩ := cells11 kR
    have fr := frozen8 kR
    have fr0 := fr 0
    have fr1 := fr 1
    have fr2 := fr 2
    have fr3 := fr 3
    have fr4 := fr 4
    have fr5 := fr 5
    have fr6 := fr 6
    have fr7 := fr 7
    have fr8 := fr 8
    have fr9 := fr 9
    have fr10 := fr 10
    go_simp
    clear u0 u1 u2 u3 u4 u5 u6 u7 u8 u9 u10 fr0 fr1 fr2 fr3 fr4 fr5 fr6 fr7 fr8 fr9 fr10 fr
    refine made_set11 (K := K _) kR _ _ _ _ _ _ _ _ _ _ _ (fun wq kN hg => ?_)
    have own := own.grownBox kR hg
    have own2 := own2.grownBox kR hg
    have kX := kept_grown kX hg (fun i e => by cases e; exact nXR.symm)
    have kQ := kept_grown kQ hg (fun i e => by cases e; exact nQR.symm)
    have bb := bb.grown hg bb.size (fun i e => by cases e; exact Nat.le_refl _)
    have kR := kN
    clear kN hg
    have HS := hide (cells11 kX)
    refine hK.out _ _ (HS.out) (fun hHeld => ?_)
    clear hK K
    try simp only [Act.put, lA, lB, lC]
    refine tR [4] ?_
    refine AllReadyH.cons (o := ⟨none, .store 31 (.tmp 3) (.tmp 17), 0, "l11_bridge.go:182", #[⟨2, .data⟩, ⟨3, .chain⟩, ⟨0, .phase⟩, ⟨1, .phase⟩, ⟨2, .phase⟩, ⟨3, .phase⟩], none⟩) rfl (fun K hK => ?_) ?_
    ·obtain ⟨u0, u1, u2, u3, u4, u5, u6, u7, u8, u9, u10⟩ := cells11 kQ
     have fr := frozen8 kQ
     have fr0 := fr 0
     have fr1 := fr 1
     have fr2 := fr 2
     have fr3 := fr 3
     have fr4 := fr 4
     have fr5 := fr 5
     have fr6 := fr 6
     have fr7 := fr 7
     have fr8 := fr 8
     have fr9 := fr 9
     have fr10 := fr 10
     go_simp
     clear u0 u1 u2 u3 u4 u5 u6 u7 u8 u9 u10 fr0 fr1 fr2 fr3 fr4 fr5 fr6 fr7 fr8 fr9 fr10 fr
     refine made_set11 (K := K _) kQ _ _ _ _ _ _ _ _ _ _ _ (fun wq kN hg => ?_)
     have own := own.grownBox kQ hg
     have own2 := own2.grownBox kQ hg
     have kX := kept_grown kX hg (fun i e => by cases e; exact nXQ.symm)
     have kR := kept_grown kR hg (fun i e => by cases e; exact nRQ.symm)
     have bb := bb.grown hg bb.size (fun i e => by cases e; omega)
     have kQ := kN
     clear kN hg
     have HS := hide (cells11 kX)
     refine hK.out _ _ (HS.out) (fun hHeld => ?_)
     clear hK K
     try simp only [Act.put, lA, lB, lC]
     refine wpAnyH_done (by kernel_rfl) ?_ _
     have HO := hide own
     have HO2 := hide own2
     have HB := hide bb
     have HF := hide few
     have HB2 := hide hB2
     obtain ⟨u0, u1, u2, u3, u4, u5, u6, u7, u8, u9, u10⟩ := cells11 kR
     obtain ⟨q0, q1, q2, q3, q4, q5, q6, q7, q8, q9, q10⟩ := cells11 kQ
     clear HS hHeld own own2 bb kR kQ kX few hB2
     go_wp2
     exact bodyPost_ret (v := .tuple #[.agg #[.int .i64 B.id, .string B.name, .slice a n c, .slice fa fn fc, .slice ra rn rc, .slice oa on oc, .int .i64 B.ticks, .int .i64 B.parse, .int .i64 B.word, .int .i64 B.drops, .int .i64 B.vers], .agg #[.int .i64 (tickB B).id, .string (tickB B).name, .slice a2 n2 c2, .slice fa2 fn2 fc2, .slice ra2 rn2 rc2, .slice oa2 on2 oc2, .int .i64 (tickB B).ticks, .int .i64 (tickB B).parse, .int .i64 (tickB B).word, .int .i64 (tickB B).drops, .int .i64 (tickB B).vers]]) (by simp [results, Tryz.results20, go_sem, *]) rfl ⟨a, n, c, fa, fn, fc, ra, rn, rc, oa, on, oc, B, a2, n2, c2, fa2, fn2, fc2, ra2, rn2, rc2, oa2, on2, oc2, B2, (by rw [HB2.out]), HO.out, HO2.out, HF.out, Or.inr HB2.out, HB.out⟩
    exact AllReadyH.nil
   exact AllReadyH.nil
  exact AllReadyH.nil
 ·have own := own.below (gr_drew (Below.refl _ _))
  have kX := gr_drewK kX
  have kR := gr_drewK kR
  have kQ := gr_drewK kQ
  have bb := bb.drew
  have HS := hide (cells11 kX)
  go_wp2_with fail
  refine wp_region_held_drew (S := (fun W => (W.cell? ⟨w3.heap.size, 0, none⟩ = some (.int .i64 B.id) ∧ W.cell? ⟨w3.heap.size, 1, none⟩ = some (.string B.name) ∧ W.cell? ⟨w3.heap.size, 2, none⟩ = some (.slice a n c) ∧ W.cell? ⟨w3.heap.size, 3, none⟩ = some (.slice fa fn fc) ∧ W.cell? ⟨w3.heap.size, 4, none⟩ = some (.slice ra rn rc) ∧ W.cell? ⟨w3.heap.size, 5, none⟩ = some (.slice oa on oc) ∧ W.cell? ⟨w3.heap.size, 6, none⟩ = some (.int .i64 B.ticks) ∧ W.cell? ⟨w3.heap.size, 7, none⟩ = some (.int .i64 B.parse) ∧ W.cell? ⟨w3.heap.size, 8, none⟩ = some (.int .i64 B.word) ∧ W.cell? ⟨w3.heap.size, 9, none⟩ = some (.int .i64 B.drops) ∧ W.cell? ⟨w3.heap.size, 10, none⟩ = some (.int .i64 B.vers)))) (by kernel_rfl) (HS.out) (fun hHeld => ?_)
  refine kK 0 ⟨some 12, .load 31 (.tmp 5), 31, "l11_bridge.go:180", #[], none⟩ ?_
  refine kK 1 ⟨some 13, .load 31 (.tmp 5), 31, "l11_bridge.go:180", #[], none⟩ ?_
  refine tR [2] ?_
  refine AllReadyH.cons (o := ⟨some 14, .call ⟨.value (.func 57), #[.tmp 13], #[31]⟩, 31, "l11_bridge.go:180", #[⟨1, .data⟩], none⟩) rfl (fun K hK => ?_) ?_
  ·go_simp
   refine (specCopyB_made a n c fa fn fc ra rn rc oa on oc B _ own.row (by omega) (by omega) (by omega) (by omega)).mono ?_
   rintro e w5 ⟨a2, c2, fa2, fc2, ra2, rc2, oa2, oc2, rfl, own2, hb5⟩
   obtain ⟨B2, hB2⟩ : ∃ y, y = B := ⟨_, rfl⟩
   rw [← hB2] at own2
   have own := own.below hb5
   have kX := kept_block kX hb5
   have kR := kept_block kR hb5
   have kQ := kept_block kQ hb5
   have own2 := own2.lt (base' := w.heap.size) bb.size
   have bb := gr_trans bb hb5
   have HS := hide (cells11 kX)
   clear hb5
   go_wp2_with fail
   refine hK.out _ _ (HS.out) (fun hHeld => ?_)
   clear hK K
   try simp only [Act.put, lA, lB, lC]
   refine tR [3] ?_
   refine AllReadyH.cons (o := ⟨none, .store 31 (.tmp 2) (.tmp 12), 0, "l11_bridge.go:180", #[⟨0, .data⟩, ⟨2, .chain⟩, ⟨0, .phase⟩, { on := 1, ground := Ground.textOnly Departure.lateStores }, { on := 2, ground := Ground.textOnly Departure.lateStoresUnsure }], none⟩) rfl (fun K hK => ?_) ?_
   ·obtain ⟨u0, u1, u2, u3, u4, u5, u6, u7, u8, u9, u10⟩ := cells11 kR
    have fr := frozen8 kR
    have fr0 := fr 0
    have fr1 := fr 1
    have fr2 := fr 2
    have fr3 := fr 3
    have fr4 := fr 4
    have fr5 := fr 5
    have fr6 := fr 6
    have fr7 := fr 7
    have fr8 := fr 8
    have fr9 := fr 9
    have fr10 := fr 10
    go_simp
    clear u0 u1 u2 u3 u4 u5 u6 u7 u8 u9 u10 fr0 fr1 fr2 fr3 fr4 fr5 fr6 fr7 fr8 fr9 fr10 fr
    refine made_set11 (K := K _) kR _ _ _ _ _ _ _ _ _ _ _ (fun wq kN hg => ?_)
    have own := own.grownBox kR hg
    have own2 := own2.grownBox kR hg
    have kX := kept_grown kX hg (fun i e => by cases e; exact nXR.symm)
    have kQ := kept_grown kQ hg (fun i e => by cases e; exact nQR.symm)
    have bb := bb.grown hg bb.size (fun i e => by cases e; exact Nat.le_refl _)
    have kR := kN
    clear kN hg
    have HS := hide (cells11 kX)
    refine hK.out _ _ (HS.out) (fun hHeld => ?_)
    clear hK K
    try simp only [Act.put, lA, lB, lC]
    refine tR [4] ?_
    refine AllReadyH.cons (o := ⟨none, .store 31 (.tmp 3) (.tmp 14), 0, "l11_bridge.go:180", #[⟨2, .data⟩, ⟨3, .chain⟩, ⟨0, .phase⟩, ⟨1, .phase⟩, ⟨2, .phase⟩, ⟨3, .phase⟩], none⟩) rfl (fun K hK => ?_) ?_
    ·obtain ⟨u0, u1, u2, u3, u4, u5, u6, u7, u8, u9, u10⟩ := cells11 kQ
     have fr := frozen8 kQ
     have fr0 := fr 0
     have fr1 := fr 1
     have fr2 := fr 2
     have fr3 := fr 3
     have fr4 := fr 4
     have fr5 := fr 5
     have fr6 := fr 6
     have fr7 := fr 7
     have fr8 := fr 8
     have fr9 := fr 9
     have fr10 := fr 10
     go_simp
     clear u0 u1 u2 u3 u4 u5 u6 u7 u8 u9 u10 fr0 fr1 fr2 fr3 fr4 fr5 fr6 fr7 fr8 fr9 fr10 fr
     refine made_set11 (K := K _) kQ _ _ _ _ _ _ _ _ _ _ _ (fun wq kN hg => ?_)
     have own := own.grownBox kQ hg
     have own2 := own2.grownBox kQ hg
     have kX := kept_grown kX hg (fun i e => by cases e; exact nXQ.symm)
     have kR := kept_grown kR hg (fun i e => by cases e; exact nRQ.symm)
     have bb := bb.grown hg bb.size (fun i e => by cases e; omega)
     have kQ := kN
     clear kN hg
     have HS := hide (cells11 kX)
     refine hK.out _ _ (HS.out) (fun hHeld => ?_)
     clear hK K
     try simp only [Act.put, lA, lB, lC]
     refine wpAnyH_done (by kernel_rfl) ?_ _
     have HO := hide own
     have HO2 := hide own2
     have HB := hide bb
     have HF := hide few
     have HB2 := hide hB2
     obtain ⟨u0, u1, u2, u3, u4, u5, u6, u7, u8, u9, u10⟩ := cells11 kR
     obtain ⟨q0, q1, q2, q3, q4, q5, q6, q7, q8, q9, q10⟩ := cells11 kQ
     clear HS hHeld own own2 bb kR kQ kX few hB2
     go_wp2
     exact bodyPost_ret (v := .tuple #[.agg #[.int .i64 B.id, .string B.name, .slice a n c, .slice fa fn fc, .slice ra rn rc, .slice oa on oc, .int .i64 B.ticks, .int .i64 B.parse, .int .i64 B.word, .int .i64 B.drops, .int .i64 B.vers], .agg #[.int .i64 B.id, .string B.name, .slice a2 n c2, .slice fa2 fn fc2, .slice ra2 rn rc2, .slice oa2 on oc2, .int .i64 B.ticks, .int .i64 B.parse, .int .i64 B.word, .int .i64 B.drops, .int .i64 B.vers]]) (by simp [results, Tryz.results20, go_sem, *]) rfl ⟨a, n, c, fa, fn, fc, ra, rn, rc, oa, on, oc, B, a2, n, c2, fa2, fn, fc2, ra2, rn, rc2, oa2, on, oc2, B2, (by rw [HB2.out]), HO.out, HO2.out, HF.out, Or.inl HB2.out, HB.out⟩
    exact AllReadyH.nil
   exact AllReadyH.nil
  exact AllReadyH.nil

theorem wpList_range_fe (w : World) {ops : Array Oper} {rest : List Oper} {o : Oper} {a : Act} {Q : Exit → Act → World → Prop} (hg : o.guard = none) (m : Operand) (hop : o.op = Op.range 117 m) (b n : Nat) (g : FK → Option FE)
  (hm : a.eval m = .map (some b)) (h : MapIs mE w b n g)
  (hK : ∀ w' cnt, Ranging mE w' b w.heap.size n g (fun k => (g k).isSome) cnt → Below w.heap.size w w' → w'.heap.size = w.heap.size + 1 → wpList Tryz.prog ops Q rest (a.put o.dst (.pointer (some ⟨w.heap.size, 0, none⟩))) w') :
  wpList Tryz.prog ops Q (o :: rest) a w := by
 refine wpList_plain hg fun K' hK' => ?_
 obtain ⟨w', cnt, hrun, r1, r2, r3⟩ := h.range
 have hrun : (Instr.range 117 (.map (some b))).run Tryz.prog w = .ok (.pointer (some ⟨w.heap.size, 0, none⟩)) w' := hrun
 unfold Oper.wp
 simp [execOp, hop, hm, hrun, Result.andThen]
 exact hK' _ _ (hK w' cnt r1 r2 r3)

structure NxS where
 y : FK
 v : FE
 w : World
 cnt : Nat

structure NxOk (w : World) (b r n : Nat) (g : FK → Option FE) (left : FK → Bool) (cnt : Nat) (s : NxS) : Prop where
 ok : FKok s.y
 lf : left s.y = true
 gt : g s.y = some s.v
 rg : Ranging mE s.w b r n g (upd left s.y false) s.cnt
 lt : s.cnt < cnt
 gr : w.grownBy s.w (some r)
 en : (Instr.entry (.pointer (some ⟨r, 0, none⟩))).run Tryz.prog s.w = .ok (.tuple #[.agg #[.int .i64 s.y.1, .int .i64 s.y.2.1, .int .i64 s.y.2.2], .agg #[.int .i64 s.v.t, .int .i64 s.v.m, .int .i64 s.v.p, .int .i64 s.v.a, .bool s.v.s]]) s.w

def noneLeft (left : FK → Bool) : Prop := ∀ k, left k = false

theorem wpList_next_fe (w : World) {ops : Array Oper} {rest : List Oper} {o : Oper} {a : Act} {Q : Exit → Act → World → Prop} (hg : o.guard = none) (it : Operand) (hop : o.op = Op.next it false) (b r n : Nat) (g : FK → Option FE) (left : FK → Bool) (cnt : Nat)
  (hit : a.eval it = .pointer (some ⟨r, 0, none⟩)) (h : Ranging mE w b r n g left cnt)
  (hDone : noneLeft left → wpList Tryz.prog ops Q rest (a.put o.dst (.tuple #[.bool false])) w)
  (hMore : ∀ s : NxS, NxOk w b r n g left cnt s →
   wpList Tryz.prog ops Q rest (a.put o.dst (.tuple #[.bool true, .agg #[.int .i64 s.y.1, .int .i64 s.y.2.1, .int .i64 s.y.2.2], .agg #[.int .i64 s.v.t, .int .i64 s.v.m, .int .i64 s.v.p, .int .i64 s.v.a, .bool s.v.s]])) s.w) :
  wpList Tryz.prog ops Q (o :: rest) a w := by
 refine wpList_plain hg fun K' hK' => ?_
 unfold Oper.wp
 rcases h.next o.type with ⟨_, hl, hrun⟩ | ⟨y, v, w', cnt', h1, h2, h3, hrun, h4, h5, h6, h7, h8⟩
 ·simp [execOp, hop, hit, hrun, Result.andThen]
  exact hK' _ _ (hDone hl)
 ·simp [execOp, hop, hit, hrun, Result.andThen]
  exact hK' _ _ (hMore ⟨y, v, w', cnt'⟩ ⟨h1, h2, h3, h4, h5, h6, h8⟩)

def midF (f : FE → Option FE) (g : FK → Option FE) (left : FK → Bool) : FK → Option FE := fun k => if left k = true then g k else (g k).bind f

theorem mid_start (f : FE → Option FE) (g : FK → Option FE) : midF f g (fun k => (g k).isSome) = g := by
 funext k
 unfold midF
 cases h : g k <;> simp [h]

theorem mid_end (f : FE → Option FE) (g : FK → Option FE) {left : FK → Bool} (h : ∀ k, left k = false) : midF f g left = fun k => (g k).bind f := by
 funext k
 unfold midF
 rw [h k]
 rfl

theorem mid_at {f : FE → Option FE} {g : FK → Option FE} {left : FK → Bool} {y : FK} {v : FE} (h : left y = true) (hv : midF f g left y = some v) : g y = some v := by
 unfold midF at hv
 rw [if_pos h] at hv
 exact hv

theorem mid_next {f : FE → Option FE} {g : FK → Option FE} {left : FK → Bool} {y : FK} {v : FE} (h : left y = true) (hv : midF f g left y = some v) : upd (midF f g left) y (f v) = midF f g (upd left y false) := by
 have hg := mid_at h hv
 funext k
 by_cases e : k = y
 ·subst e
  rw [upd_same]
  unfold midF
  rw [upd_same, hg]
  rfl
 ·rw [upd_other _ _ e]
  unfold midF
  rw [upd_other left _ e]

theorem ents_mem {l : List FE} {k : FK} {e : FE} (h : entsOf l k = some e) : e ∈ l := by
 by_cases hk : k ∈ keysOf l
 ·obtain ⟨i, hi⟩ := List.getElem?_of_mem hk
  obtain ⟨e', he', hk'⟩ := keys_at hi
  rw [h] at hk'
  cases hk'
  exact List.mem_of_getElem? he'
 ·rw [ents_none l hk] at h
  cases h

end Go.Proofs.YtfknffdlmcckkaaGreat
