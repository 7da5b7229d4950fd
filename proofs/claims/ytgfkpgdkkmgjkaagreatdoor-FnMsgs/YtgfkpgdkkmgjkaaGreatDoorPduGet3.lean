/-
  The program's reader of one bind, by contracts.
-/
import Derived.Test.YtgfkpgdkkmgjkaaGreatDoorPduGet2
namespace Go.Proofs.YtgfkpgdkkmgjkaaGreatDoor
open Go.RowKit

theorem getB_some {b : List Int} {x : BD} (h : getB b = some x) : ∃ ob nx, getTlv b 0 = (6, ob, nx, true) ∧ getO ob = some x.o ∧ getV b nx = (x.K, x.N, x.S, x.z, (b.length : Int), true) := by
  unfold getB at h
  split at h
  · rename_i ob nx hp
    split at h
    · rename_i o K N S z e ho hv
      split at h
      · rename_i he
        simp only [Option.some.injEq] at h
        subst h
        subst he
        exact ⟨ob, nx, part_some hp, ho, hv⟩
      · cases h
    · cases h
  · cases h

theorem getB_none {b : List Int} (h : getB b = none) : (partM b 0 6 = none ∨ ∃ ob nx, getTlv b 0 = (6, ob, nx, true) ∧ getO ob = none) ∨ ∃ ob nx o K N S z e ok, getTlv b 0 = (6, ob, nx, true) ∧ getO ob = some o ∧ getV b nx = (K, N, S, z, e, ok) ∧ (ok = false ∨ ¬ e = b.length) := by
  unfold getB at h
  split at h
  · rename_i ob nx hp
    have hT := part_some hp
    cases ho : getO ob with
    | none => exact .inl (.inr ⟨ob, nx, hT, ho⟩)
    | some o =>
      rcases hv : getV b nx with ⟨K, N, S, z, e, ok⟩
      rw [ho, hv] at h
      refine .inr ⟨ob, nx, o, K, N, S, z, e, ok, hT, ho, hv, ?_⟩
      cases ok
      · exact .inl rfl
      · refine .inr ?_
        intro he
        simp [he] at h
  · exact .inl (.inl (by assumption))

theorem getV_fits {b : List Int} (hb : Byt b) {t K N : Int} {S : ByteArray} {z : List Int} {e : Int} (h : getV b t = (K, N, S, z, e, true)) : S.size ≤ maxLen ∧ ∃ q : Nat, e = q ∧ q ≤ b.length := by
  obtain ⟨hok, p, q, -, hq, -, hql, -, -⟩ := val_read hb h
  refine ⟨?_, q, hq, hql⟩
  unfold maxLen
  rcases okV_ways hok with ⟨-, -, hS, -⟩ | ⟨-, -, hS, -⟩ | ⟨-, hl, -, -⟩ | ⟨-, -, -, hS⟩
  · rw [hS]; exact Nat.zero_le _
  · rw [hS]; exact Nat.zero_le _
  · omega
  · rw [hS]; exact Nat.zero_le _

theorem set41_block {w : World} {b : Nat} {c0 c1 c2 c3 c4 d1 d2 d3 d4 : Value} {t : TypeId} (h : w.heap[b]? = some (.cells #[c0, c1, c2, c3, c4] t)) : ((((w.setCell ⟨b, 1, none⟩ d1).setCell ⟨b, 2, none⟩ d2).setCell ⟨b, 3, none⟩ d3).setCell ⟨b, 4, none⟩ d4).heap[b]? = some (.cells #[c0, d1, d2, d3, d4] t) := by
  have h1 := heap_setCell_same w b 1 _ t d1 h
  have h2 := heap_setCell_same _ b 2 _ t d2 h1
  have h3 := heap_setCell_same _ b 3 _ t d3 h2
  have h4 := heap_setCell_same _ b 4 _ t d4 h3
  simpa using h4

theorem rdr_new (w : World) (ao : Option Addr) (n c : Nat) (zs : List Int) (hr : Row w ao n c zs) (hs : n ≤ 1048576) (o : Obj) : Rdr ((w.alloc o).alloc (.cells #[.slice ao n c, .int .i64 0] 161)) (w.heap.size + 1) ao n c zs 0 :=
  ⟨by have := block_last (w.alloc o) (.cells #[.slice ao n c, .int .i64 0] 161); simpa using this, hr.below (below_two _ _ _), hs⟩

theorem belowGr {a b c : World} {rb : Nat} (h : Below a.heap.size a b) (hg : b.grownBy c (some rb)) (hr : a.heap.size ≤ rb) : Below a.heap.size a c := h.grown hg h.size (by intro k hk; cases hk; exact hr)

set_option maxRecDepth 100000 in
set_option maxHeartbeats 2000000 in
theorem readBind_yes (ao : Option Addr) (n c : Nat) (zs : List Int) (x : BD) (hx : getB zs = some x) (w : World) (hr : Row w ao n c zs) (hs : n ≤ 1048576) :
    Calls Tryz.prog 127 #[.slice ao n c] w fun e w' => ∃ y : BI, e = .returned (.agg #[.slice y.oa y.on y.oc, .int .i64 y.K, .int .i64 y.N, .string y.S, .slice y.za y.zn y.zc]) ∧ y.d = x ∧ BNew w' w.heap.size y ∧ Below w.heap.size w w' := by
  obtain ⟨ob, nx, hT, ho, hv⟩ := getB_some hx
  have hzl := hr.size
  have hfit := getV_fits hr.byte hv
  obtain ⟨o, K, N, S, z⟩ := x
  simp only at ho hv hfit
  rw [hzl] at hv
  have HT := hide hT
  have HO := hide ho
  have HV := hide hv
  have hR := rdr_new w ao n c zs hr hs (.cells #[.slice none 0 0, .int .i64 0, .int .i64 0, .string ⟨#[]⟩, .slice none 0 0] 84)
  have q0 := below_two w (.cells #[.slice none 0 0, .int .i64 0, .int .i64 0, .string ⟨#[]⟩, .slice none 0 0] 84) (.cells #[.slice ao n c, .int .i64 0] 161)
  have hkz : ((w.alloc (.cells #[.slice none 0 0, .int .i64 0, .int .i64 0, .string ⟨#[]⟩, .slice none 0 0] 84)).alloc (.cells #[.slice ao n c, .int .i64 0] 161)).heap[w.heap.size]? = some (.cells #[.slice none 0 0, .int .i64 0, .int .i64 0, .string ⟨#[]⟩, .slice none 0 0] 84) := kept_block (block_last w _) (below_one _ _)
  have HKZ := hide hkz
  clear hx hT ho hv hkz hzl
  go_enter Tryz.func127, Tryz.ntmps127
  go_wp2_with fail
  generalize hwb : ((w.alloc (.cells #[.slice none 0 0, .int .i64 0, .int .i64 0, .string ⟨#[]⟩, .slice none 0 0] 84)).alloc (.cells #[.slice ao n c, .int .i64 0] 161)) = wb at *
  have hwbs : wb.heap.size = w.heap.size + 2 := by rw [← hwb]; simp
  have HWBS := hide hwbs
  clear hwb hwbs
  refine (name_yes (w.heap.size + 1) ao n c zs 0 ob nx o HT.out HO.out _ hR).mono ?_
  rintro e w1 ⟨ao1, cp1, rfl, o1, b1, h1, g1⟩
  have hn1 := g1.size
  have kz1 := kept_grown HKZ.out g1 (fun k hk => by cases hk; omega)
  have u1 := belowGr q0 g1 (by omega)
  have q1 := below_one w1 (.cells #[.slice ao1 o.length cp1, .int .i64 0, .int .i64 0, .string ⟨#[]⟩, .slice none 0 0] 84)
  have h1' := h1.below q1
  have kx1 := block_last w1 (.cells #[.slice ao1 o.length cp1, .int .i64 0, .int .i64 0, .string ⟨#[]⟩, .slice none 0 0] 84)
  have kz1' := kept_block kz1 q1
  have o1' := own_below o1 q1
  have u1' := u1.trans (q1.mono u1.size)
  have KX := hide kx1
  have KZ := hide kz1'
  have O1 := hide o1'
  have U1 := hide u1'
  have L1 := hide (fun k hk => (o1.lt k hk).2)
  have hs1 : (w1.alloc (.cells #[.slice ao1 o.length cp1, .int .i64 0, .int .i64 0, .string ⟨#[]⟩, .slice none 0 0] 84)).heap.size = w1.heap.size + 1 := by simp
  have HS1 := hide hs1
  clear hR g1 kz1 u1 q1 h1 kx1 kz1' o1 o1' u1' HKZ hs1
  go_wp2_with fail
  generalize (w1.alloc (.cells #[.slice ao1 o.length cp1, .int .i64 0, .int .i64 0, .string ⟨#[]⟩, .slice none 0 0] 84)) = w1a at *
  refine (value_yes (w.heap.size + 1) ao n c zs nx K N S z _ HV.out _ h1').mono ?_
  rintro e w2 ⟨ao2, cp2, rfl, o2, b2, h2, g2⟩
  have hwb2 := HWBS.out
  have hs12 := HS1.out
  have kx2 := kept_grown KX.out g2 (fun k hk => by cases hk; omega)
  have kz2 := kept_grown KZ.out g2 (fun k hk => by cases hk; omega)
  have u2 := belowGr U1.out g2 (by omega)
  have o12 := (Only.of_grown (ao := some ⟨w.heap.size + 1, 0, none⟩) (n := 0) (c := 0) g2).own O1.out (fun k hk hc => by have h1 := (O1.out.lt k hk).1; simp [blkL] at hc; omega)
  have hnd := blks_new (x := ⟨ao1, o.length, cp1, o, K, N, S, ao2, z.length, cp2, z⟩) O1.out o2 (Nat.le_refl _)
  obtain ⟨⟨i0, i1, i2, i3, i4⟩, j0, j1, j2, j3, j4⟩ := cells5 kx2
  obtain ⟨⟨d0, d1, d2, d3, d4⟩, e0, e1, e2, e3, e4⟩ := cells5 kz2
  have m1 : ¬ w1.heap.size = w.heap.size := by omega
  have m2 : ¬ w.heap.size = w1.heap.size := by omega
  have m3 : ¬ w1.heap.size = w.heap.size + 1 := by omega
  have m4 : w.heap.size + 2 ≤ w1.heap.size := by omega
  have KX2 := hide kx2
  have KZ2 := hide kz2
  have U2 := hide u2
  have O12 := hide (own_lt o12 (base' := w.heap.size + 2) (by omega))
  have O2 := hide (own_lt o2 (base' := w1.heap.size + 1) (by omega))
  have H2 := hide h2
  have HND := hide hnd
  clear hwb2 hs12 HWBS HS1 KX KZ U1 O1 g2 kx2 kz2 u2 o12 o2 h2 h1' hnd
  generalize hnb : w1.heap.size = nb at *
  clear hnb
  have U3 := hide (below_set (below_set (below_set (below_set U2.out (show w.heap.size ≤ nb by omega) 1 (.int .i64 K)) (show w.heap.size ≤ nb by omega) 2 (.int .i64 N)) (show w.heap.size ≤ nb by omega) 3 (.string S)) (show w.heap.size ≤ nb by omega) 4 (.slice ao2 z.length cp2))
  have m5 : w.heap.size + 1 ≠ nb := by omega
  have m6 : w.heap.size ≠ nb := by omega
  have H3 : Hid (Rdr ((((w2.setCell ⟨nb, 1, none⟩ (.int .i64 K)).setCell ⟨nb, 2, none⟩ (.int .i64 N)).setCell ⟨nb, 3, none⟩ (.string S)).setCell ⟨nb, 4, none⟩ (.slice ao2 z.length cp2)) (w.heap.size + 1) ao n c zs n) := hide ⟨kept_set (kept_set (kept_set (kept_set H2.out.box m5) m5) m5) m5, hr.below U3.out, hs⟩
  have KX3 := hide (set41_block (d1 := .int .i64 K) (d2 := .int .i64 N) (d3 := .string S) (d4 := .slice ao2 z.length cp2) KX2.out)
  have KZ3 : Hid (((((w2.setCell ⟨nb, 1, none⟩ (.int .i64 K)).setCell ⟨nb, 2, none⟩ (.int .i64 N)).setCell ⟨nb, 3, none⟩ (.string S)).setCell ⟨nb, 4, none⟩ (.slice ao2 z.length cp2)).heap[w.heap.size]? = _) := hide (kept_set (kept_set (kept_set (kept_set KZ2.out m6) m6) m6) m6)
  have O13 := hide ((((((Only.set w2 nb 1 (.int .i64 K)).trans (Only.set _ nb 2 (.int .i64 N))).trans (Only.set _ nb 3 (.string S))).trans (Only.set _ nb 4 (.slice ao2 z.length cp2)))).own O12.out (fun k hk hc => by have := L1.out k hk; simp only [List.mem_singleton] at hc; omega))
  have O23 : Hid (((((w2.setCell ⟨nb, 1, none⟩ (.int .i64 K)).setCell ⟨nb, 2, none⟩ (.int .i64 N)).setCell ⟨nb, 3, none⟩ (.string S)).setCell ⟨nb, 4, none⟩ (.slice ao2 z.length cp2)).ownsRow (nb + 1) 3 1 (.slice ao2 z.length cp2) z.length (cI z)) := hide (own_set (own_set (own_set (own_set O2.out (by omega)) (by omega)) (by omega)) (by omega))
  clear m5 m6 H2 KX2 KZ2 U2 O12 O2 L1
  go_wp2_with fail
  generalize ((((w2.setCell ⟨nb, 1, none⟩ (.int .i64 K)).setCell ⟨nb, 2, none⟩ (.int .i64 N)).setCell ⟨nb, 3, none⟩ (.string S)).setCell ⟨nb, 4, none⟩ (.slice ao2 z.length cp2)) = w3 at *
  clear i0 i1 i2 i3 i4 j0 j1 j2 j3 j4 d0 d1 d2 d3 d4 e0 e1 e2 e3 e4
  refine (more_any (w.heap.size + 1) ao n c zs n _ H3.out).mono ?_
  rintro e w4 ⟨rfl, hb4⟩
  rw [decide_eq_false (by omega)]
  obtain ⟨⟨i0, i1, i2, i3, i4⟩, j0, j1, j2, j3, j4⟩ := cells5 (kept_block KX3.out hb4)
  obtain ⟨⟨d0, d1, d2, d3, d4⟩, e0, e1, e2, e3, e4⟩ := cells5 (kept_block KZ3.out hb4)
  have U4 := hide (U3.out.trans (hb4.mono U3.out.size))
  have O14 := hide (own_below O13.out hb4)
  have O24 := hide (own_below O23.out hb4)
  clear hb4 H3 KX3 KZ3 U3 O13 O23
  go_wp2_with fail
  refine (giveUp_no _).mono ?_
  rintro e w5 ⟨rfl, rfl⟩
  go_wp2
  refine bodyPost_ret (v := .agg #[.slice ao1 o.length cp1, .int .i64 K, .int .i64 N, .string S, .slice ao2 z.length cp2]) (by simp [results, Tryz.results127, go_sem, *]) rfl ⟨⟨ao1, o.length, cp1, o, K, N, S, ao2, z.length, cp2, z⟩, rfl, rfl, ⟨⟨?_, ?_, b1, b2, hfit.1⟩, HND.out⟩, ?_⟩
  · refine own_lt (base := w.heap.size + 2) ?_ (by omega)
    repeat (refine own_set ?_ (by omega))
    exact O14.out
  · refine own_lt (base := nb + 1) ?_ (by omega)
    repeat (refine own_set ?_ (by omega))
    exact O24.out
  · repeat (refine below_set ?_ (Nat.le_refl _) _ _)
    exact U4.out

set_option maxRecDepth 100000 in
set_option maxHeartbeats 2000000 in
theorem readBind_no (ao : Option Addr) (n c : Nat) (zs : List Int) (hx : getB zs = none) (w : World) (hr : Row w ao n c zs) (hs : n ≤ 1048576) :
    Calls Tryz.prog 127 #[.slice ao n c] w fun e w' => GaveUp e ∧ Below w.heap.size w w' := by
  have hR := rdr_new w ao n c zs hr hs (.cells #[.slice none 0 0, .int .i64 0, .int .i64 0, .string ⟨#[]⟩, .slice none 0 0] 84)
  have q0 := below_two w (.cells #[.slice none 0 0, .int .i64 0, .int .i64 0, .string ⟨#[]⟩, .slice none 0 0] 84) (.cells #[.slice ao n c, .int .i64 0] 161)
  have hby := hr.byte
  have hzl := hr.size
  rcases getB_none hx with hno | ⟨ob, nx, o, K, N, S, z, e, ok, hT, ho, hv, hbad⟩
  · have HNO := hide hno
    clear hx hno
    go_enter Tryz.func127, Tryz.ntmps127
    go_wp2_with fail
    generalize ((w.alloc (.cells #[.slice none 0 0, .int .i64 0, .int .i64 0, .string ⟨#[]⟩, .slice none 0 0] 84)).alloc (.cells #[.slice ao n c, .int .i64 0] 161)) = wb at *
    refine (name_no (w.heap.size + 1) ao n c zs 0 HNO.out _ hR).mono ?_
    rintro e w1 ⟨⟨S, rfl⟩, g1⟩
    go_wp2
    exact ⟨rfl, ⟨_, rfl⟩, belowGr q0 g1 (by omega)⟩
  · have HT := hide hT
    have HO := hide ho
    cases ok
    · have HV := hide hv
      clear hx hT ho hv hbad
      go_enter Tryz.func127, Tryz.ntmps127
      go_wp2_with fail
      generalize ((w.alloc (.cells #[.slice none 0 0, .int .i64 0, .int .i64 0, .string ⟨#[]⟩, .slice none 0 0] 84)).alloc (.cells #[.slice ao n c, .int .i64 0] 161)) = wb at *
      refine (name_yes (w.heap.size + 1) ao n c zs 0 ob nx o HT.out HO.out _ hR).mono ?_
      rintro e' w1 ⟨ao1, cp1, rfl, o1, b1, h1, g1⟩
      have u1 := belowGr q0 g1 (by omega)
      have q1 := below_one w1 (.cells #[.slice ao1 o.length cp1, .int .i64 0, .int .i64 0, .string ⟨#[]⟩, .slice none 0 0] 84)
      have h1' := h1.below q1
      have U1 := hide (u1.trans (q1.mono u1.size))
      clear hR g1 u1 q1 h1 o1
      go_wp2_with fail
      generalize (w1.alloc (.cells #[.slice ao1 o.length cp1, .int .i64 0, .int .i64 0, .string ⟨#[]⟩, .slice none 0 0] 84)) = w1a at *
      refine (value_no (w.heap.size + 1) ao n c zs nx K N S z _ HV.out _ h1').mono ?_
      rintro e' w2 ⟨⟨S', rfl⟩, g2⟩
      go_wp2
      exact ⟨rfl, ⟨_, rfl⟩, belowGr U1.out g2 (by omega)⟩
    · obtain ⟨q, hq, hql⟩ := (getV_fits hby hv).2
      have hlt : (q : Int) < n := by
        rcases hbad with hb | hb
        · cases hb
        · omega
      subst hq
      have HV := hide hv
      have hkz : ((w.alloc (.cells #[.slice none 0 0, .int .i64 0, .int .i64 0, .string ⟨#[]⟩, .slice none 0 0] 84)).alloc (.cells #[.slice ao n c, .int .i64 0] 161)).heap[w.heap.size]? = some (.cells #[.slice none 0 0, .int .i64 0, .int .i64 0, .string ⟨#[]⟩, .slice none 0 0] 84) := kept_block (block_last w _) (below_one _ _)
      clear hx hT ho hv hbad hkz
      go_enter Tryz.func127, Tryz.ntmps127
      go_wp2_with fail
      generalize hwb : ((w.alloc (.cells #[.slice none 0 0, .int .i64 0, .int .i64 0, .string ⟨#[]⟩, .slice none 0 0] 84)).alloc (.cells #[.slice ao n c, .int .i64 0] 161)) = wb at *
      have hwbs : wb.heap.size = w.heap.size + 2 := by rw [← hwb]; simp
      have HWBS := hide hwbs
      clear hwb hwbs
      refine (name_yes (w.heap.size + 1) ao n c zs 0 ob nx o HT.out HO.out _ hR).mono ?_
      rintro e' w1 ⟨ao1, cp1, rfl, o1, b1, h1, g1⟩
      have hn1 := g1.size
      have u1 := belowGr q0 g1 (by omega)
      have q1 := below_one w1 (.cells #[.slice ao1 o.length cp1, .int .i64 0, .int .i64 0, .string ⟨#[]⟩, .slice none 0 0] 84)
      have h1' := h1.below q1
      have KX := hide (block_last w1 (.cells #[.slice ao1 o.length cp1, .int .i64 0, .int .i64 0, .string ⟨#[]⟩, .slice none 0 0] 84))
      have U1 := hide (u1.trans (q1.mono u1.size))
      clear hR g1 u1 q1 h1 o1
      go_wp2_with fail
      generalize (w1.alloc (.cells #[.slice ao1 o.length cp1, .int .i64 0, .int .i64 0, .string ⟨#[]⟩, .slice none 0 0] 84)) = w1a at *
      refine (value_yes (w.heap.size + 1) ao n c zs nx K N S z _ HV.out _ h1').mono ?_
      rintro e' w2 ⟨ao2, cp2, rfl, o2, b2, h2, g2⟩
      have hwb2 := HWBS.out
      have kx2 := kept_grown KX.out g2 (fun k hk => by cases hk; omega)
      have u2 := belowGr U1.out g2 (by omega)
      obtain ⟨⟨i0, i1, i2, i3, i4⟩, j0, j1, j2, j3, j4⟩ := cells5 kx2
      have hle : w.heap.size ≤ w1.heap.size := by omega
      have m5 : w.heap.size + 1 ≠ w1.heap.size := by omega
      have U3 := hide (below_set (below_set (below_set (below_set u2 hle 1 (.int .i64 K)) hle 2 (.int .i64 N)) hle 3 (.string S)) hle 4 (.slice ao2 z.length cp2))
      have H3 : Hid (Rdr ((((w2.setCell ⟨w1.heap.size, 1, none⟩ (.int .i64 K)).setCell ⟨w1.heap.size, 2, none⟩ (.int .i64 N)).setCell ⟨w1.heap.size, 3, none⟩ (.string S)).setCell ⟨w1.heap.size, 4, none⟩ (.slice ao2 z.length cp2)) (w.heap.size + 1) ao n c zs q) := hide ⟨kept_set (kept_set (kept_set (kept_set h2.box m5) m5) m5) m5, hr.below U3.out, hs⟩
      clear hwb2 HWBS KX U1 g2 kx2 u2 o2 h2 h1' m5 hle
      go_wp2_with fail
      generalize ((((w2.setCell ⟨w1.heap.size, 1, none⟩ (.int .i64 K)).setCell ⟨w1.heap.size, 2, none⟩ (.int .i64 N)).setCell ⟨w1.heap.size, 3, none⟩ (.string S)).setCell ⟨w1.heap.size, 4, none⟩ (.slice ao2 z.length cp2)) = w3 at *
      clear i0 i1 i2 i3 i4 j0 j1 j2 j3 j4
      refine (more_any (w.heap.size + 1) ao n c zs q _ H3.out).mono ?_
      rintro e' w4 ⟨rfl, hb4⟩
      rw [decide_eq_true hlt]
      have U4 := hide (U3.out.trans (hb4.mono U3.out.size))
      clear hb4 H3 U3
      go_wp2_with fail
      refine (giveUp_yes _).mono ?_
      rintro e' w5 ⟨⟨S', rfl⟩, rfl⟩
      go_wp2
      exact ⟨rfl, ⟨_, rfl⟩, U4.out⟩

end Go.Proofs.YtgfkpgdkkmgjkaaGreatDoor
