/-
  The program's reader of one bind, by contracts.
  The program's reader of all binds, by contracts.
  The program's reader of a request, by contracts; what it gives up by is caught at GetPdu.
  GetPdu by its contract: what gives up within is caught by the deferred recover.
-/
import Derived.Test.YtamglfhnhjgdjaaGreatDoorPduGet2
import Derived.Test.YtamglfhnhjgdjaaGreatDoorPduOk
import Derived.Defers
import Derived.Recover
namespace Go.Proofs.YtamglfhnhjgdjaaGreatDoor
open Go.RowKit

theorem getB_some {b : List Int} {x : BD} (h : getB b = some x) : ∃ ob nx, getTlv b 0 = (6, ob, nx, true) ∧ getO ob = some x.o ∧ getV b nx = (x.K, x.N, x.S, x.z, (b.length : Int), true) := by
  unfold getB at h
  split at h
  · rename_i ob nx hp
    split at h
    · rename_i o K N S z e ho hv
      split at h
      · rename_i he
        simp only [Option.some.injEq] at h
        subst h
        subst he
        exact ⟨ob, nx, part_some hp, ho, hv⟩
      · cases h
    · cases h
  · cases h

theorem getB_none {b : List Int} (h : getB b = none) : (partM b 0 6 = none ∨ ∃ ob nx, getTlv b 0 = (6, ob, nx, true) ∧ getO ob = none) ∨ ∃ ob nx o K N S z e ok, getTlv b 0 = (6, ob, nx, true) ∧ getO ob = some o ∧ getV b nx = (K, N, S, z, e, ok) ∧ (ok = false ∨ ¬ e = b.length) := by
  unfold getB at h
  split at h
  · rename_i ob nx hp
    have hT := part_some hp
    cases ho : getO ob with
    | none => exact .inl (.inr ⟨ob, nx, hT, ho⟩)
    | some o =>
      rcases hv : getV b nx with ⟨K, N, S, z, e, ok⟩
      rw [ho, hv] at h
      refine .inr ⟨ob, nx, o, K, N, S, z, e, ok, hT, ho, hv, ?_⟩
      cases ok
      · exact .inl rfl
      · refine .inr ?_
        intro he
        simp [he] at h
  · exact .inl (.inl (by assumption))

theorem getV_fits {b : List Int} (hb : Byt b) {t K N : Int} {S : ByteArray} {z : List Int} {e : Int} (h : getV b t = (K, N, S, z, e, true)) : S.size ≤ maxLen ∧ ∃ q : Nat, e = q ∧ q ≤ b.length := by
  obtain ⟨hok, p, q, -, hq, -, hql, -, -⟩ := val_read hb h
  refine ⟨?_, q, hq, hql⟩
  unfold maxLen
  rcases okV_ways hok with ⟨-, -, hS, -⟩ | ⟨-, -, hS, -⟩ | ⟨-, hl, -, -⟩ | ⟨-, -, -, hS⟩
  · rw [hS]; exact Nat.zero_le _
  · rw [hS]; exact Nat.zero_le _
  · omega
  · rw [hS]; exact Nat.zero_le _

theorem set41_block {w : World} {b : Nat} {c0 c1 c2 c3 c4 d1 d2 d3 d4 : Value} {t : TypeId} (h : w.heap[b]? = some (.cells #[c0, c1, c2, c3, c4] t)) : ((((w.setCell ⟨b, 1, none⟩ d1).setCell ⟨b, 2, none⟩ d2).setCell ⟨b, 3, none⟩ d3).setCell ⟨b, 4, none⟩ d4).heap[b]? = some (.cells #[c0, d1, d2, d3, d4] t) := by
  have h1 := heap_setCell_same w b 1 _ t d1 h
  have h2 := heap_setCell_same _ b 2 _ t d2 h1
  have h3 := heap_setCell_same _ b 3 _ t d3 h2
  have h4 := heap_setCell_same _ b 4 _ t d4 h3
  simpa using h4

theorem rdr_new (w : World) (ao : Option Addr) (n c : Nat) (zs : List Int) (hr : Row w ao n c zs) (hs : n ≤ 1048576) (o : Obj) : Rdr ((w.alloc o).alloc (.cells #[.slice ao n c, .int .i64 0] 154)) (w.heap.size + 1) ao n c zs 0 :=
  ⟨by have := block_last (w.alloc o) (.cells #[.slice ao n c, .int .i64 0] 154); simpa using this, hr.below (below_two _ _ _), hs⟩

set_option maxRecDepth 100000 in
set_option maxHeartbeats 2000000 in
theorem readBind_yes (ao : Option Addr) (n c : Nat) (zs : List Int) (x : BD) (hx : getB zs = some x) (w : World) (hr : Row w ao n c zs) (hs : n ≤ 1048576) :
    Calls Tryz.prog 110 #[.slice ao n c] w fun e w' => ∃ y : BI, e = .returned (.agg #[.slice y.oa y.on y.oc, .int .i64 y.K, .int .i64 y.N, .string y.S, .slice y.za y.zn y.zc]) ∧ y.d = x ∧ BNew w' w.heap.size y ∧ Below w.heap.size w w' := by
  obtain ⟨ob, nx, hT, ho, hv⟩ := getB_some hx
  have hzl := hr.size
  have hfit := getV_fits hr.byte hv
  obtain ⟨o, K, N, S, z⟩ := x
  simp only at ho hv hfit
  rw [hzl] at hv
  have HT := hide hT
  have HO := hide ho
  have HV := hide hv
  have hR := rdr_new w ao n c zs hr hs (.cells #[.slice none 0 0, .int .i64 0, .int .i64 0, .string ⟨#[]⟩, .slice none 0 0] 80)
  have q0 := below_two w (.cells #[.slice none 0 0, .int .i64 0, .int .i64 0, .string ⟨#[]⟩, .slice none 0 0] 80) (.cells #[.slice ao n c, .int .i64 0] 154)
  have hkz : ((w.alloc (.cells #[.slice none 0 0, .int .i64 0, .int .i64 0, .string ⟨#[]⟩, .slice none 0 0] 80)).alloc (.cells #[.slice ao n c, .int .i64 0] 154)).heap[w.heap.size]? = some (.cells #[.slice none 0 0, .int .i64 0, .int .i64 0, .string ⟨#[]⟩, .slice none 0 0] 80) := kept_block (block_last w _) (below_one _ _)
  have HKZ := hide hkz
  clear hx hT ho hv hkz hzl
  go_enter Tryz.func110, Tryz.ntmps110
  go_wp2_with fail
  generalize hwb : ((w.alloc (.cells #[.slice none 0 0, .int .i64 0, .int .i64 0, .string ⟨#[]⟩, .slice none 0 0] 80)).alloc (.cells #[.slice ao n c, .int .i64 0] 154)) = wb at *
  have hwbs : wb.heap.size = w.heap.size + 2 := by rw [← hwb]; simp
  have HWBS := hide hwbs
  clear hwb hwbs
  refine (name_yes (w.heap.size + 1) ao n c zs 0 ob nx o HT.out HO.out _ hR).mono ?_
  rintro e w1 ⟨ao1, cp1, rfl, o1, b1, h1, g1⟩
  have hn1 := g1.size
  have kz1 := kept_grown HKZ.out g1 (fun k hk => by cases hk; omega)
  have u1 := belowGr q0 g1 (by omega)
  have q1 := below_one w1 (.cells #[.slice ao1 o.length cp1, .int .i64 0, .int .i64 0, .string ⟨#[]⟩, .slice none 0 0] 80)
  have h1' := h1.below q1
  have kx1 := block_last w1 (.cells #[.slice ao1 o.length cp1, .int .i64 0, .int .i64 0, .string ⟨#[]⟩, .slice none 0 0] 80)
  have kz1' := kept_block kz1 q1
  have o1' := own_below o1 q1
  have u1' := u1.trans (q1.mono u1.size)
  have KX := hide kx1
  have KZ := hide kz1'
  have O1 := hide o1'
  have U1 := hide u1'
  have L1 := hide (fun k hk => (o1.lt k hk).2)
  have hs1 : (w1.alloc (.cells #[.slice ao1 o.length cp1, .int .i64 0, .int .i64 0, .string ⟨#[]⟩, .slice none 0 0] 80)).heap.size = w1.heap.size + 1 := by simp
  have HS1 := hide hs1
  clear hR g1 kz1 u1 q1 h1 kx1 kz1' o1 o1' u1' HKZ hs1
  go_wp2_with fail
  generalize (w1.alloc (.cells #[.slice ao1 o.length cp1, .int .i64 0, .int .i64 0, .string ⟨#[]⟩, .slice none 0 0] 80)) = w1a at *
  refine (value_yes (w.heap.size + 1) ao n c zs nx K N S z _ HV.out _ h1').mono ?_
  rintro e w2 ⟨ao2, cp2, rfl, o2, b2, h2, g2⟩
  have hwb2 := HWBS.out
  have hs12 := HS1.out
  have kx2 := kept_grown KX.out g2 (fun k hk => by cases hk; omega)
  have kz2 := kept_grown KZ.out g2 (fun k hk => by cases hk; omega)
  have u2 := belowGr U1.out g2 (by omega)
  have o12 := (Only.of_grown (ao := some ⟨w.heap.size + 1, 0, none⟩) (n := 0) (c := 0) g2).own O1.out (fun k hk hc => by have h1 := (O1.out.lt k hk).1; simp [blkL] at hc; omega)
  have hnd := blks_new (x := ⟨ao1, o.length, cp1, o, K, N, S, ao2, z.length, cp2, z⟩) O1.out o2 (Nat.le_refl _)
  obtain ⟨⟨i0, i1, i2, i3, i4⟩, j0, j1, j2, j3, j4⟩ := cells5 kx2
  obtain ⟨⟨d0, d1, d2, d3, d4⟩, e0, e1, e2, e3, e4⟩ := cells5 kz2
  have m1 : ¬ w1.heap.size = w.heap.size := by omega
  have m2 : ¬ w.heap.size = w1.heap.size := by omega
  have m3 : ¬ w1.heap.size = w.heap.size + 1 := by omega
  have m4 : w.heap.size + 2 ≤ w1.heap.size := by omega
  have KX2 := hide kx2
  have KZ2 := hide kz2
  have U2 := hide u2
  have O12 := hide (own_lt o12 (base' := w.heap.size + 2) (by omega))
  have O2 := hide (own_lt o2 (base' := w1.heap.size + 1) (by omega))
  have H2 := hide h2
  have HND := hide hnd
  clear hwb2 hs12 HWBS HS1 KX KZ U1 O1 g2 kx2 kz2 u2 o12 o2 h2 h1' hnd
  generalize hnb : w1.heap.size = nb at *
  clear hnb
  have U3 := hide (below_set (below_set (below_set (below_set U2.out (show w.heap.size ≤ nb by omega) 1 (.int .i64 K)) (show w.heap.size ≤ nb by omega) 2 (.int .i64 N)) (show w.heap.size ≤ nb by omega) 3 (.string S)) (show w.heap.size ≤ nb by omega) 4 (.slice ao2 z.length cp2))
  have m5 : w.heap.size + 1 ≠ nb := by omega
  have m6 : w.heap.size ≠ nb := by omega
  have H3 : Hid (Rdr ((((w2.setCell ⟨nb, 1, none⟩ (.int .i64 K)).setCell ⟨nb, 2, none⟩ (.int .i64 N)).setCell ⟨nb, 3, none⟩ (.string S)).setCell ⟨nb, 4, none⟩ (.slice ao2 z.length cp2)) (w.heap.size + 1) ao n c zs n) := hide ⟨kept_set (kept_set (kept_set (kept_set H2.out.box m5) m5) m5) m5, hr.below U3.out, hs⟩
  have KX3 := hide (set41_block (d1 := .int .i64 K) (d2 := .int .i64 N) (d3 := .string S) (d4 := .slice ao2 z.length cp2) KX2.out)
  have KZ3 : Hid (((((w2.setCell ⟨nb, 1, none⟩ (.int .i64 K)).setCell ⟨nb, 2, none⟩ (.int .i64 N)).setCell ⟨nb, 3, none⟩ (.string S)).setCell ⟨nb, 4, none⟩ (.slice ao2 z.length cp2)).heap[w.heap.size]? = _) := hide (kept_set (kept_set (kept_set (kept_set KZ2.out m6) m6) m6) m6)
  have O13 := hide ((((((Only.set w2 nb 1 (.int .i64 K)).trans (Only.set _ nb 2 (.int .i64 N))).trans (Only.set _ nb 3 (.string S))).trans (Only.set _ nb 4 (.slice ao2 z.length cp2)))).own O12.out (fun k hk hc => by have := L1.out k hk; simp only [List.mem_singleton] at hc; omega))
  have O23 : Hid (((((w2.setCell ⟨nb, 1, none⟩ (.int .i64 K)).setCell ⟨nb, 2, none⟩ (.int .i64 N)).setCell ⟨nb, 3, none⟩ (.string S)).setCell ⟨nb, 4, none⟩ (.slice ao2 z.length cp2)).ownsRow (nb + 1) 3 1 (.slice ao2 z.length cp2) z.length (cI z)) := hide (own_set (own_set (own_set (own_set O2.out (by omega)) (by omega)) (by omega)) (by omega))
  clear m5 m6 H2 KX2 KZ2 U2 O12 O2 L1
  go_wp2_with fail
  generalize ((((w2.setCell ⟨nb, 1, none⟩ (.int .i64 K)).setCell ⟨nb, 2, none⟩ (.int .i64 N)).setCell ⟨nb, 3, none⟩ (.string S)).setCell ⟨nb, 4, none⟩ (.slice ao2 z.length cp2)) = w3 at *
  clear i0 i1 i2 i3 i4 j0 j1 j2 j3 j4 d0 d1 d2 d3 d4 e0 e1 e2 e3 e4
  refine (more_any (w.heap.size + 1) ao n c zs n _ H3.out).mono ?_
  rintro e w4 ⟨rfl, hb4⟩
  rw [decide_eq_false (by omega)]
  obtain ⟨⟨i0, i1, i2, i3, i4⟩, j0, j1, j2, j3, j4⟩ := cells5 (kept_block KX3.out hb4)
  obtain ⟨⟨d0, d1, d2, d3, d4⟩, e0, e1, e2, e3, e4⟩ := cells5 (kept_block KZ3.out hb4)
  have U4 := hide (U3.out.trans (hb4.mono U3.out.size))
  have O14 := hide (own_below O13.out hb4)
  have O24 := hide (own_below O23.out hb4)
  clear hb4 H3 KX3 KZ3 U3 O13 O23
  go_wp2_with fail
  refine (giveUp_no _).mono ?_
  rintro e w5 ⟨rfl, rfl⟩
  go_wp2
  refine bodyPost_ret (v := .agg #[.slice ao1 o.length cp1, .int .i64 K, .int .i64 N, .string S, .slice ao2 z.length cp2]) (by simp [results, Tryz.results110, go_sem, *]) rfl ⟨⟨ao1, o.length, cp1, o, K, N, S, ao2, z.length, cp2, z⟩, rfl, rfl, ⟨⟨?_, ?_, b1, b2, hfit.1⟩, HND.out⟩, ?_⟩
  · refine own_lt (base := w.heap.size + 2) ?_ (by omega)
    repeat (refine own_set ?_ (by omega))
    exact O14.out
  · refine own_lt (base := nb + 1) ?_ (by omega)
    repeat (refine own_set ?_ (by omega))
    exact O24.out
  · repeat (refine below_set ?_ (Nat.le_refl _) _ _)
    exact U4.out

set_option maxRecDepth 100000 in
set_option maxHeartbeats 2000000 in
theorem readBind_no (ao : Option Addr) (n c : Nat) (zs : List Int) (hx : getB zs = none) (w : World) (hr : Row w ao n c zs) (hs : n ≤ 1048576) :
    Calls Tryz.prog 110 #[.slice ao n c] w fun e w' => GaveUp e ∧ Below w.heap.size w w' := by
  have hR := rdr_new w ao n c zs hr hs (.cells #[.slice none 0 0, .int .i64 0, .int .i64 0, .string ⟨#[]⟩, .slice none 0 0] 80)
  have q0 := below_two w (.cells #[.slice none 0 0, .int .i64 0, .int .i64 0, .string ⟨#[]⟩, .slice none 0 0] 80) (.cells #[.slice ao n c, .int .i64 0] 154)
  have hby := hr.byte
  have hzl := hr.size
  rcases getB_none hx with hno | ⟨ob, nx, o, K, N, S, z, e, ok, hT, ho, hv, hbad⟩
  · have HNO := hide hno
    clear hx hno
    go_enter Tryz.func110, Tryz.ntmps110
    go_wp2_with fail
    generalize ((w.alloc (.cells #[.slice none 0 0, .int .i64 0, .int .i64 0, .string ⟨#[]⟩, .slice none 0 0] 80)).alloc (.cells #[.slice ao n c, .int .i64 0] 154)) = wb at *
    refine (name_no (w.heap.size + 1) ao n c zs 0 HNO.out _ hR).mono ?_
    rintro e w1 ⟨⟨S, rfl⟩, g1⟩
    go_wp2
    exact ⟨rfl, ⟨_, rfl⟩, belowGr q0 g1 (by omega)⟩
  · have HT := hide hT
    have HO := hide ho
    cases ok
    · have HV := hide hv
      clear hx hT ho hv hbad
      go_enter Tryz.func110, Tryz.ntmps110
      go_wp2_with fail
      generalize ((w.alloc (.cells #[.slice none 0 0, .int .i64 0, .int .i64 0, .string ⟨#[]⟩, .slice none 0 0] 80)).alloc (.cells #[.slice ao n c, .int .i64 0] 154)) = wb at *
      refine (name_yes (w.heap.size + 1) ao n c zs 0 ob nx o HT.out HO.out _ hR).mono ?_
      rintro e' w1 ⟨ao1, cp1, rfl, o1, b1, h1, g1⟩
      have u1 := belowGr q0 g1 (by omega)
      have q1 := below_one w1 (.cells #[.slice ao1 o.length cp1, .int .i64 0, .int .i64 0, .string ⟨#[]⟩, .slice none 0 0] 80)
      have h1' := h1.below q1
      have U1 := hide (u1.trans (q1.mono u1.size))
      clear hR g1 u1 q1 h1 o1
      go_wp2_with fail
      generalize (w1.alloc (.cells #[.slice ao1 o.length cp1, .int .i64 0, .int .i64 0, .string ⟨#[]⟩, .slice none 0 0] 80)) = w1a at *
      refine (value_no (w.heap.size + 1) ao n c zs nx K N S z _ HV.out _ h1').mono ?_
      rintro e' w2 ⟨⟨S', rfl⟩, g2⟩
      go_wp2
      exact ⟨rfl, ⟨_, rfl⟩, belowGr U1.out g2 (by omega)⟩
    · obtain ⟨q, hq, hql⟩ := (getV_fits hby hv).2
      have hlt : (q : Int) < n := by
        rcases hbad with hb | hb
        · cases hb
        · omega
      subst hq
      have HV := hide hv
      have hkz : ((w.alloc (.cells #[.slice none 0 0, .int .i64 0, .int .i64 0, .string ⟨#[]⟩, .slice none 0 0] 80)).alloc (.cells #[.slice ao n c, .int .i64 0] 154)).heap[w.heap.size]? = some (.cells #[.slice none 0 0, .int .i64 0, .int .i64 0, .string ⟨#[]⟩, .slice none 0 0] 80) := kept_block (block_last w _) (below_one _ _)
      clear hx hT ho hv hbad hkz
      go_enter Tryz.func110, Tryz.ntmps110
      go_wp2_with fail
      generalize hwb : ((w.alloc (.cells #[.slice none 0 0, .int .i64 0, .int .i64 0, .string ⟨#[]⟩, .slice none 0 0] 80)).alloc (.cells #[.slice ao n c, .int .i64 0] 154)) = wb at *
      have hwbs : wb.heap.size = w.heap.size + 2 := by rw [← hwb]; simp
      have HWBS := hide hwbs
      clear hwb hwbs
      refine (name_yes (w.heap.size + 1) ao n c zs 0 ob nx o HT.out HO.out _ hR).mono ?_
      rintro e' w1 ⟨ao1, cp1, rfl, o1, b1, h1, g1⟩
      have hn1 := g1.size
      have u1 := belowGr q0 g1 (by omega)
      have q1 := below_one w1 (.cells #[.slice ao1 o.length cp1, .int .i64 0, .int .i64 0, .string ⟨#[]⟩, .slice none 0 0] 80)
      have h1' := h1.below q1
      have KX := hide (block_last w1 (.cells #[.slice ao1 o.length cp1, .int .i64 0, .int .i64 0, .string ⟨#[]⟩, .slice none 0 0] 80))
      have U1 := hide (u1.trans (q1.mono u1.size))
      clear hR g1 u1 q1 h1 o1
      go_wp2_with fail
      generalize (w1.alloc (.cells #[.slice ao1 o.length cp1, .int .i64 0, .int .i64 0, .string ⟨#[]⟩, .slice none 0 0] 80)) = w1a at *
      refine (value_yes (w.heap.size + 1) ao n c zs nx K N S z _ HV.out _ h1').mono ?_
      rintro e' w2 ⟨ao2, cp2, rfl, o2, b2, h2, g2⟩
      have hwb2 := HWBS.out
      have kx2 := kept_grown KX.out g2 (fun k hk => by cases hk; omega)
      have u2 := belowGr U1.out g2 (by omega)
      obtain ⟨⟨i0, i1, i2, i3, i4⟩, j0, j1, j2, j3, j4⟩ := cells5 kx2
      have hle : w.heap.size ≤ w1.heap.size := by omega
      have m5 : w.heap.size + 1 ≠ w1.heap.size := by omega
      have U3 := hide (below_set (below_set (below_set (below_set u2 hle 1 (.int .i64 K)) hle 2 (.int .i64 N)) hle 3 (.string S)) hle 4 (.slice ao2 z.length cp2))
      have H3 : Hid (Rdr ((((w2.setCell ⟨w1.heap.size, 1, none⟩ (.int .i64 K)).setCell ⟨w1.heap.size, 2, none⟩ (.int .i64 N)).setCell ⟨w1.heap.size, 3, none⟩ (.string S)).setCell ⟨w1.heap.size, 4, none⟩ (.slice ao2 z.length cp2)) (w.heap.size + 1) ao n c zs q) := hide ⟨kept_set (kept_set (kept_set (kept_set h2.box m5) m5) m5) m5, hr.below U3.out, hs⟩
      clear hwb2 HWBS KX U1 g2 kx2 u2 o2 h2 h1' m5 hle
      go_wp2_with fail
      generalize ((((w2.setCell ⟨w1.heap.size, 1, none⟩ (.int .i64 K)).setCell ⟨w1.heap.size, 2, none⟩ (.int .i64 N)).setCell ⟨w1.heap.size, 3, none⟩ (.string S)).setCell ⟨w1.heap.size, 4, none⟩ (.slice ao2 z.length cp2)) = w3 at *
      clear i0 i1 i2 i3 i4 j0 j1 j2 j3 j4
      refine (more_any (w.heap.size + 1) ao n c zs q _ H3.out).mono ?_
      rintro e' w4 ⟨rfl, hb4⟩
      rw [decide_eq_true hlt]
      have U4 := hide (U3.out.trans (hb4.mono U3.out.size))
      clear hb4 H3 U3
      go_wp2_with fail
      refine (giveUp_yes _).mono ?_
      rintro e' w5 ⟨⟨S', rfl⟩, rfl⟩
      go_wp2
      exact ⟨rfl, ⟨_, rfl⟩, U4.out⟩

theorem Tryz.infoBind' : (Tryz.prog.info? 80).map (fun i => (i.zero, i.size, i.bytes)) = some (some (.agg #[.slice none 0 0, .int .i64 0, .int .i64 0, .string ⟨#[]⟩, .slice none 0 0]), 5, 80) := by kernel_rfl

/-- What is read so far, and what is still to be read, is what is read of all. -/
structure Reads (F : Nat) (zs : List Int) (t : Int) (ys : List BI) : Prop where
  t : ∃ p : Nat, t = p ∧ p ≤ zs.length ∧ ∃ f, zs.length ≤ p + f ∧ getBs F zs 0 = (getBs f zs t).map (ys.map BI.d ++ ·) ∧ ys.length ≤ p

theorem reads_start (zs : List Int) : Reads zs.length zs 0 [] := ⟨0, rfl, Nat.zero_le _, zs.length, by omega, by simp, Nat.zero_le _⟩

theorem Reads.done {F : Nat} {zs : List Int} {ys : List BI} (h : Reads F zs zs.length ys) : getBs F zs 0 = some (ys.map BI.d) := by
  obtain ⟨p, hp, hpl, f, hf, he, -⟩ := h.t
  rw [he]
  cases f <;> simp [getBs]

theorem getBs_no1 {f : Nat} {zs : List Int} {t : Int} (h : ¬ t = zs.length) (hm : partM zs t 48 = none) : getBs (f + 1) zs t = none := by unfold getBs; rw [if_neg h, hm]
theorem getBs_no2 {f : Nat} {zs : List Int} {t : Int} {b : List Int} {nx : Int} (h : ¬ t = zs.length) (hm : partM zs t 48 = some (b, nx)) (hb : getB b = none) : getBs (f + 1) zs t = none := by unfold getBs; rw [if_neg h, hm]; simp only [hb]
theorem getBs_yes {f : Nat} {zs : List Int} {t : Int} {b : List Int} {nx : Int} {x : BD} (h : ¬ t = zs.length) (hm : partM zs t 48 = some (b, nx)) (hb : getB b = some x) : getBs (f + 1) zs t = (getBs f zs nx).map (x :: ·) := by
  conv => lhs; unfold getBs
  rw [if_neg h, hm]
  simp only [hb]

theorem Reads.step {F : Nat} {zs : List Int} {t : Int} {ys : List BI} (h : Reads F zs t ys) (hz : Byt zs) (hlt : ¬ t = zs.length) :
    (partM zs t 48 = none ∧ getBs F zs 0 = none) ∨ ∃ b nx, getTlv zs t = (48, b, nx, true) ∧ ((getB b = none ∧ getBs F zs 0 = none) ∨ ∃ x, getB b = some x ∧ ∃ q : Nat, nx = q ∧ t < q ∧ q ≤ zs.length ∧ ∀ y : BI, y.d = x → Reads F zs nx (ys ++ [y])) := by
  obtain ⟨p, hp, hpl, f, hf, he, hyl⟩ := h.t
  cases f with
  | zero => omega
  | succ f =>
    cases hm : partM zs t 48 with
    | none => rw [getBs_no1 hlt hm] at he; exact .inl ⟨rfl, he⟩
    | some bn =>
      obtain ⟨b, nx⟩ := bn
      have hT := part_some hm
      refine .inr ⟨b, nx, hT, ?_⟩
      cases hb : getB b with
      | none => rw [getBs_no2 hlt hm hb] at he; exact .inl ⟨rfl, he⟩
      | some x =>
        rw [getBs_yes hlt hm hb] at he
        obtain ⟨p', q, hp', hq, hpq, hql, -, -⟩ := tlv_lies hz hT
        refine .inr ⟨x, rfl, q, hq, by omega, hql, ?_⟩
        intro y hy
        refine ⟨q, hq, hql, f, by omega, ?_, by simp; omega⟩
        rw [he, Option.map_map]
        congr 1
        funext r
        simp [hy]

theorem Reads.at {F : Nat} {zs : List Int} {t : Int} {ys : List BI} (h : Reads F zs t ys) : ∃ p : Nat, t = p ∧ p ≤ zs.length ∧ ys.length ≤ p := by
  obtain ⟨p, hp, hpl, -, -, -, hy⟩ := h.t
  exact ⟨p, hp, hpl, hy⟩

theorem bind_news (w : World) (y : BI) : ∀ (j : Nat) (u : Value), y.cs[j]? = some u → (w.alloc (.cells #[.slice y.oa y.on y.oc, .int .i64 y.K, .int .i64 y.N, .string y.S, .slice y.za y.zn y.zc] 80)).cell? ((⟨w.heap.size, 0, none⟩ : Addr).add j) = some u := by
  intro j u hu
  obtain ⟨⟨c0, c1, c2, c3, c4⟩, -⟩ := cells5 (block_last w (.cells #[.slice y.oa y.on y.oc, .int .i64 y.K, .int .i64 y.N, .string y.S, .slice y.za y.zn y.zc] 80))
  rw [add_none, Nat.zero_add]
  match j, hu with
  | 0, hu => rw [c0]; exact hu
  | 1, hu => rw [c1]; exact hu
  | 2, hu => rw [c2]; exact hu
  | 3, hu => rw [c3]; exact hu
  | 4, hu => rw [c4]; exact hu
  | k + 5, hu => simp [BI.cs] at hu

theorem cs_oneCell (y : BI) : ∀ u ∈ y.cs, u.oneCell' = true := by
  intro u hu
  simp only [BI.cs, List.mem_cons, List.not_mem_nil, or_false] at hu
  rcases hu with rfl | rfl | rfl | rfl | rfl <;> rfl

theorem own_slice {w : World} {base : Nat} {e : TypeId} {s : Nat} {v : Value} {n : Nat} {xs : List Value} (h : w.ownsRow base e s v n xs) : ∃ ao cap, v = .slice ao n cap := by
  rcases h.2 with ⟨rfl, rfl⟩ | ⟨g, cap, cur, rfl, _⟩
  · exact ⟨_, _, rfl⟩
  · exact ⟨_, _, rfl⟩

theorem O_below {w w' : World} {base : Nat} {ao : Option Addr} {n cap : Nat} {l : List BI} (h : BOwns w base ao n cap l) (hg : w.grownBy w' (Value.slice ao n cap).ownBlock) (hb : base ≤ w.heap.size) : Below base w w' :=
  (Only.of_grown hg).below hb (fun b hb => (h.row.lt b (mem_blkL.2 hb)).1)

/-- The binds so far. -/
def Held (w wr : World) (rb : Nat) (ao : Option Addr) (n c : Nat) (zs : List Int) (v : Value) : Prop :=
  ∃ t ys lo cap, v = .slice lo ys.length cap ∧ Reads n zs t ys ∧ Rdr wr rb ao n c zs t ∧ BOwns wr (w.heap.size + 1) lo ys.length cap ys

set_option maxRecDepth 100000 in
set_option maxHeartbeats 4000000 in
theorem readBinds_any (ao : Option Addr) (n c : Nat) (zs : List Int) (r : Option (List BD)) (hr0 : getBs n zs 0 = r) (w : World) (hr : Row w ao n c zs) (hs : n ≤ 1048576) :
    Calls Tryz.prog 100 #[.slice ao n c] w fun e w' => ((r = none ∧ GaveUp e) ∨ ∃ ys lo cap, r = some (ys.map BI.d) ∧ e = .returned (.slice lo ys.length cap) ∧ BOwns w' (w.heap.size + 1) lo ys.length cap ys) ∧ Below w.heap.size w w' := by
  obtain ⟨i0, hi, hz0, hz1, hz2⟩ := info_parts Tryz.infoBind'
  have hzl := hr.size
  have hby := hr.byte
  have q0 := below_one w (.cells #[.slice ao n c, .int .i64 0] 154)
  have HR0 := hide hr0
  have hst : Held w (w.alloc (.cells #[.slice ao n c, .int .i64 0] 154)) w.heap.size ao n c zs (.slice none 0 0) := ⟨0, [], none, 0, rfl, by rw [← hzl]; exact reads_start zs, ⟨block_last w _, hr.below q0, hs⟩, bowns_nil _ _⟩
  clear hr0
  go_enter Tryz.func100, Tryz.ntmps100
  go_wp2
  go_loopw [4] (fun v wr => Held w wr w.heap.size ao n c zs v ∧ Below w.heap.size w wr) (fun _ wr => n - (intOf ((wr.cell? ⟨w.heap.size, 1, none⟩).getD (.int .i64 0))).toNat)
  case atStart => exact ⟨hst, q0⟩
  case round =>
    obtain ⟨⟨t, ys, lo, cap, rfl, hrd, hR, hbo⟩, hb⟩ := hrel
    clear hst
    obtain ⟨p, hp, hpl, hyp⟩ := hrd.at
    have hcell : wr.cell? ⟨w.heap.size, 1, none⟩ = some (.int .i64 t) := (cells2 hR.box).1.2
    have HC := hide hcell
    have HRD := hide hrd
    have HB := hide hb
    have hbs := hb.size
    have hlb : w.heap.size < wr.heap.size := (Array.getElem?_eq_some_iff.1 hR.box).1
    clear hrd hb hcell
    go_wp2_with fail
    refine (more_any w.heap.size ao n c zs t _ hR).mono ?_
    rintro e w1 ⟨rfl, hb1⟩
    have hR1 := hR.below hb1
    have hbo1 := hbo.below hb1
    have b1 := HB.out.trans (hb1.mono hbs)
    by_cases hlt : t < n
    · rw [decide_eq_true hlt]
      have hne : ¬ t = zs.length := by omega
      rcases HRD.out.step hby hne with ⟨hno, hnone⟩ | ⟨b, nx, hT, hrest⟩
      · have HNO := hide hno
        have HNN := hide (HR0.out.symm.trans hnone)
        clear hno hnone HRD
        go_wp2_with fail
        refine (part_no w.heap.size ao n c zs t 48 HNO.out _ hR1).mono ?_
        rintro e w2 ⟨⟨S, rfl⟩, g2⟩
        go_wp2
        exact ⟨rfl, .inl ⟨HNN.out, ⟨_, rfl⟩⟩, belowGr b1 g2 (Nat.le_refl _)⟩
      · have hbl := tlv_short hby hT
        have HT := hide hT
        clear hT
        rcases hrest with ⟨hbn, hnone⟩ | ⟨x, hbx, q, hq, htq, hql, hnext⟩
        · have HBN := hide hbn
          have HNN := hide (HR0.out.symm.trans hnone)
          clear hbn hnone HRD
          go_wp2_with fail
          refine (part_yes w.heap.size ao n c zs t 48 b nx HT.out _ hR1).mono ?_
          rintro e w2 ⟨bo, bc, rfl, r2, h2, g2⟩
          have b2 := belowGr b1 g2 (Nat.le_refl _)
          go_wp2_with fail
          refine (readBind_no _ _ _ b HBN.out _ r2 (by omega)).mono ?_
          rintro e w3 ⟨⟨S, rfl⟩, hb3⟩
          go_wp2
          exact ⟨rfl, .inl ⟨HNN.out, ⟨_, rfl⟩⟩, b2.trans (hb3.mono b2.size)⟩
        · have HBX := hide hbx
          have HNEXT := hide hnext
          clear hbx hnext HRD
          go_wp2_with fail
          refine (part_yes w.heap.size ao n c zs t 48 b nx HT.out _ hR1).mono ?_
          rintro e w2 ⟨bo, bc, rfl, r2, h2, g2⟩
          have b2 := belowGr b1 g2 (Nat.le_refl _)
          have hbo2 := hbo1.only (Only.of_grown (ao := some ⟨w.heap.size, 0, none⟩) (n := 0) (c := 0) g2) (fun b hb hc => by have := (hbo1.blk b hb).1; simp [blkL] at hc; omega)
          go_wp2_with fail
          refine (readBind_yes _ _ _ b x HBX.out _ r2 (by omega)).mono ?_
          rintro e w3 ⟨y, rfl, hyd, hnew, hb3⟩
          have h3 := h2.below hb3
          have b3 := b2.trans (hb3.mono b2.size)
          have hbo3 := hbo2.below hb3
          have q3 := below_one w3 (.cells #[.slice y.oa y.on y.oc, .int .i64 y.K, .int .i64 y.N, .string y.S, .slice y.za y.zn y.zc] 80)
          have HB4 := hide (b3.trans (q3.mono b3.size))
          have HR4 := hide (h3.below q3)
          have HBO4 := hide (hbo3.below q3)
          have hw2 : w.heap.size + 1 ≤ w2.heap.size := by have := g2.size; have := hb1.size; omega
          have HN4 : Hid (BOwn (w3.alloc (.cells #[.slice y.oa y.on y.oc, .int .i64 y.K, .int .i64 y.N, .string y.S, .slice y.za y.zn y.zc] 80)) (w.heap.size + 1) y) := hide ((hnew.own.below q3).lt hw2)
          have HAP : Hid (∀ z ∈ ys, ∀ b ∈ z.blks, b ∉ y.blks) := hide (fun z hz b hb hc => by have h1 := ((hbo2.item z hz).blk b hb).2; have h2 := (hnew.own.blk b hc).1; omega)
          have HND := hide hnew.nd
          have HYD := hide hyd
          have hrow4 := (hbo3.below q3).row
          have hsz4 : w.heap.size + 1 ≤ (w3.alloc (.cells #[.slice y.oa y.on y.oc, .int .i64 y.K, .int .i64 y.N, .string y.S, .slice y.za y.zn y.zc] 80)).heap.size := by have := hb3.size; simp; omega
          clear hR hR1 hbo hbo1 hbo2 hbo3 b1 b2 b3 h2 h3 hb1 hb3 g2 r2 q3 hnew hyd
          go_wp2_with (at_builtin; refine wpList_append_own _ rfl _ _ 24 rfl (w.heap.size + 1) 80 i0 (.agg #[.slice none 0 0, .int .i64 0, .int .i64 0, .string ⟨#[]⟩, .slice none 0 0]) 5 80 Tryz.underlying24 hi hz0 hz1 hz2 rfl (by decide) _ ys.length (cBs ys) rfl hrow4 ⟨w3.heap.size, 0, none⟩ 1 1 y.cs rfl rfl (bind_news w3 y) (cs_oneCell y) ?c1 ?c2 ?c3 ?_)
          case c1 => unfold maxLen; omega
          case c2 => omega
          case c3 => exact hsz4
          intro v' w5 how hgr _
          obtain ⟨lo', cap', rfl⟩ := own_slice how
          have hpush := HBO4.out.push HN4.out HND.out HAP.out hgr how
          have hR5 : Rdr w5 w.heap.size ao n c zs nx := by
            have O := Only.of_grown hgr
            have hnb : w.heap.size ∉ blkL lo := fun hc => by have := (HBO4.out.row.lt w.heap.size (mem_blkL.2 hc)).1; omega
            have bw : Below (w.heap.size + 1) (w3.alloc (.cells #[.slice y.oa y.on y.oc, .int .i64 y.K, .int .i64 y.N, .string y.S, .slice y.za y.zn y.zc] 80)) w5 := O.below hsz4 (fun b hb => (HBO4.out.row.lt b (mem_blkL.2 hb)).1)
            exact ⟨O.kept HR4.out.box hnb, hr.below (HB4.out.trans (bw.mono (by omega))), hs⟩
          have HB5 := hide (HB4.out.trans ((O_below HBO4.out hgr hsz4).mono (by omega)))
          have HP5 := hide hpush
          have HR5 := hide hR5
          have HC5 := hide (cells2 hR5.box).1.2
          clear how hgr hpush hR5
          go_wp2
          go_roundw
          case rel => exact ⟨⟨nx, ys ++ [y], lo', cap', by simp, HNEXT.out y HYD.out, HR5.out, by simpa using HP5.out⟩, HB5.out⟩
          case measure =>
            rw [HC5.out, HC.out]
            simp only [Option.getD_some, intOf]
            omega
    · rw [decide_eq_false hlt]
      have ht : t = zs.length := by omega
      subst ht
      have HF := hide (HR0.out.symm.trans HRD.out.done)
      clear HRD HC hR1
      go_wp2
      go_ret
      exact ⟨.inr ⟨ys, lo, cap, HF.out, rfl, hbo1⟩, b1⟩

theorem getBs_fuel : ∀ (l : List BD) (f g : Nat) (zs : List Int) (t : Int), getBs f zs t = some l → l.length ≤ g → getBs g zs t = some l := by
  intro l
  induction l with
  | nil =>
    intro f g zs t h _
    by_cases ht : t = zs.length
    · cases g <;> simp [getBs, ht]
    · exfalso
      cases f with
      | zero => simp [getBs, ht] at h
      | succ f =>
        cases hm : partM zs t 48 with
        | none => rw [getBs_no1 ht hm] at h; cases h
        | some bn =>
          obtain ⟨b, nx⟩ := bn
          cases hb : getB b with
          | none => rw [getBs_no2 ht hm hb] at h; cases h
          | some x =>
            rw [getBs_yes ht hm hb] at h
            cases hr : getBs f zs nx <;> simp [hr] at h
  | cons x l ih =>
    intro f g zs t h hg
    by_cases ht : t = zs.length
    · cases f <;> simp [getBs, ht] at h
    · cases f with
      | zero => simp [getBs, ht] at h
      | succ f =>
        cases g with
        | zero => simp at hg
        | succ g =>
          cases hm : partM zs t 48 with
          | none => rw [getBs_no1 ht hm] at h; cases h
          | some bn =>
            obtain ⟨b, nx⟩ := bn
            cases hb : getB b with
            | none => rw [getBs_no2 ht hm hb] at h; cases h
            | some y =>
              rw [getBs_yes ht hm hb] at h
              cases hr : getBs f zs nx with
              | none => rw [hr] at h; simp at h
              | some r =>
                rw [hr] at h
                simp only [Option.map_some, Option.some.injEq, List.cons.injEq] at h
                obtain ⟨rfl, rfl⟩ := h
                rw [getBs_yes ht hm hb, ih f g zs nx hr (by simp at hg; omega)]
                rfl

theorem flatB_two (l : List BD) : 2 * l.length ≤ (flatB l).length := by
  induction l with
  | nil => simp [flatB]
  | cons x r ih => rw [flatB_cons, List.length_append, List.length_cons]; have := tlvB_len 48 (putB x); omega

/-- With whatever room: the same binds, ten at most. -/
theorem getBs_ten {zs : List Int} (hz : Byt zs) : getBs 10 zs 0 = match getBs zs.length zs 0 with
    | some l => if l.length ≤ 10 then some l else none
    | none => none := by
  cases h10 : getBs 10 zs 0 with
  | some l =>
    obtain ⟨-, h1, h2⟩ := getBs_read 10 zs 0 l hz (by omega) (by omega) h10
    have hl : l.length ≤ zs.length := by have := flatB_two l; rw [← h2] at this; simp at this; omega
    rw [getBs_fuel l 10 zs.length zs 0 h10 hl]
    simp [h1]
  | none =>
    cases hn : getBs zs.length zs 0 with
    | none => rfl
    | some l =>
      by_cases hl : l.length ≤ 10
      · rw [getBs_fuel l _ 10 zs 0 hn hl] at h10; cases h10
      · simp [hl]

theorem getP_no {z : List Int} {k : Int} {body : List Int} {nx : Int} {ok : Bool} (h : getTlv z 0 = (k, body, nx, ok)) (hb : ok = false ∨ ¬ nx = z.length) : getP z = none := by
  unfold getP
  rw [h]
  simp only
  rw [if_neg]
  rintro ⟨h1, h2⟩
  rcases hb with hb | hb
  · rw [hb] at h1; cases h1
  · exact hb h2
theorem getP_tail0 {z : List Int} {k : Int} {body : List Int} (h : getTlv z 0 = (k, body, (z.length : Int), true)) (ht : getTail body = none) : getP z = none := by
  unfold getP
  rw [h]
  simp [ht]
theorem getP_tail1 {z : List Int} {k : Int} {body : List Int} {id a b : Int} {l : List BD} (h : getTlv z 0 = (k, body, (z.length : Int), true)) (ht : getTail body = some (id, a, b, l)) : getP z = if okP k id a b l = true then some ⟨k, id, a, b, l⟩ else none := by
  unfold getP
  rw [h]
  simp [ht]
theorem tail_no1 {body : List Int} (h : numM body 0 = none) : getTail body = none := by unfold getTail; rw [h]
theorem tail_no2 {body : List Int} {i t1 : Int} (h : numM body 0 = some (i, t1)) (h2 : numM body t1 = none) : getTail body = none := by unfold getTail; simp only [h, h2]
theorem tail_no3 {body : List Int} {i t1 a t2 : Int} (h : numM body 0 = some (i, t1)) (h2 : numM body t1 = some (a, t2)) (h3 : numM body t2 = none) : getTail body = none := by unfold getTail; simp only [h, h2, h3]
theorem tail_no4 {body : List Int} {i t1 a t2 b t3 : Int} (h : numM body 0 = some (i, t1)) (h2 : numM body t1 = some (a, t2)) (h3 : numM body t2 = some (b, t3)) (h4 : partM body t3 48 = none) : getTail body = none := by unfold getTail; simp only [h, h2, h3, h4]
theorem tail_is {body : List Int} {i t1 a t2 b t3 t4 : Int} {zs : List Int} (h : numM body 0 = some (i, t1)) (h2 : numM body t1 = some (a, t2)) (h3 : numM body t2 = some (b, t3)) (h4 : partM body t3 48 = some (zs, t4)) : getTail body = if t4 = body.length then (getBs 10 zs 0).map (fun l => (i, a, b, l)) else none := by unfold getTail; simp only [h, h2, h3, h4]

/-- Where a request's reading stands: its reader, its box. -/
structure PSt (w1 wr : World) (rb pb : Nat) (bo : Option Addr) (bl bc : Nat) (t k a1 a2 a3 : Int) (v4 : Value) : Prop where
  rbox : wr.heap[rb]? = some (.cells #[.slice bo bl bc, .int .i64 t] 154)
  pbox : wr.heap[pb]? = some (.cells #[.int .i64 k, .int .i64 a1, .int .i64 a2, .int .i64 a3, v4] 26)
  low : Below w1.heap.size w1 wr
  rlow : w1.heap.size ≤ rb
  plow : w1.heap.size ≤ pb
  ne : rb ≠ pb

section
variable {w1 wr w' : World} {rb pb : Nat} {bo : Option Addr} {bl bc : Nat} {t k a1 a2 a3 : Int} {v4 : Value}

theorem PSt.rdr (h : PSt w1 wr rb pb bo bl bc t k a1 a2 a3 v4) {zs : List Int} (hr : Row w1 bo bl bc zs) (hs : bl ≤ 1048576) : Rdr wr rb bo bl bc zs t := ⟨h.rbox, hr.below h.low, hs⟩
theorem PSt.next (h : PSt w1 wr rb pb bo bl bc t k a1 a2 a3 v4) {zs : List Int} {t' : Int} (hg : wr.grownBy w' (some rb)) (hR : Rdr w' rb bo bl bc zs t') : PSt w1 w' rb pb bo bl bc t' k a1 a2 a3 v4 :=
  ⟨hR.box, kept_grown h.pbox hg (fun j hj => by cases hj; exact h.ne), h.low.grown hg h.low.size (fun j hj => by cases hj; exact h.rlow), h.rlow, h.plow, h.ne⟩
theorem PSt.below (h : PSt w1 wr rb pb bo bl bc t k a1 a2 a3 v4) (hb : Below wr.heap.size wr w') : PSt w1 w' rb pb bo bl bc t k a1 a2 a3 v4 :=
  ⟨kept_block h.rbox hb, kept_block h.pbox hb, h.low.trans (hb.mono h.low.size), h.rlow, h.plow, h.ne⟩
theorem PSt.set1 (h : PSt w1 wr rb pb bo bl bc t k a1 a2 a3 v4) (x : Int) : PSt w1 (wr.setCell ⟨pb, 1, none⟩ (.int .i64 x)) rb pb bo bl bc t k x a2 a3 v4 :=
  ⟨kept_set h.rbox h.ne, (by have := heap_setCell_same wr pb 1 _ _ (.int .i64 x) h.pbox; simpa using this), below_set h.low h.plow _ _, h.rlow, h.plow, h.ne⟩
theorem PSt.set2 (h : PSt w1 wr rb pb bo bl bc t k a1 a2 a3 v4) (x : Int) : PSt w1 (wr.setCell ⟨pb, 2, none⟩ (.int .i64 x)) rb pb bo bl bc t k a1 x a3 v4 :=
  ⟨kept_set h.rbox h.ne, (by have := heap_setCell_same wr pb 2 _ _ (.int .i64 x) h.pbox; simpa using this), below_set h.low h.plow _ _, h.rlow, h.plow, h.ne⟩
theorem PSt.set3 (h : PSt w1 wr rb pb bo bl bc t k a1 a2 a3 v4) (x : Int) : PSt w1 (wr.setCell ⟨pb, 3, none⟩ (.int .i64 x)) rb pb bo bl bc t k a1 a2 x v4 :=
  ⟨kept_set h.rbox h.ne, (by have := heap_setCell_same wr pb 3 _ _ (.int .i64 x) h.pbox; simpa using this), below_set h.low h.plow _ _, h.rlow, h.plow, h.ne⟩
theorem PSt.set4 (h : PSt w1 wr rb pb bo bl bc t k a1 a2 a3 v4) (v : Value) : PSt w1 (wr.setCell ⟨pb, 4, none⟩ v) rb pb bo bl bc t k a1 a2 a3 v :=
  ⟨kept_set h.rbox h.ne, (by have := heap_setCell_same wr pb 4 _ _ v h.pbox; simpa using this), below_set h.low h.plow _ _, h.rlow, h.plow, h.ne⟩
end

theorem pst_new (w1 : World) (bo : Option Addr) (bl bc : Nat) (k : Int) : PSt w1 ((w1.alloc (.cells #[.slice bo bl bc, .int .i64 0] 154)).alloc (.cells #[.int .i64 k, .int .i64 0, .int .i64 0, .int .i64 0, .slice none 0 0] 26)) w1.heap.size (w1.heap.size + 1) bo bl bc 0 k 0 0 0 (.slice none 0 0) :=
  ⟨kept_block (block_last w1 _) (below_one _ _), (by have := block_last (w1.alloc (.cells #[.slice bo bl bc, .int .i64 0] 154)) (.cells #[.int .i64 k, .int .i64 0, .int .i64 0, .int .i64 0, .slice none 0 0] 26); simpa using this), below_two _ _ _, Nat.le_refl _, by omega, by omega⟩

/-- What comes of reading: nothing, or a request whose binds are the call's own. -/
def Comes (r : Option PD) (w : World) (e : Ending) (w' : World) : Prop :=
  (r = none ∧ GaveUp e) ∨ ∃ k id a b ys lo cap, r = some ⟨k, id, a, b, ys.map BI.d⟩ ∧ e = .returned (.agg #[.int .i64 k, .int .i64 id, .int .i64 a, .int .i64 b, .slice lo ys.length cap]) ∧ BOwns w' (w.heap.size + 1) lo ys.length cap ys

set_option maxRecDepth 100000 in
set_option maxHeartbeats 8000000 in
theorem readPdu_any (ao : Option Addr) (n c : Nat) (z : List Int) (r : Option PD) (hr0 : getP z = r) (w : World) (hr : Row w ao n c z) (hs : n ≤ 1048576) :
    Calls Tryz.prog 77 #[.slice ao n c] w fun e w' => Comes r w e w' ∧ Below w.heap.size w w' := by
  have hzl := hr.size
  have hby := hr.byte
  have q0 := below_one w (.cells #[.int .i64 0, .int .i64 0, .int .i64 0, .int .i64 0, .slice none 0 0] 26)
  have HR0 := hide hr0
  have HKZ := hide (block_last w (.cells #[.int .i64 0, .int .i64 0, .int .i64 0, .int .i64 0, .slice none 0 0] 26))
  have rw0 := hr.below q0
  rcases hT : getTlv z 0 with ⟨k, body, nx, ok⟩
  have HT := hide hT
  clear hr0 hT
  cases ok
  · have HN := hide (HR0.out.symm.trans (getP_no HT.out (.inl rfl)))
    go_enter Tryz.func77, Tryz.ntmps77
    go_wp2_with fail
    generalize (w.alloc (.cells #[.int .i64 0, .int .i64 0, .int .i64 0, .int .i64 0, .slice none 0 0] 26)) = wb at *
    refine (implGet_made _ _ _ z 0 k nx false body HT.out _ rw0 (by omega)).mono ?_
    rintro e w1 ⟨bo, bc, rfl, -, r1, u1⟩
    go_wp2_with fail
    refine (giveUp_yes _).mono ?_
    rintro e w2 ⟨⟨S, rfl⟩, rfl⟩
    go_wp2
    exact ⟨rfl, .inl ⟨HN.out, ⟨_, rfl⟩⟩, q0.trans (u1.mono q0.size)⟩
  · by_cases hnx : nx = n
    · subst hnx
      have hbl := tlv_short hby HT.out
      have hbb := byt_of_part hby HT.out
      have HT2 : Hid (getTlv z 0 = (k, body, (z.length : Int), true)) := hide (by rw [hzl]; exact HT.out)
      go_enter Tryz.func77, Tryz.ntmps77
      go_wp2_with fail
      generalize hwb : (w.alloc (.cells #[.int .i64 0, .int .i64 0, .int .i64 0, .int .i64 0, .slice none 0 0] 26)) = wb at *
      have hwbs : wb.heap.size = w.heap.size + 1 := by rw [← hwb]; simp
      have HWBS := hide hwbs
      clear hwb hwbs
      refine (implGet_made _ _ _ z 0 k n true body HT.out _ rw0 (by omega)).mono ?_
      rintro e w1 ⟨bo, bc, rfl, -, r1, u1⟩
      have HKZ1 := hide (kept_block HKZ.out u1)
      have hw1 : w.heap.size + 1 ≤ w1.heap.size := by have := u1.size; have := HWBS.out; omega
      have UW := hide (q0.trans (u1.mono q0.size))
      clear u1 HWBS HKZ rw0
      go_wp2_with fail
      refine (giveUp_no _).mono ?_
      rintro e w2 ⟨rfl, rfl⟩
      have P0 := pst_new w2 bo body.length bc k
      obtain ⟨⟨p0, p1, p2, p3, p4⟩, f0, f1, f2, f3, f4⟩ := cells5 P0.pbox
      have hsm : body.length ≤ 1048576 := by omega
      have R0 := P0.rdr r1 hsm
      have HP0 := hide P0
      clear P0
      go_wp2_with fail
      generalize ((w2.alloc (.cells #[.slice bo body.length bc, .int .i64 0] 154)).alloc (.cells #[.int .i64 k, .int .i64 0, .int .i64 0, .int .i64 0, .slice none 0 0] 26)) = wc at *
      -- the first number
      cases h1 : numM body 0 with
      | none =>
        have HN := hide (HR0.out.symm.trans (getP_tail0 HT2.out (tail_no1 h1)))
        refine (number_no w2.heap.size bo body.length bc body 0 h1 _ R0).mono ?_
        rintro e w3 ⟨⟨S, rfl⟩, g3⟩
        have L := HP0.out.low.grown g3 HP0.out.low.size (fun j hj => by cases hj; exact Nat.le_refl _)
        clear h1 p0 p1 p2 p3 p4 f0 f1 f2 f3 f4
        go_wp2
        exact ⟨rfl, .inl ⟨HN.out, ⟨_, rfl⟩⟩, UW.out.trans (L.mono (by omega))⟩
      | some it =>
        obtain ⟨id, t1⟩ := it
        refine (number_yes w2.heap.size bo body.length bc body 0 id t1 h1 _ R0).mono ?_
        rintro e w3 ⟨rfl, h3, g3⟩
        have H1 := hide h1
        have P1 := HP0.out.next g3 h3
        clear h1 p0 p1 p2 p3 p4 f0 f1 f2 f3 f4 HP0 R0 h3 g3
        obtain ⟨⟨p0, p1, p2, p3, p4⟩, f0, f1, f2, f3, f4⟩ := cells5 P1.pbox
        have HP1 := hide (P1.set1 id)
        have R1 := (P1.set1 id).rdr r1 hsm
        clear P1
        go_wp2_with fail
        generalize (w3.setCell ⟨w2.heap.size + 1, 1, none⟩ (.int .i64 id)) = w3a at *
        cases h2 : numM body t1 with
        | none =>
          have HN := hide (HR0.out.symm.trans (getP_tail0 HT2.out (tail_no2 H1.out h2)))
          refine (number_no w2.heap.size bo body.length bc body t1 h2 _ R1).mono ?_
          rintro e w4 ⟨⟨S, rfl⟩, g4⟩
          have L := HP1.out.low.grown g4 HP1.out.low.size (fun j hj => by cases hj; exact Nat.le_refl _)
          clear h2 p0 p1 p2 p3 p4 f0 f1 f2 f3 f4
          go_wp2
          exact ⟨rfl, .inl ⟨HN.out, ⟨_, rfl⟩⟩, UW.out.trans (L.mono (by omega))⟩
        | some it =>
          obtain ⟨a, t2⟩ := it
          refine (number_yes w2.heap.size bo body.length bc body t1 a t2 h2 _ R1).mono ?_
          rintro e w4 ⟨rfl, h4, g4⟩
          have H2 := hide h2
          have P2 := HP1.out.next g4 h4
          clear h2 p0 p1 p2 p3 p4 f0 f1 f2 f3 f4 HP1 R1 h4 g4
          obtain ⟨⟨p0, p1, p2, p3, p4⟩, f0, f1, f2, f3, f4⟩ := cells5 P2.pbox
          have HP2 := hide (P2.set2 a)
          have R2 := (P2.set2 a).rdr r1 hsm
          clear P2
          go_wp2_with fail
          generalize (w4.setCell ⟨w2.heap.size + 1, 2, none⟩ (.int .i64 a)) = w4a at *
          cases h3 : numM body t2 with
          | none =>
            have HN := hide (HR0.out.symm.trans (getP_tail0 HT2.out (tail_no3 H1.out H2.out h3)))
            refine (number_no w2.heap.size bo body.length bc body t2 h3 _ R2).mono ?_
            rintro e w5 ⟨⟨S, rfl⟩, g5⟩
            have L := HP2.out.low.grown g5 HP2.out.low.size (fun j hj => by cases hj; exact Nat.le_refl _)
            clear h3 p0 p1 p2 p3 p4 f0 f1 f2 f3 f4
            go_wp2
            exact ⟨rfl, .inl ⟨HN.out, ⟨_, rfl⟩⟩, UW.out.trans (L.mono (by omega))⟩
          | some it =>
            obtain ⟨b, t3⟩ := it
            refine (number_yes w2.heap.size bo body.length bc body t2 b t3 h3 _ R2).mono ?_
            rintro e w5 ⟨rfl, h5, g5⟩
            have H3 := hide h3
            have P3 := HP2.out.next g5 h5
            clear h3 p0 p1 p2 p3 p4 f0 f1 f2 f3 f4 HP2 R2 h5 g5
            obtain ⟨⟨p0, p1, p2, p3, p4⟩, f0, f1, f2, f3, f4⟩ := cells5 P3.pbox
            have HP3 := hide (P3.set3 b)
            have R3 := (P3.set3 b).rdr r1 hsm
            clear P3
            go_wp2_with fail
            generalize (w5.setCell ⟨w2.heap.size + 1, 3, none⟩ (.int .i64 b)) = w5a at *
            cases h4 : partM body t3 48 with
            | none =>
              have HN := hide (HR0.out.symm.trans (getP_tail0 HT2.out (tail_no4 H1.out H2.out H3.out h4)))
              refine (part_no w2.heap.size bo body.length bc body t3 48 h4 _ R3).mono ?_
              rintro e w6 ⟨⟨S, rfl⟩, g6⟩
              have L := HP3.out.low.grown g6 HP3.out.low.size (fun j hj => by cases hj; exact Nat.le_refl _)
              clear h4 p0 p1 p2 p3 p4 f0 f1 f2 f3 f4
              go_wp2
              exact ⟨rfl, .inl ⟨HN.out, ⟨_, rfl⟩⟩, UW.out.trans (L.mono (by omega))⟩
            | some bt =>
              obtain ⟨zs, t4⟩ := bt
              have hT4 := part_some h4
              have hzs := tlv_short hbb hT4
              have hzb := byt_of_part hbb hT4
              obtain ⟨-, q4, -, hq4, -, hql4, -, -⟩ := tlv_lies hbb hT4
              refine (part_yes w2.heap.size bo body.length bc body t3 48 zs t4 hT4 _ R3).mono ?_
              rintro e w6 ⟨bo6, bc6, rfl, r6, h6, g6⟩
              have HTL := hide (tail_is H1.out H2.out H3.out h4)
              have P4 := HP3.out.next g6 h6
              clear h4 hT4 p0 p1 p2 p3 p4 f0 f1 f2 f3 f4 HP3 R3 h6 g6 H1 H2 H3
              obtain ⟨⟨p0, p1, p2, p3, p4⟩, f0, f1, f2, f3, f4⟩ := cells5 P4.pbox
              have HP4 := hide P4
              clear P4
              go_wp2_with fail
              refine (readBinds_any _ _ _ zs _ rfl _ r6 (by omega)).mono ?_
              rintro e w7 ⟨hw7 | ⟨ys, lo, cap, hys, rfl, hbo⟩, hb7⟩
              · obtain ⟨hnone, ⟨S, rfl⟩⟩ := hw7
                have HN : Hid (r = none) := hide (HR0.out.symm.trans (getP_tail0 HT2.out (by rw [HTL.out, getBs_ten hzb, hnone]; simp)))
                have L := (HP4.out.below hb7).low
                clear hnone p0 p1 p2 p3 p4 f0 f1 f2 f3 f4
                go_wp2
                exact ⟨rfl, .inl ⟨HN.out, ⟨_, rfl⟩⟩, UW.out.trans (L.mono (by omega))⟩
              · have P5 := HP4.out.below hb7
                have HYS := hide hys
                have n6 := HP4.out.low.size
                have hb6 : (w2.heap.size + 1) < w6.heap.size := (Array.getElem?_eq_some_iff.1 HP4.out.pbox).1
                have hbo' := hbo.lt (base' := w2.heap.size + 2) (by omega)
                clear p0 p1 p2 p3 p4 f0 f1 f2 f3 f4 HP4 hb7 hys hbo
                obtain ⟨⟨p0, p1, p2, p3, p4⟩, f0, f1, f2, f3, f4⟩ := cells5 P5.pbox
                have P6 := P5.set4 (.slice lo ys.length cap)
                have R6 := P6.rdr r1 hsm
                have HBO := hide (hbo'.set_below (g := w2.heap.size + 1) (j := 4) (u := .slice lo ys.length cap) (by omega))
                have HP6 := hide P6
                clear P5 P6 hbo'
                go_wp2_with fail
                generalize (w7.setCell ⟨w2.heap.size + 1, 4, none⟩ (.slice lo ys.length cap)) = w7a at *
                refine (more_any w2.heap.size bo body.length bc body t4 _ R6).mono ?_
                rintro e w8 ⟨rfl, hb8⟩
                have P7 := HP6.out.below hb8
                have HBO8 := hide (HBO.out.below hb8)
                clear p0 p1 p2 p3 p4 f0 f1 f2 f3 f4 HP6 hb8 HBO R6
                obtain ⟨⟨p0, p1, p2, p3, p4⟩, f0, f1, f2, f3, f4⟩ := cells5 P7.pbox
                have HP7 := hide P7
                clear P7
                by_cases hm : t4 < body.length
                · rw [decide_eq_true hm]
                  have HN : Hid (r = none) := hide (HR0.out.symm.trans (getP_tail0 HT2.out (by rw [HTL.out, if_neg (by omega)])))
                  have L := HP7.out.low
                  go_wp2_with fail
                  refine (giveUp_yes _).mono ?_
                  rintro e w9 ⟨⟨S, rfl⟩, rfl⟩
                  go_wp2
                  exact ⟨rfl, .inl ⟨HN.out, ⟨_, rfl⟩⟩, UW.out.trans (L.mono (by omega))⟩
                · rw [decide_eq_false hm]
                  have ht4 : t4 = body.length := by omega
                  have HTL2 := hide (HTL.out.trans (by rw [if_pos ht4, getBs_ten hzb, HYS.out]))
                  clear HTL HYS hm ht4
                  go_wp2_with fail
                  refine (implPduOk_any k id a b lo _ cap ys _ HBO8.out.brow).mono ?_
                  rintro e w9 ⟨rfl, hb9⟩
                  have P8 := HP7.out.below hb9
                  have HBO9 := hide (HBO8.out.below hb9)
                  have kz9 := kept_block HKZ1.out (P8.low)
                  clear p0 p1 p2 p3 p4 f0 f1 f2 f3 f4 HP7 hb9 HBO8
                  have L := P8.low
                  cases hok : okP k id a b (ys.map BI.d)
                  · have HN : Hid (r = none) := hide (HR0.out.symm.trans (by
                      by_cases hl : (ys.map BI.d).length ≤ 10
                      · rw [getP_tail1 HT2.out (by rw [HTL2.out]; simp only [if_pos hl]; rfl), if_neg (by rw [hok]; decide)]
                      · exact getP_tail0 HT2.out (by rw [HTL2.out]; simp only [if_neg hl]; rfl)))
                    go_wp2_with fail
                    refine (giveUp_yes _).mono ?_
                    rintro e w10 ⟨⟨S, rfl⟩, rfl⟩
                    go_wp2
                    exact ⟨rfl, .inl ⟨HN.out, ⟨_, rfl⟩⟩, UW.out.trans (L.mono (by omega))⟩
                  · have hl : (ys.map BI.d).length ≤ 10 := (okP_parts hok).2.2.2.2.2.2
                    have HN : Hid (r = some ⟨k, id, a, b, ys.map BI.d⟩) := hide (HR0.out.symm.trans (by rw [getP_tail1 HT2.out (by rw [HTL2.out]; simp only [if_pos hl]; rfl), if_pos hok]))
                    obtain ⟨⟨p0, p1, p2, p3, p4⟩, f0, f1, f2, f3, f4⟩ := cells5 P8.pbox
                    obtain ⟨⟨d0, d1, d2, d3, d4⟩, e0, e1, e2, e3, e4⟩ := cells5 kz9
                    have HL := hide (UW.out.trans (L.mono (by omega)))
                    have m1 : ¬ w2.heap.size + 1 = w.heap.size := by omega
                    clear kz9 P8 L hok HTL2
                    go_wp2_with fail
                    refine (giveUp_no _).mono ?_
                    rintro e w10 ⟨rfl, rfl⟩
                    go_wp2
                    refine bodyPost_ret (v := .agg #[.int .i64 k, .int .i64 id, .int .i64 a, .int .i64 b, .slice lo ys.length cap]) (by simp [results, Tryz.results77, go_sem, *]) rfl ⟨.inr ⟨k, id, a, b, ys, lo, cap, HN.out, rfl, ?_⟩, ?_⟩
                    · refine BOwns.lt (base := w2.heap.size + 2) ?_ (by omega)
                      repeat (refine BOwns.set_below ?_ (by omega))
                      exact HBO9.out
                    · repeat (refine below_set ?_ (Nat.le_refl _) _ _)
                      exact HL.out
    · have HN := hide (HR0.out.symm.trans (getP_no HT.out (.inr (by omega))))
      have hnn : (nx == (n : Int)) = false := by simpa using hnx
      go_enter Tryz.func77, Tryz.ntmps77
      go_wp2_with fail
      generalize (w.alloc (.cells #[.int .i64 0, .int .i64 0, .int .i64 0, .int .i64 0, .slice none 0 0] 26)) = wb at *
      refine (implGet_made _ _ _ z 0 k nx true body HT.out _ rw0 (by omega)).mono ?_
      rintro e w1 ⟨bo, bc, rfl, -, r1, u1⟩
      go_wp2_with fail
      refine (giveUp_yes _).mono ?_
      rintro e w2 ⟨⟨S, rfl⟩, rfl⟩
      go_wp2
      exact ⟨rfl, .inl ⟨HN.out, ⟨_, rfl⟩⟩, q0.trans (u1.mono q0.size)⟩

/-- The two results behind a panic that was caught. -/
def caught (w : World) (P Q : Nat) : World :=
  (((((w.setCell ⟨P, 0, none⟩ (.int .i64 0)).setCell ⟨P, 1, none⟩ (.int .i64 0)).setCell ⟨P, 2, none⟩ (.int .i64 0)).setCell ⟨P, 3, none⟩ (.int .i64 0)).setCell ⟨P, 4, none⟩ (.slice none 0 0)).setCell ⟨Q, 0, none⟩ (.bool false)

set_option maxRecDepth 100000 in
set_option maxHeartbeats 1000000 in
theorem catch_panicking (P Q : Nat) (hQP : ¬ Q = P) (k a1 a2 a3 : Int) (v4 : Value) (b : Bool) (u : TypeId) (pv : Value) (older : List PanicEntry) (w : World) (h1 : w.heap[P]? = some (.cells #[.int .i64 k, .int .i64 a1, .int .i64 a2, .int .i64 a3, v4] 26)) (h2 : w.heap[Q]? = some (.cells #[.bool b] 4)) :
    CallsD Tryz.prog 76 #[.pointer (some ⟨P, 0, none⟩), .pointer (some ⟨Q, 0, none⟩)] (.panicking ({ v := .iface u pv, recovered := false } :: older)) w fun e u' w' =>
      e = .returned (.tuple #[]) ∧ u' = .panicking ({ v := .iface u pv, recovered := true } :: older) ∧ w' = caught w P Q := by
  obtain ⟨⟨c0, c1, c2, c3, c4⟩, f0, f1, f2, f3, f4⟩ := cells5 h1
  have dq : (w.setCell ⟨P, 0, none⟩ (.int .i64 0)).cell? ⟨Q, 0, none⟩ = some (.bool b) := by simp only [World.cell?]; rw [kept_set h2 hQP]; rfl
  have e0 : w.frozen? ⟨Q, 0, none⟩ = false := by simp [World.frozen?, h2]
  refine callsD_of_wpS Tryz.func76 rfl fun c₀ cs hu => ?_
  apply wpS_seq
  apply wpS_region
  simp [wpOpsS, go_sem, recoverD, hu, Tryz.ntmps76, Exit.thenS]
  refine wpS_cond (t := true) (by simp [Act.eval, Array.replicate]) ?_
  simp only [if_true]
  apply wpS_region
  simp [wpOpsS, go_sem, c0, c1, c2, c3, c4, f0, f1, f2, f3, f4, dq, e0, bodyPostS, results, Tryz.results76, caught]

set_option maxRecDepth 100000 in
set_option maxHeartbeats 1000000 in
theorem catch_idle (P Q : Addr) (w : World) :
    CallsD Tryz.prog 76 #[.pointer (some P), .pointer (some Q)] .returning w fun e u' w' => e = .returned (.tuple #[]) ∧ u' = .returning ∧ w' = w := by
  refine callsD_of_wpS Tryz.func76 rfl fun c₀ cs hu => ?_
  apply wpS_seq
  apply wpS_region
  simp [wpOpsS, go_sem, recoverD, hu, Tryz.ntmps76, Exit.thenS]
  refine wpS_cond (t := false) (by simp [Act.eval, Array.replicate]) ?_
  simp only [Bool.false_eq_true, if_false]
  refine wpS_of_wp (wp_skip ?_)
  cases c₀
  simp_all [bodyPostS, results, Tryz.results76]

theorem laid_blocks {w : World} (P Q : Nat) (hQP : ¬ Q = P) {k a1 a2 a3 : Int} {v4 : Value} {b : Bool} (k' b1 b2 b3 : Int) (v' : Value) (b' : Bool) (h1 : w.heap[P]? = some (.cells #[.int .i64 k, .int .i64 a1, .int .i64 a2, .int .i64 a3, v4] 26)) (h2 : w.heap[Q]? = some (.cells #[.bool b] 4)) :
    ((((((w.setCell ⟨P, 0, none⟩ (.int .i64 k')).setCell ⟨P, 1, none⟩ (.int .i64 b1)).setCell ⟨P, 2, none⟩ (.int .i64 b2)).setCell ⟨P, 3, none⟩ (.int .i64 b3)).setCell ⟨P, 4, none⟩ v').setCell ⟨Q, 0, none⟩ (.bool b')).heap[P]? = some (.cells #[.int .i64 k', .int .i64 b1, .int .i64 b2, .int .i64 b3, v'] 26) ∧
    ((((((w.setCell ⟨P, 0, none⟩ (.int .i64 k')).setCell ⟨P, 1, none⟩ (.int .i64 b1)).setCell ⟨P, 2, none⟩ (.int .i64 b2)).setCell ⟨P, 3, none⟩ (.int .i64 b3)).setCell ⟨P, 4, none⟩ v').setCell ⟨Q, 0, none⟩ (.bool b')).heap[Q]? = some (.cells #[.bool b'] 4) := by
  have g0 := heap_setCell_same w P 0 _ _ (.int .i64 k') h1
  have g1 := heap_setCell_same _ P 1 _ _ (.int .i64 b1) g0
  have g2 := heap_setCell_same _ P 2 _ _ (.int .i64 b2) g1
  have g3 := heap_setCell_same _ P 3 _ _ (.int .i64 b3) g2
  have g4 := heap_setCell_same _ P 4 _ _ v' g3
  refine ⟨kept_set (by simpa using g4) (fun e => hQP e.symm), ?_⟩
  have h3 := kept_set (j := 4) (u := v') (kept_set (j := 3) (u := .int .i64 b3) (kept_set (j := 2) (u := .int .i64 b2) (kept_set (j := 1) (u := .int .i64 b1) (kept_set (j := 0) (u := .int .i64 k') h2 hQP) hQP) hQP) hQP) hQP
  have g5 := heap_setCell_same _ Q 0 _ _ (.bool b') h3
  simpa using g5

theorem caught_blocks {w : World} (P Q : Nat) (hQP : ¬ Q = P) {k a1 a2 a3 : Int} {v4 : Value} {b : Bool} (h1 : w.heap[P]? = some (.cells #[.int .i64 k, .int .i64 a1, .int .i64 a2, .int .i64 a3, v4] 26)) (h2 : w.heap[Q]? = some (.cells #[.bool b] 4)) :
    (caught w P Q).heap[P]? = some (.cells #[.int .i64 0, .int .i64 0, .int .i64 0, .int .i64 0, .slice none 0 0] 26) ∧ (caught w P Q).heap[Q]? = some (.cells #[.bool false] 4) := by
  unfold caught
  have g0 := heap_setCell_same w P 0 _ _ (.int .i64 0) h1
  have g1 := heap_setCell_same _ P 1 _ _ (.int .i64 0) g0
  have g2 := heap_setCell_same _ P 2 _ _ (.int .i64 0) g1
  have g3 := heap_setCell_same _ P 3 _ _ (.int .i64 0) g2
  have g4 := heap_setCell_same _ P 4 _ _ (.slice none 0 0) g3
  refine ⟨kept_set (by simpa using g4) (fun e => hQP e.symm), ?_⟩
  have h3 := kept_set (j := 4) (u := .slice none 0 0) (kept_set (j := 3) (u := .int .i64 0) (kept_set (j := 2) (u := .int .i64 0) (kept_set (j := 1) (u := .int .i64 0) (kept_set (j := 0) (u := .int .i64 0) h2 hQP) hQP) hQP) hQP) hQP
  have g5 := heap_setCell_same _ Q 0 _ _ (.bool false) h3
  simpa using g5

/-- What is answered: the request that was read, or an empty one. -/
def GotP (r : Option PD) (w : World) (e : Ending) (w' : World) : Prop :=
  ∃ k id a b ys lo cap, e = .returned (.tuple #[.agg #[.int .i64 k, .int .i64 id, .int .i64 a, .int .i64 b, .slice lo ys.length cap], .bool r.isSome]) ∧ BOwns w' w.heap.size lo ys.length cap ys ∧ r.getD ⟨0, 0, 0, 0, []⟩ = ⟨k, id, a, b, ys.map BI.d⟩

set_option maxRecDepth 100000 in
set_option maxHeartbeats 2000000 in
theorem implGetPdu_any (ao : Option Addr) (n c : Nat) (z : List Int) (r : Option PD) (hr0 : getP z = r) (w : World) (hr : Row w ao n c z) (hs : n ≤ 1048576) :
    Calls Tryz.prog 52 #[.slice ao n c] w fun e w' => GotP r w e w' ∧ Below w.heap.size w w' := by
  have hmf : ∀ (fn : Fn) (first cap : Array Value) (w : World), (Instr.makeFunc fn first cap).run Tryz.prog w = .ok (.func fn first cap) w := fun _ _ _ _ => rfl
  have q0 := below_two w (.cells #[.int .i64 0, .int .i64 0, .int .i64 0, .int .i64 0, .slice none 0 0] 26) (.cells #[.bool false] 4)
  have hk1 : ((w.alloc (.cells #[.int .i64 0, .int .i64 0, .int .i64 0, .int .i64 0, .slice none 0 0] 26)).alloc (.cells #[.bool false] 4)).heap[w.heap.size]? = some (.cells #[.int .i64 0, .int .i64 0, .int .i64 0, .int .i64 0, .slice none 0 0] 26) := kept_block (block_last w _) (below_one _ _)
  have hk2 : ((w.alloc (.cells #[.int .i64 0, .int .i64 0, .int .i64 0, .int .i64 0, .slice none 0 0] 26)).alloc (.cells #[.bool false] 4)).heap[w.heap.size + 1]? = some (.cells #[.bool false] 4) := by have := block_last (w.alloc (.cells #[.int .i64 0, .int .i64 0, .int .i64 0, .int .i64 0, .slice none 0 0] 26)) (.cells #[.bool false] 4); simpa using this
  have HK1 := hide hk1
  have HK2 := hide hk2
  have hrb := hr.below q0
  clear hk1 hk2
  go_enter_defers Tryz.func52, Tryz.ntmps52
  go_wp2_with fail
  generalize hwb : ((w.alloc (.cells #[.int .i64 0, .int .i64 0, .int .i64 0, .int .i64 0, .slice none 0 0] 26)).alloc (.cells #[.bool false] 4)) = wb at *
  have hwbs : wb.heap.size = w.heap.size + 2 := by rw [← hwb]; simp
  have HWBS := hide hwbs
  clear hwb hwbs
  refine (readPdu_any ao n c z r hr0 _ hrb hs).mono ?_
  rintro e w1 ⟨⟨hn, S, rfl⟩ | ⟨k, id, a, b, ys, lo, cap, hsome, rfl, hbo⟩, hb1⟩
  · have k1 := kept_block HK1.out hb1
    have k2 := kept_block HK2.out hb1
    have b1 := q0.trans (hb1.mono q0.size)
    have K1 := hide k1
    have K2 := hide k2
    clear k1 k2
    go_wp2
    refine leaves_cons (f := 76) (args := #[.pointer (some ⟨w.heap.size, 0, none⟩), .pointer (some ⟨w.heap.size + 1, 0, none⟩)]) (by simp) (by simp [go_sem]) ?_
    refine (catch_panicking w.heap.size (w.heap.size + 1) (by omega) 0 0 0 0 (.slice none 0 0) false 9 _ [] _ K1.out K2.out).mono ?_
    rintro e u' w'' ⟨rfl, rfl, rfl⟩
    have k3 := caught_blocks w.heap.size (w.heap.size + 1) (by omega) K1.out K2.out
    obtain ⟨⟨c0, c1, c2, c3, c4⟩, -⟩ := cells5 k3.1
    have d0 : (caught w1 w.heap.size (w.heap.size + 1)).cell? ⟨w.heap.size + 1, 0, none⟩ = some (.bool false) := by simp [World.cell?, k3.2]
    have b2 : Below w.heap.size w (caught w1 w.heap.size (w.heap.size + 1)) := by
      unfold caught
      refine below_set ?_ (by omega) _ _
      repeat (refine below_set ?_ (Nat.le_refl _) _ _)
      exact b1
    have hg : GotP r w (.returned (.tuple #[.agg #[.int .i64 0, .int .i64 0, .int .i64 0, .int .i64 0, .slice none 0 0], .bool false])) (caught w1 w.heap.size (w.heap.size + 1)) := by
      rw [hn]
      exact ⟨0, 0, 0, 0, [], none, 0, rfl, bowns_nil _ _, rfl⟩
    have HG := hide hg
    have HB2 := hide b2
    clear hg b2 k3
    generalize caught w1 w.heap.size (w.heap.size + 1) = w2 at *
    simp [Leaves, settle, results, Tryz.results52, go_sem, c0, c1, c2, c3, c4, d0]
    exact ⟨HG.out, HB2.out⟩
  · have k1 := kept_block HK1.out hb1
    have k2 := kept_block HK2.out hb1
    obtain ⟨⟨c0, c1, c2, c3, c4⟩, f0, f1, f2, f3, f4⟩ := cells5 k1
    have d0 : w1.cell? ⟨w.heap.size + 1, 0, none⟩ = some (.bool false) := by simp [World.cell?, k2]
    have e0 : w1.frozen? ⟨w.heap.size + 1, 0, none⟩ = false := by simp [World.frozen?, k2]
    have b1 := q0.trans (hb1.mono q0.size)
    have HB1 := hide b1
    have HBO := hide (hbo.lt (base' := w.heap.size + 2) (by have := HWBS.out; omega))
    have HS := hide hsome
    have k3 := laid_blocks w.heap.size (w.heap.size + 1) (by omega) k id a b (.slice lo ys.length cap) true k1 k2
    have hbo2 : BOwns ((((((w1.setCell ⟨w.heap.size, 0, none⟩ (.int .i64 k)).setCell ⟨w.heap.size, 1, none⟩ (.int .i64 id)).setCell ⟨w.heap.size, 2, none⟩ (.int .i64 a)).setCell ⟨w.heap.size, 3, none⟩ (.int .i64 b)).setCell ⟨w.heap.size, 4, none⟩ (.slice lo ys.length cap)).setCell ⟨w.heap.size + 1, 0, none⟩ (.bool true)) (w.heap.size + 2) lo ys.length cap ys := by
      repeat (refine BOwns.set_below ?_ (by omega))
      exact HBO.out
    have b2 : Below w.heap.size w ((((((w1.setCell ⟨w.heap.size, 0, none⟩ (.int .i64 k)).setCell ⟨w.heap.size, 1, none⟩ (.int .i64 id)).setCell ⟨w.heap.size, 2, none⟩ (.int .i64 a)).setCell ⟨w.heap.size, 3, none⟩ (.int .i64 b)).setCell ⟨w.heap.size, 4, none⟩ (.slice lo ys.length cap)).setCell ⟨w.heap.size + 1, 0, none⟩ (.bool true)) := by
      refine below_set ?_ (by omega) _ _
      repeat (refine below_set ?_ (Nat.le_refl _) _ _)
      exact HB1.out
    have HK3 := hide k3
    have HBO2 := hide hbo2
    have HB2 := hide b2
    clear k1 k2 b1 hb1 hbo hsome k3 hbo2 b2 HBO HB1
    go_wp2
    generalize ((((((w1.setCell ⟨w.heap.size, 0, none⟩ (.int .i64 k)).setCell ⟨w.heap.size, 1, none⟩ (.int .i64 id)).setCell ⟨w.heap.size, 2, none⟩ (.int .i64 a)).setCell ⟨w.heap.size, 3, none⟩ (.int .i64 b)).setCell ⟨w.heap.size, 4, none⟩ (.slice lo ys.length cap)).setCell ⟨w.heap.size + 1, 0, none⟩ (.bool true)) = w2 at *
    refine leaves_cons (f := 76) (args := #[.pointer (some ⟨w.heap.size, 0, none⟩), .pointer (some ⟨w.heap.size + 1, 0, none⟩)]) (by simp) (by simp [go_sem]) ?_
    refine (catch_idle ⟨w.heap.size, 0, none⟩ ⟨w.heap.size + 1, 0, none⟩ _).mono ?_
    rintro e u' w'' ⟨rfl, rfl, rfl⟩
    clear c0 c1 c2 c3 c4 f0 f1 f2 f3 f4 d0 e0
    obtain ⟨⟨c0, c1, c2, c3, c4⟩, -⟩ := cells5 HK3.out.1
    have d0 : w''.cell? ⟨w.heap.size + 1, 0, none⟩ = some (.bool true) := by simp [World.cell?, HK3.out.2]
    have hg : GotP r w (.returned (.tuple #[.agg #[.int .i64 k, .int .i64 id, .int .i64 a, .int .i64 b, .slice lo ys.length cap], .bool true])) w'' := by
      rw [HS.out]
      exact ⟨k, id, a, b, ys, lo, cap, rfl, HBO2.out.lt (by omega), rfl⟩
    have HG := hide hg
    clear hg
    simp [Leaves, settle, results, Tryz.results52, go_sem, c0, c1, c2, c3, c4, d0]
    exact ⟨HG.out, HB2.out⟩

end Go.Proofs.YtamglfhnhjgdjaaGreatDoor
