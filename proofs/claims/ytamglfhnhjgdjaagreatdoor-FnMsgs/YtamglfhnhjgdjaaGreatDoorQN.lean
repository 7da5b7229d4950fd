/-
  The specification's reader of parts, by contracts: a part, a number, a bind.
  The specification's reader of a bind, by contracts.
-/
import Derived.Test.YtamglfhnhjgdjaaGreatDoorSRead
import Derived.Test.YtamglfhnhjgdjaaGreatDoorQK
import Derived.Test.YtamglfhnhjgdjaaGreatDoorQF
import Derived.Test.YtamglfhnhjgdjaaGreatDoorQC
namespace Go.Proofs.YtamglfhnhjgdjaaGreatDoor
open Go.RowKit



set_option maxRecDepth 100000 in
set_option maxHeartbeats 2000000 in
theorem sbind_yes (ao : Option Addr) (n c : Nat) (zs : List Int) (x : BD) (hx : getB zs = some x) (w : World) (hr : Row w ao n c zs) (hs : n ≤ 1048576) :
    Calls Tryz.prog 63 #[.slice ao n c] w fun e w' => ∃ y : BI, e = .returned (.tuple #[.agg #[.slice y.oa y.on y.oc, .int .i64 y.K, .int .i64 y.N, .string y.S, .slice y.za y.zn y.zc], .bool true]) ∧ y.d = x ∧ BNew w' w.heap.size y ∧ Below w.heap.size w w' := by
  obtain ⟨ob, nx, hT, ho, hv⟩ := getB_some hx
  have hzl := hr.size
  have hbl := tlv_short hr.byte hT
  have hfit := getV_fits hr.byte hv
  obtain ⟨o, K, N, S, z⟩ := x
  simp only at ho hv hfit
  rw [hzl] at hv
  have HT := hide hT
  have HO1 := hide (show (getO ob).getD [] = o by rw [ho]; rfl)
  have HO2 := hide (show (getO ob).isSome = true by rw [ho]; rfl)
  have HV := hide hv
  have hR := srd_new w ao n c zs hr hs (.cells #[.slice none 0 0, .int .i64 0, .int .i64 0, .string ⟨#[]⟩, .slice none 0 0] 80)
  have q0 := below_two w (.cells #[.slice none 0 0, .int .i64 0, .int .i64 0, .string ⟨#[]⟩, .slice none 0 0] 80) (.cells #[.slice ao n c, .int .i64 0, .bool false] 64)
  have HKZ : Hid (((w.alloc (.cells #[.slice none 0 0, .int .i64 0, .int .i64 0, .string ⟨#[]⟩, .slice none 0 0] 80)).alloc (.cells #[.slice ao n c, .int .i64 0, .bool false] 64)).heap[w.heap.size]? = some (.cells #[.slice none 0 0, .int .i64 0, .int .i64 0, .string ⟨#[]⟩, .slice none 0 0] 80)) := hide (kept_block (block_last w _) (below_one _ _))
  clear hx hT ho hv
  go_enter Tryz.func63, Tryz.ntmps63
  go_wp2_with fail
  generalize hwb : ((w.alloc (.cells #[.slice none 0 0, .int .i64 0, .int .i64 0, .string ⟨#[]⟩, .slice none 0 0] 80)).alloc (.cells #[.slice ao n c, .int .i64 0, .bool false] 64)) = wb at *
  have hwbs : wb.heap.size = w.heap.size + 2 := by rw [← hwb]; simp
  have HWBS := hide hwbs
  clear hwb hwbs
  refine (spart_good (w.heap.size + 1) ao n c zs 0 6 ob nx HT.out _ hR).mono ?_
  rintro e w1 ⟨bo, bc, rfl, r1, h1, g1, -⟩
  have hn1 := g1.size
  have kz1 := kept_grown HKZ.out g1 (fun k hk => by cases hk; omega)
  have u1 := belowGr q0 g1 (by omega)
  go_wp2_with fail
  refine (specGet_row _ _ _ ob o true HO1.out HO2.out _ r1 (by omega)).mono ?_
  rintro e w2 ⟨ao2, cp2, rfl, o2, r2, hb2⟩
  have kz2 := kept_block kz1 hb2
  have h2 := h1.below hb2
  have u2 := u1.trans (hb2.mono u1.size)
  have hn2 := hb2.size
  obtain ⟨⟨c0, c1, c2⟩, f0, f1, f2⟩ := cells3 h2.box
  clear hR g1 kz1 u1 h1 hb2 r1
  go_wp2_with fail
  refine (specGetVal_made _ _ _ zs nx K N S z _ true HV.out _ (hr.below u2) (by omega)).mono ?_
  rintro e w3 ⟨ao3, cp3, rfl, o3, r3, hb3⟩
  have q3 := below_one w3 (.cells #[.int .i64 K, .int .i64 N, .string S, .slice ao3 z.length cp3] 77)
  have t3 := hb3.trans (q3.mono hb3.size)
  have kz3 := kept_block kz2 t3
  have h3 := h2.below t3
  have u3 := u2.trans (t3.mono u2.size)
  clear c0 c1 c2 f0 f1 f2
  obtain ⟨⟨c0, c1, c2⟩, f0, f1, f2⟩ := cells3 h3.box
  obtain ⟨⟨d0, d1, d2, d3, d4⟩, e0', e1, e2, e3, e4⟩ := cells5 kz3
  obtain ⟨⟨i0, i1, i2, i3⟩, -⟩ := cells4 (block_last w3 (.cells #[.int .i64 K, .int .i64 N, .string S, .slice ao3 z.length cp3] 77))
  have hs3 := hb3.size
  have hwb2 := HWBS.out
  have O2 := hide (own_lt (own_below o2 t3) (base' := w.heap.size + 1) (by omega))
  have O3 := hide (own_lt (own_below o3 q3) (base' := w.heap.size + 1) (by omega))
  have HND := hide (blks_new (x := ⟨ao2, o.length, cp2, o, K, N, S, ao3, z.length, cp3, z⟩) o2 o3 (Nat.le_refl _))
  have hb2' := r2.byte
  have hb3' := r3.byte
  have HU := hide u3
  have m1 : ¬ w3.heap.size = w.heap.size := by omega
  clear hb3 t3 kz3 h3 u3 kz2 h2 u2 o3 r3 o2 r2 hwb2
  go_wp2_with fail
  generalize (w3.alloc (.cells #[.int .i64 K, .int .i64 N, .string S, .slice ao3 z.length cp3] 77)) = w3a at *
  generalize w3.heap.size = nb at *
  go_wp2
  refine bodyPost_ret (v := .tuple #[.agg #[.slice ao2 o.length cp2, .int .i64 K, .int .i64 N, .string S, .slice ao3 z.length cp3], .bool true]) (by simp [results, Tryz.results63, go_sem, *]) rfl ⟨⟨ao2, o.length, cp2, o, K, N, S, ao3, z.length, cp3, z⟩, rfl, rfl, ⟨⟨?_, ?_, hb2', hb3', hfit.1⟩, HND.out⟩, ?_⟩
  · refine own_lt (base := w.heap.size + 1) ?_ (by omega)
    repeat (refine own_set ?_ (by omega))
    exact O2.out
  · refine own_lt (base := w.heap.size + 1) ?_ (by omega)
    repeat (refine own_set ?_ (by omega))
    exact O3.out
  · repeat (refine below_set ?_ (Nat.le_refl _) _ _)
    exact HU.out

set_option maxRecDepth 100000 in
set_option maxHeartbeats 2000000 in
theorem sbind_no (ao : Option Addr) (n c : Nat) (zs : List Int) (hx : getB zs = none) (w : World) (hr : Row w ao n c zs) (hs : n ≤ 1048576) :
    Calls Tryz.prog 63 #[.slice ao n c] w fun e w' => e = .returned (.tuple #[.agg #[.slice none 0 0, .int .i64 0, .int .i64 0, .string ⟨#[]⟩, .slice none 0 0], .bool false]) ∧ Below w.heap.size w w' := by
  have hzl := hr.size
  have hby := hr.byte
  have hR := srd_new w ao n c zs hr hs (.cells #[.slice none 0 0, .int .i64 0, .int .i64 0, .string ⟨#[]⟩, .slice none 0 0] 80)
  have q0 := below_two w (.cells #[.slice none 0 0, .int .i64 0, .int .i64 0, .string ⟨#[]⟩, .slice none 0 0] 80) (.cells #[.slice ao n c, .int .i64 0, .bool false] 64)
  have HKZ : Hid (((w.alloc (.cells #[.slice none 0 0, .int .i64 0, .int .i64 0, .string ⟨#[]⟩, .slice none 0 0] 80)).alloc (.cells #[.slice ao n c, .int .i64 0, .bool false] 64)).heap[w.heap.size]? = some (.cells #[.slice none 0 0, .int .i64 0, .int .i64 0, .string ⟨#[]⟩, .slice none 0 0] 80)) := hide (kept_block (block_last w _) (below_one _ _))
  rcases getB_none hx with (hno | ⟨ob, nx, hT, ho⟩) | ⟨ob, nx, o, K, N, S, z, e0, ok, hT, ho, hv, hbad⟩
  · have HNO := hide hno
    obtain ⟨O0, hO0⟩ : ∃ O, (getO []).getD [] = O := ⟨_, rfl⟩
    obtain ⟨b0, hb0⟩ : ∃ b, (getO []).isSome = b := ⟨_, rfl⟩
    have HO1 := hide hO0
    have HO2 := hide hb0
    clear hO0 hb0
    rcases hv : getV zs 0 with ⟨K, N, S, z, e0, ok⟩
    have HV := hide hv
    clear hx hno hv
    go_enter Tryz.func63, Tryz.ntmps63
    go_wp2_with fail
    generalize hwb : ((w.alloc (.cells #[.slice none 0 0, .int .i64 0, .int .i64 0, .string ⟨#[]⟩, .slice none 0 0] 80)).alloc (.cells #[.slice ao n c, .int .i64 0, .bool false] 64)) = wb at *
    have hwbs : wb.heap.size = w.heap.size + 2 := by rw [← hwb]; simp
    have HWBS := hide hwbs
    clear hwb hwbs
    refine (spart_bad (w.heap.size + 1) ao n c zs 0 6 false (.inr HNO.out) _ hR).mono ?_
    rintro e w1 ⟨bo, bc, rfl, r1, h1, g1⟩
    have hn1 := g1.size
    have kz1 := kept_grown HKZ.out g1 (fun k hk => by cases hk; omega)
    have u1 := belowGr q0 g1 (by omega)
    go_wp2_with fail
    refine (specGet_row _ _ _ [] O0 b0 HO1.out HO2.out _ r1 (by omega)).mono ?_
    rintro e w2 ⟨ao2, cp2, rfl, o2, r2, hb2⟩
    have kz2 := kept_block kz1 hb2
    have h2 := h1.below hb2
    have u2 := u1.trans (hb2.mono u1.size)
    have hn2 := hb2.size
    obtain ⟨⟨c0, c1, c2⟩, f0, f1, f2⟩ := cells3 h2.box
    clear hR g1 kz1 u1 h1 hb2 r1
    go_wp2_with fail
    refine (specGetVal_made _ _ _ zs 0 K N S z e0 ok HV.out _ (hr.below u2) (by omega)).mono ?_
    rintro e w3 ⟨ao3, cp3, rfl, o3, r3, hb3⟩
    have q3 := below_one w3 (.cells #[.int .i64 K, .int .i64 N, .string S, .slice ao3 z.length cp3] 77)
    have t3 := hb3.trans (q3.mono hb3.size)
    have kz3 := kept_block kz2 t3
    have h3 := h2.below t3
    have u3 := u2.trans (t3.mono u2.size)
    clear c0 c1 c2 f0 f1 f2
    obtain ⟨⟨c0, c1, c2⟩, f0, f1, f2⟩ := cells3 h3.box
    obtain ⟨⟨d0, d1, d2, d3, d4⟩, e0', e1, e2, e3, e4⟩ := cells5 kz3
    have HU := hide u3
    clear hb3 t3 kz3 h3 u3 kz2 h2 u2 o3 r3 o2 r2
    go_wp2_with fail
    generalize (w3.alloc (.cells #[.int .i64 K, .int .i64 N, .string S, .slice ao3 z.length cp3] 77)) = w3a at *
    go_wp2
    refine bodyPost_ret (v := .tuple #[.agg #[.slice none 0 0, .int .i64 0, .int .i64 0, .string ⟨#[]⟩, .slice none 0 0], .bool false]) (by simp [results, Tryz.results63, go_sem, *]) rfl ⟨rfl, ?_⟩
    repeat (refine below_set ?_ (Nat.le_refl _) _ _)
    exact HU.out
  · have hbl := tlv_short hby hT
    have HT := hide hT
    have HO1 := hide (show (getO ob).getD [] = [] by rw [ho]; rfl)
    have HO2 := hide (show (getO ob).isSome = false by rw [ho]; rfl)
    rcases hv : getV zs nx with ⟨K, N, S, z, e0, ok⟩
    have HV := hide hv
    clear hx hT ho hv
    go_enter Tryz.func63, Tryz.ntmps63
    go_wp2_with fail
    generalize hwb : ((w.alloc (.cells #[.slice none 0 0, .int .i64 0, .int .i64 0, .string ⟨#[]⟩, .slice none 0 0] 80)).alloc (.cells #[.slice ao n c, .int .i64 0, .bool false] 64)) = wb at *
    have hwbs : wb.heap.size = w.heap.size + 2 := by rw [← hwb]; simp
    have HWBS := hide hwbs
    clear hwb hwbs
    refine (spart_good (w.heap.size + 1) ao n c zs 0 6 ob nx HT.out _ hR).mono ?_
    rintro e w1 ⟨bo, bc, rfl, r1, h1, g1, -⟩
    have hn1 := g1.size
    have kz1 := kept_grown HKZ.out g1 (fun k hk => by cases hk; omega)
    have u1 := belowGr q0 g1 (by omega)
    go_wp2_with fail
    refine (specGet_row _ _ _ ob [] false HO1.out HO2.out _ r1 (by omega)).mono ?_
    rintro e w2 ⟨ao2, cp2, rfl, o2, r2, hb2⟩
    have kz2 := kept_block kz1 hb2
    have h2 := h1.below hb2
    have u2 := u1.trans (hb2.mono u1.size)
    have hn2 := hb2.size
    obtain ⟨⟨c0, c1, c2⟩, f0, f1, f2⟩ := cells3 h2.box
    clear hR g1 kz1 u1 h1 hb2 r1
    go_wp2_with fail
    refine (specGetVal_made _ _ _ zs nx K N S z e0 ok HV.out _ (hr.below u2) (by omega)).mono ?_
    rintro e w3 ⟨ao3, cp3, rfl, o3, r3, hb3⟩
    have q3 := below_one w3 (.cells #[.int .i64 K, .int .i64 N, .string S, .slice ao3 z.length cp3] 77)
    have t3 := hb3.trans (q3.mono hb3.size)
    have kz3 := kept_block kz2 t3
    have h3 := h2.below t3
    have u3 := u2.trans (t3.mono u2.size)
    clear c0 c1 c2 f0 f1 f2
    obtain ⟨⟨c0, c1, c2⟩, f0, f1, f2⟩ := cells3 h3.box
    obtain ⟨⟨d0, d1, d2, d3, d4⟩, e0', e1, e2, e3, e4⟩ := cells5 kz3
    have HU := hide u3
    clear hb3 t3 kz3 h3 u3 kz2 h2 u2 o3 r3 o2 r2
    go_wp2_with fail
    generalize (w3.alloc (.cells #[.int .i64 K, .int .i64 N, .string S, .slice ao3 z.length cp3] 77)) = w3a at *
    go_wp2
    refine bodyPost_ret (v := .tuple #[.agg #[.slice none 0 0, .int .i64 0, .int .i64 0, .string ⟨#[]⟩, .slice none 0 0], .bool false]) (by simp [results, Tryz.results63, go_sem, *]) rfl ⟨rfl, ?_⟩
    repeat (refine below_set ?_ (Nat.le_refl _) _ _)
    exact HU.out
  · have hbl := tlv_short hby hT
    have HT := hide hT
    have HO1 := hide (show (getO ob).getD [] = o by rw [ho]; rfl)
    have HO2 := hide (show (getO ob).isSome = true by rw [ho]; rfl)
    have HV := hide hv
    have hbad' : ok = false ∨ (ok = true ∧ (e0 != (n : Int)) = true) := by
      cases ok
      · exact .inl rfl
      · rcases hbad with h | h
        · cases h
        · exact .inr ⟨rfl, by rw [← hzl]; simpa using h⟩
    clear hx hT ho hv hbad
    rcases hbad' with rfl | ⟨rfl, hne0⟩
    all_goals
      go_enter Tryz.func63, Tryz.ntmps63
      go_wp2_with fail
      generalize hwb : ((w.alloc (.cells #[.slice none 0 0, .int .i64 0, .int .i64 0, .string ⟨#[]⟩, .slice none 0 0] 80)).alloc (.cells #[.slice ao n c, .int .i64 0, .bool false] 64)) = wb at *
      have hwbs : wb.heap.size = w.heap.size + 2 := by rw [← hwb]; simp
      have HWBS := hide hwbs
      clear hwb hwbs
      refine (spart_good (w.heap.size + 1) ao n c zs 0 6 ob nx HT.out _ hR).mono ?_
      rintro e w1 ⟨bo, bc, rfl, r1, h1, g1, -⟩
      have hn1 := g1.size
      have kz1 := kept_grown HKZ.out g1 (fun k hk => by cases hk; omega)
      have u1 := belowGr q0 g1 (by omega)
      go_wp2_with fail
      refine (specGet_row _ _ _ ob o true HO1.out HO2.out _ r1 (by omega)).mono ?_
      rintro e w2 ⟨ao2, cp2, rfl, o2, r2, hb2⟩
      have kz2 := kept_block kz1 hb2
      have h2 := h1.below hb2
      have u2 := u1.trans (hb2.mono u1.size)
      have hn2 := hb2.size
      obtain ⟨⟨c0, c1, c2⟩, f0, f1, f2⟩ := cells3 h2.box
      clear hR g1 kz1 u1 h1 hb2 r1
      go_wp2_with fail
      refine (specGetVal_made _ _ _ zs nx K N S z e0 _ HV.out _ (hr.below u2) (by omega)).mono ?_
      rintro e w3 ⟨ao3, cp3, rfl, o3, r3, hb3⟩
      have q3 := below_one w3 (.cells #[.int .i64 K, .int .i64 N, .string S, .slice ao3 z.length cp3] 77)
      have t3 := hb3.trans (q3.mono hb3.size)
      have kz3 := kept_block kz2 t3
      have h3 := h2.below t3
      have u3 := u2.trans (t3.mono u2.size)
      clear c0 c1 c2 f0 f1 f2
      obtain ⟨⟨c0, c1, c2⟩, f0, f1, f2⟩ := cells3 h3.box
      obtain ⟨⟨d0, d1, d2, d3, d4⟩, e0', e1, e2, e3, e4⟩ := cells5 kz3
      have HU := hide u3
      clear hb3 t3 kz3 h3 u3 kz2 h2 u2 o3 r3 o2 r2
      go_wp2_with fail
      generalize (w3.alloc (.cells #[.int .i64 K, .int .i64 N, .string S, .slice ao3 z.length cp3] 77)) = w3a at *
      go_wp2
      refine bodyPost_ret (v := .tuple #[.agg #[.slice none 0 0, .int .i64 0, .int .i64 0, .string ⟨#[]⟩, .slice none 0 0], .bool false]) (by simp [results, Tryz.results63, go_sem, *]) rfl ⟨rfl, ?_⟩
      repeat (refine below_set ?_ (Nat.le_refl _) _ _)
      exact HU.out

end Go.Proofs.YtamglfhnhjgdjaaGreatDoor
