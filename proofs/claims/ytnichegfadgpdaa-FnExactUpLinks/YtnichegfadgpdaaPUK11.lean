/-
  Packed: NetMarkG NetMarkN NetMarkM.
-/
import Derived.Test.YtnichegfadgpdaaPUK01
import Derived.Test.YtnichegfadgpdaaPUK10
import Derived.Deep.RegionHeld3
namespace Go.Proofs.Ytnichegfadgpdaa
open Go.RowKit

theorem endVs_app (a b : List BV) : ∀ K, endVs K (a ++ b) = endVs (endVs K a) b := by
 induction a with
 | nil => intro K; rfl
 | cons y r ih => intro K; simp only [List.cons_append, endVs, ih]
theorem endVs_up (a : List BV) : ∀ K, K ≤ endVs K a := by
 induction a with
 | nil => intro K; exact Int.le_refl _
 | cons y r ih =>
  intro K
  have := ih (endV K y)
  simp only [endVs]
  unfold endV endW at this ⊢
  omega
theorem endVs_in {l : List BV} {j : Nat} {x : BV} (h : l[j]? = some x) (K : Int) : K ≤ endVs K (l.take j) ∧ endV (endVs K (l.take j)) x ≤ endVs K l := by
 refine ⟨endVs_up _ K, ?_⟩
 have e : l = (l.take j ++ [x]) ++ l.drop (j + 1) := by
  obtain ⟨hj, rfl⟩ := List.getElem?_eq_some_iff.1 h
  rw [List.append_assoc, List.singleton_append, ← List.drop_eq_getElem_cons hj, List.take_append_drop]
 have e2 : endVs K l = endVs (endVs K (l.take j ++ [x])) (l.drop (j + 1)) := by rw [← endVs_app, ← e]
 rw [e2, endVs_snoc]
 exact endVs_up _ _
theorem endVs_len (a : List BV) : ∀ K, K + a.length ≤ endVs K a := by
 induction a with
 | nil => intro K; simp [endVs]
 | cons y r ih =>
  intro K
  have := ih (endV K y)
  simp only [endVs, List.length_cons]
  unfold endV endW at this ⊢
  omega
theorem endVs_sum (l : List BV) : ∀ K, endVs K l ≤ K + 8 * ((l.map fun x => 1 + x.n + x.fn + x.rn + x.on).sum : Nat) := by
 induction l with
 | nil => intro K; simp [endVs]
 | cons y r ih =>
  intro K
  have := ih (endV K y)
  simp only [endVs, List.map_cons, List.sum_cons]
  unfold endV endW at this ⊢
  omega

set_option maxRecDepth 100000 in
set_option maxHeartbeats 8000000 in
theorem markBig_at (base g n cap : Nat) (l : List BV) (K0 : Int) (w : World) (h : BOs w base (some ⟨g, 0, none⟩) n cap l) (hk0 : 0 < K0) (hT : endVs K0 l ≤ 16777216) :
  Calls Try.prog 27 #[.slice (some ⟨g, 0, none⟩) n cap, .int .i64 K0] w fun e w' => e = .returned (.int .i64 (endVs K0 l)) ∧ BOs w' base (some ⟨g, 0, none⟩) n cap (markVs K0 l) ∧ Only (allB (some ⟨g, 0, none⟩) l) w w' := by
 have hl : l.length = n := h.grow.size
 have hn : n ≤ 16777216 := by have := endVs_len l K0; omega
 go_enter Try.func27, Try.ntmps27
 go_wp2
 go_loopw [1, 5] (fun m i wr => ∃ j : Nat, j ≤ n ∧ i = .int .i64 j ∧ m = .int .i64 (endVs K0 (l.take j)) ∧ BOs wr base (some ⟨g, 0, none⟩) n cap (markVs K0 (l.take j) ++ l.drop j) ∧ Only (allB (some ⟨g, 0, none⟩) l) w wr) (fun _ i _ => n - (intOf i).toNat)
 case atStart => exact ⟨0, Nat.zero_le _, rfl, rfl, by simpa [markVs] using h, Only.refl _ _⟩
 case round =>
  obtain ⟨j, hj, rfl, rfl, st, O⟩ := hrel
  by_cases hlt : j < n
  ·obtain ⟨x, hx⟩ : ∃ x, l[j]? = some x := ⟨l[j]'(by omega), List.getElem?_eq_getElem (by omega)⟩
   have hdr : l.drop j = x :: l.drop (j + 1) := by
    obtain ⟨h, rfl⟩ := List.getElem?_eq_some_iff.1 hx
    exact List.drop_eq_getElem_cons h
   have htk : l.take (j + 1) = l.take j ++ [x] := by rw [List.take_add_one, hx]; rfl
   have hmem := List.mem_of_getElem? hx
   have hKb := endVs_in hx K0
   unfold endV endW at hKb
   have HM : Hid (markVs K0 (l.take (j + 1)) = markVs K0 (l.take j) ++ [markV (endVs K0 (l.take j)) x]) := hide (by rw [htk, markVs_snoc])
   have HE : Hid (endVs K0 (l.take (j + 1)) = endV (endVs K0 (l.take j)) x) := hide (by rw [htk, endVs_snoc])
   have HJ : Hid ((markVs K0 (l.take j)).length = j) := hide (by rw [markVs_length, List.length_take]; omega)
   have HIN : Hid (∀ b ∈ x.blks, b ∈ allB (some ⟨g, 0, none⟩) l) := hide (fun b hb => List.mem_append_right _ (List.mem_flatMap.2 ⟨x, hmem, hb⟩))
   have HG : Hid (∀ b ∈ ([g] : List Nat), b ∈ allB (some ⟨g, 0, none⟩) l) := hide (fun b hb => List.mem_append_left _ (by simpa [blkL] using hb))
   rw [hdr] at st
   generalize hpr : markVs K0 (l.take j) = pre at *
   generalize hpo : l.drop (j + 1) = post at *
   generalize hK : endVs K0 (l.take j) = K at *
   have HAT : Hid (∀ z : BV, (pre ++ z :: post)[j]? = some z) := hide (fun z => by rw [List.getElem?_append_right (by have := HJ.out; omega), HJ.out, Nat.sub_self]; rfl)
   have HPO := hide hpo
   have i1 : (0 : Int) ≤ (j : Int) := by omega
   have i2 : (j : Int) < (n : Int) := by omega
   have k1 : 0 < K ∧ K ≤ 16777216 := by omega
   have k2 : K + 1 + 1 + 8 * (x.n : Int) + 5 * (x.fn : Int) + 3 * (x.rn : Int) + (x.on : Int) ≤ 16777216 := by omega
   clear hx hdr htk hKb hpr hpo hK hmem
   obtain ⟨⟨t0, t1, t2, t3, t4, t5, t6, t7, t8, t9, t10⟩, f0, f1, f2, f3, f4, f5, f6, f7, f8, f9, f10⟩ := bridge_cells st.row (HAT.out x)
   generalize hw1 : wr.setCell ⟨g, j * 11, none⟩ (.int .i64 K) = w1
   have st1 : BOs w1 base (some ⟨g, 0, none⟩) n cap (pre ++ ({ x with B := { x.B with id := K } } : BV) :: post) := by rw [← hw1]; exact st.cell (jj := 0) (by decide) (by have := HJ.out; omega) rfl rfl (fun h => ⟨h.ports, h.f, h.v⟩)
   have O1 : Only (allB (some ⟨g, 0, none⟩) l) w w1 := by rw [← hw1]; exact only_in O (Only.set _ _ _ _) HG.out
   go_wp2_with fail
   refine (markText_any (K + 1) _ (by omega) (by omega)).mono ?_
   rintro e w2 ⟨rfl, hms, hb2⟩
   have st2 := st1.below hb2
   have O2 := only_in O1 (Only.of_below (bs := []) hb2) (by intro b hb; cases hb)
   clear hw1 st st1 O O1 hb2 hms t0 t1 t2 t3 t4 t5 t6 t7 t8 t9 t10 f0 f1 f2 f3 f4 f5 f6 f7 f8 f9 f10
   obtain ⟨⟨t0, t1, t2, t3, t4, t5, t6, t7, t8, t9, t10⟩, f0, f1, f2, f3, f4, f5, f6, f7, f8, f9, f10⟩ := bridge_cells st2.row (HAT.out ({ x with B := { x.B with id := K } } : BV))
   generalize hw3 : w2.setCell ⟨g, j * 11 + 1, none⟩ (.string (mtx (K + 1))) = w3
   have st3 : BOs w3 base (some ⟨g, 0, none⟩) n cap (pre ++ ({ x with B := { x.B with id := K, name := mtx (K + 1) } } : BV) :: post) := by rw [← hw3]; exact st2.cell (jj := 1) (by decide) (by have := HJ.out; omega) rfl rfl (fun h => ⟨h.ports, h.f, h.v⟩)
   have O3 : Only (allB (some ⟨g, 0, none⟩) l) w w3 := by rw [← hw3]; exact only_in O2 (Only.set _ _ _ _) HG.out
   have ow := st3.mid
   obtain ⟨⟨t0, t1, t2, t3, t4, t5, t6, t7, t8, t9, t10⟩, f0, f1, f2, f3, f4, f5, f6, f7, f8, f9, f10⟩ := bridge_cells st3.row (HAT.out ({ x with B := { x.B with id := K, name := mtx (K + 1) } } : BV))
   go_wp2_with fail
   refine (markPts_grown base x.a x.n x.c x.B.ports (K + 1 + 1) _ ow.ports (by omega) (by omega) (by omega)).mono ?_
   rintro e w4 ⟨rfl, o4, hg4⟩
   have st4 : BOs w4 base (some ⟨g, 0, none⟩) n cap (pre ++ ({ x with B := { x.B with id := K, name := mtx (K + 1), ports := markPs (K + 1 + 1) x.n } } : BV) :: post) := st3.inner (Only.of_grown hg4) (fun b hb => mem_blks.2 (.inl hb)) rfl rfl ⟨o4, gown_type ow.f ow.ports (by decide) hg4, ⟨gown_type ow.v.rows ow.ports (by decide) hg4, gown_type ow.v.own ow.ports (by decide) hg4, ow.v.i64⟩⟩
   have O4 := only_in O3 (Only.of_grown hg4) (fun b hb => HIN.out b (mem_blks.2 (.inl hb)))
   clear hw3 st2 st3 O2 O3 o4 hg4 ow t0 t1 t2 t3 t4 t5 t6 t7 t8 t9 t10 f0 f1 f2 f3 f4 f5 f6 f7 f8 f9 f10
   have ow := st4.mid
   obtain ⟨⟨t0, t1, t2, t3, t4, t5, t6, t7, t8, t9, t10⟩, f0, f1, f2, f3, f4, f5, f6, f7, f8, f9, f10⟩ := bridge_cells st4.row (HAT.out ({ x with B := { x.B with id := K, name := mtx (K + 1), ports := markPs (K + 1 + 1) x.n } } : BV))
   go_wp2_with fail
   refine (markFents_grown base x.fa x.fn x.fc x.B.f (K + 1 + 1 + 8 * x.n) _ ow.f (by omega) (by omega) (by omega)).mono ?_
   rintro e w5 ⟨rfl, o5, hg5⟩
   have st5 : BOs w5 base (some ⟨g, 0, none⟩) n cap (pre ++ ({ x with B := { x.B with id := K, name := mtx (K + 1), ports := markPs (K + 1 + 1) x.n, f := markEs (K + 1 + 1 + 8 * x.n) x.fn } } : BV) :: post) := st4.inner (Only.of_grown hg5) (fun b hb => mem_blks.2 (.inr (.inl hb))) rfl rfl ⟨gown_type ow.ports ow.f (by decide) hg5, o5, ⟨gown_type ow.v.rows ow.f (by decide) hg5, gown_type ow.v.own ow.f (by decide) hg5, ow.v.i64⟩⟩
   have O5 := only_in O4 (Only.of_grown hg5) (fun b hb => HIN.out b (mem_blks.2 (.inr (.inl hb))))
   clear st4 O4 o5 hg5 ow t0 t1 t2 t3 t4 t5 t6 t7 t8 t9 t10 f0 f1 f2 f3 f4 f5 f6 f7 f8 f9 f10
   have ow := st5.mid
   obtain ⟨⟨t0, t1, t2, t3, t4, t5, t6, t7, t8, t9, t10⟩, f0, f1, f2, f3, f4, f5, f6, f7, f8, f9, f10⟩ := bridge_cells st5.row (HAT.out ({ x with B := { x.B with id := K, name := mtx (K + 1), ports := markPs (K + 1 + 1) x.n, f := markEs (K + 1 + 1 + 8 * x.n) x.fn } } : BV))
   go_wp2_with fail
   refine (markVrows_grown base x.ra x.rn x.rc x.B.v.rows (K + 1 + 1 + 8 * x.n + 5 * x.fn) _ ow.v.rows (by omega) (by omega) (by omega)).mono ?_
   rintro e w6 ⟨rfl, o6, hg6⟩
   have st6 : BOs w6 base (some ⟨g, 0, none⟩) n cap (pre ++ ({ x with B := { x.B with id := K, name := mtx (K + 1), ports := markPs (K + 1 + 1) x.n, f := markEs (K + 1 + 1 + 8 * x.n) x.fn, v := ⟨markRs (K + 1 + 1 + 8 * x.n + 5 * x.fn) x.rn, x.B.v.own⟩ } } : BV) :: post) := st5.inner (Only.of_grown hg6) (fun b hb => mem_blks.2 (.inr (.inr (.inl hb)))) rfl rfl ⟨gown_type ow.ports ow.v.rows (by decide) hg6, gown_type ow.f ow.v.rows (by decide) hg6, ⟨o6, gown_type ow.v.own ow.v.rows (by decide) hg6, ow.v.i64⟩⟩
   have O6 := only_in O5 (Only.of_grown hg6) (fun b hb => HIN.out b (mem_blks.2 (.inr (.inr (.inl hb)))))
   clear st5 O5 o6 hg6 ow t0 t1 t2 t3 t4 t5 t6 t7 t8 t9 t10 f0 f1 f2 f3 f4 f5 f6 f7 f8 f9 f10
   have ow := st6.mid
   obtain ⟨⟨t0, t1, t2, t3, t4, t5, t6, t7, t8, t9, t10⟩, f0, f1, f2, f3, f4, f5, f6, f7, f8, f9, f10⟩ := bridge_cells st6.row (HAT.out ({ x with B := { x.B with id := K, name := mtx (K + 1), ports := markPs (K + 1 + 1) x.n, f := markEs (K + 1 + 1 + 8 * x.n) x.fn, v := ⟨markRs (K + 1 + 1 + 8 * x.n + 5 * x.fn) x.rn, x.B.v.own⟩ } } : BV))
   go_wp2_with fail
   refine (markI_grown base x.oa x.on x.oc x.B.v.own (K + 1 + 1 + 8 * x.n + 5 * x.fn + 3 * x.rn) _ ow.v.own (by omega) (by omega) (by omega)).mono ?_
   rintro e w7 ⟨rfl, o7, hg7⟩
   have st7 : BOs w7 base (some ⟨g, 0, none⟩) n cap (pre ++ ({ x with B := { x.B with id := K, name := mtx (K + 1), ports := markPs (K + 1 + 1) x.n, f := markEs (K + 1 + 1 + 8 * x.n) x.fn, v := ⟨markRs (K + 1 + 1 + 8 * x.n + 5 * x.fn) x.rn, marksI (K + 1 + 1 + 8 * x.n + 5 * x.fn + 3 * x.rn) x.on⟩ } } : BV) :: post) := st6.inner (Only.of_grown hg7) (fun b hb => mem_blks.2 (.inr (.inr (.inr hb)))) rfl rfl ⟨gown_type ow.ports ow.v.own (by decide) hg7, gown_type ow.f ow.v.own (by decide) hg7, ⟨gown_type ow.v.rows ow.v.own (by decide) hg7, o7, marksI_byte _ _ (by omega) (by omega) (by omega)⟩⟩
   have O7 := only_in O6 (Only.of_grown hg7) (fun b hb => HIN.out b (mem_blks.2 (.inr (.inr (.inr hb)))))
   clear st6 O6 o7 hg7 ow t0 t1 t2 t3 t4 t5 t6 t7 t8 t9 t10 f0 f1 f2 f3 f4 f5 f6 f7 f8 f9 f10
   obtain ⟨EE, hEE⟩ : ∃ EE, EE = endW K x := ⟨_, rfl⟩
   have hEv : K + 1 + 1 + 8 * (x.n : Int) + 5 * (x.fn : Int) + 3 * (x.rn : Int) + (x.on : Int) = EE := by rw [hEE]; rfl
   have e1 : 0 < EE ∧ EE ≤ 16777216 := by omega
   obtain ⟨⟨t0, t1, t2, t3, t4, t5, t6, t7, t8, t9, t10⟩, f0, f1, f2, f3, f4, f5, f6, f7, f8, f9, f10⟩ := bridge_cells st7.row (HAT.out ({ x with B := { x.B with id := K, name := mtx (K + 1), ports := markPs (K + 1 + 1) x.n, f := markEs (K + 1 + 1 + 8 * x.n) x.fn, v := ⟨markRs (K + 1 + 1 + 8 * x.n + 5 * x.fn) x.rn, marksI (K + 1 + 1 + 8 * x.n + 5 * x.fn + 3 * x.rn) x.on⟩ } } : BV))
   have st8 := st7.cell (u := .int .i64 EE) (x' := ({ x with B := { x.B with id := K, name := mtx (K + 1), ports := markPs (K + 1 + 1) x.n, f := markEs (K + 1 + 1 + 8 * x.n) x.fn, v := ⟨markRs (K + 1 + 1 + 8 * x.n + 5 * x.fn) x.rn, marksI (K + 1 + 1 + 8 * x.n + 5 * x.fn + 3 * x.rn) x.on⟩, ticks := EE } } : BV)) (jj := 6) (a := j * 11 + 6) (by decide) (by have := HJ.out; omega) rfl rfl (fun h => ⟨h.ports, h.f, h.v⟩)
   have st9 := st8.cell (u := .int .i64 (EE + 1)) (x' := ({ x with B := { x.B with id := K, name := mtx (K + 1), ports := markPs (K + 1 + 1) x.n, f := markEs (K + 1 + 1 + 8 * x.n) x.fn, v := ⟨markRs (K + 1 + 1 + 8 * x.n + 5 * x.fn) x.rn, marksI (K + 1 + 1 + 8 * x.n + 5 * x.fn + 3 * x.rn) x.on⟩, ticks := EE, parse := EE + 1 } } : BV)) (jj := 7) (a := j * 11 + 7) (by decide) (by have := HJ.out; omega) rfl rfl (fun h => ⟨h.ports, h.f, h.v⟩)
   have st10 := st9.cell (u := .int .i64 (EE + 1 + 1)) (x' := ({ x with B := { x.B with id := K, name := mtx (K + 1), ports := markPs (K + 1 + 1) x.n, f := markEs (K + 1 + 1 + 8 * x.n) x.fn, v := ⟨markRs (K + 1 + 1 + 8 * x.n + 5 * x.fn) x.rn, marksI (K + 1 + 1 + 8 * x.n + 5 * x.fn + 3 * x.rn) x.on⟩, ticks := EE, parse := EE + 1, word := EE + 1 + 1 } } : BV)) (jj := 8) (a := j * 11 + 8) (by decide) (by have := HJ.out; omega) rfl rfl (fun h => ⟨h.ports, h.f, h.v⟩)
   have st11 := st10.cell (u := .int .i64 (EE + 1 + 1 + 1)) (x' := ({ x with B := { x.B with id := K, name := mtx (K + 1), ports := markPs (K + 1 + 1) x.n, f := markEs (K + 1 + 1 + 8 * x.n) x.fn, v := ⟨markRs (K + 1 + 1 + 8 * x.n + 5 * x.fn) x.rn, marksI (K + 1 + 1 + 8 * x.n + 5 * x.fn + 3 * x.rn) x.on⟩, ticks := EE, parse := EE + 1, word := EE + 1 + 1, drops := EE + 1 + 1 + 1 } } : BV)) (jj := 9) (a := j * 11 + 9) (by decide) (by have := HJ.out; omega) rfl rfl (fun h => ⟨h.ports, h.f, h.v⟩)
   have st12 := st11.cell (u := .int .i64 (EE + 1 + 1 + 1 + 1)) (x' := ({ x with B := { x.B with id := K, name := mtx (K + 1), ports := markPs (K + 1 + 1) x.n, f := markEs (K + 1 + 1 + 8 * x.n) x.fn, v := ⟨markRs (K + 1 + 1 + 8 * x.n + 5 * x.fn) x.rn, marksI (K + 1 + 1 + 8 * x.n + 5 * x.fn + 3 * x.rn) x.on⟩, ticks := EE, parse := EE + 1, word := EE + 1 + 1, drops := EE + 1 + 1 + 1, vers := EE + 1 + 1 + 1 + 1 } } : BV)) (jj := 10) (a := j * 11 + 10) (by decide) (by have := HJ.out; omega) rfl rfl (fun h => ⟨h.ports, h.f, h.v⟩)
   have HST := hide st12
   have HO := hide (only_in (only_in (only_in (only_in (only_in O7 (Only.set _ g (j * 11 + 6) (.int .i64 EE)) HG.out) (Only.set _ g (j * 11 + 7) (.int .i64 (EE + 1))) HG.out) (Only.set _ g (j * 11 + 8) (.int .i64 (EE + 1 + 1))) HG.out) (Only.set _ g (j * 11 + 9) (.int .i64 (EE + 1 + 1 + 1))) HG.out) (Only.set _ g (j * 11 + 10) (.int .i64 (EE + 1 + 1 + 1 + 1))) HG.out)
   have HXX : Hid (({ x with B := { x.B with id := K, name := mtx (K + 1), ports := markPs (K + 1 + 1) x.n, f := markEs (K + 1 + 1 + 8 * x.n) x.fn, v := ⟨markRs (K + 1 + 1 + 8 * x.n + 5 * x.fn) x.rn, marksI (K + 1 + 1 + 8 * x.n + 5 * x.fn + 3 * x.rn) x.on⟩, ticks := EE, parse := EE + 1, word := EE + 1 + 1, drops := EE + 1 + 1 + 1, vers := EE + 1 + 1 + 1 + 1 } } : BV) = markV K x) := hide (by rw [hEE]; rfl)
   have HEV : Hid (endV K x = EE + 1 + 1 + 1 + 1 + 1) := hide (by rw [hEE]; rfl)
   rw [hEv]
   clear st7 st8 st9 st10 st11 st12 O7 hEE
   go_wp2
   go_roundw
   case rel => exact ⟨j + 1, by omega, by go_num, by rw [HE.out, HEV.out], by rw [HM.out, ← HXX.out, List.append_assoc, HPO.out]; exact HST.out, HO.out⟩
   case measure => simp [intOf]; omega
  ·have hj' : j = n := by omega
   subst hj'
   rw [List.drop_eq_nil_of_le (by omega), List.append_nil, List.take_of_length_le (by omega)] at st
   rw [List.take_of_length_le (by omega)]
   have HO := hide st
   have HN := hide O
   clear st O h
   go_wp2
   go_ret
   exact ⟨rfl, HO.out, HN.out⟩

set_option maxRecDepth 100000 in
set_option maxHeartbeats 400000 in
theorem markBridges_nil (k : Int) (c : Nat) (w : World) :
  Calls Try.prog 27 #[.slice none 0 c, .int .i64 k] w fun r w' => r = .returned (.int .i64 k) ∧ w' = w := by
 go_enter Try.func27, Try.ntmps27
 go_wp2
 go_loop [1, 5] (fun m i => m = .int .i64 k ∧ i = .int .i64 0) (fun _ _ => 0)
 case atStart => exact ⟨rfl, rfl⟩
 case round =>
  obtain ⟨rfl, rfl⟩ := hrel
  go_wp2
  go_ret
  exact ⟨rfl, rfl⟩

def markN (M : NV) : NV := { M with bs := markVs 1 M.bs, ls := markLs (endVs 1 M.bs) M.ln }
def endN (M : NV) : Int := endVs 1 M.bs + 4 * M.ln
def NV.blks (M : NV) : List Nat := allB M.ba M.bs ++ blkL M.la

theorem NetOwn.blk {w : World} {base : Nat} {M : NV} (h : NetOwn w base M) : ∀ b ∈ M.blks, base ≤ b ∧ b < w.heap.size := by
 intro b hb
 rcases List.mem_append.1 hb with hb | hb
 ·exact h.b.blk b hb
 ·exact h.l.lt b (mem_blkL.2 hb)

theorem allB_ne {w : World} {base X : Nat} {ao : Option Addr} {n cap : Nat} {l : List BV} {cs : Array Value} {T : TypeId} (h : BOs w base ao n cap l) (hX : w.heap[X]? = some (.cells cs T)) (h0 : (62 : Nat) ≠ T) (h1 : (95 : Nat) ≠ T) (h2 : (128 : Nat) ≠ T) (h3 : (130 : Nat) ≠ T) (h4 : (3 : Nat) ≠ T) : X ∉ allB ao l := by
 intro hm
 rcases List.mem_append.1 hm with hm | hm
 ·exact box_ne h.row hX h0 X (mem_blkL.2 hm) rfl
 ·obtain ⟨x, hx, hb⟩ := List.mem_flatMap.1 hm
  have o := h.item x hx
  rcases mem_blks.1 hb with hb | hb | hb | hb
  ·exact box_ne o.ports hX h1 X (mem_blkL.2 hb) rfl
  ·exact box_ne o.f hX h2 X (mem_blkL.2 hb) rfl
  ·exact box_ne o.v.rows hX h3 X (mem_blkL.2 hb) rfl
  ·exact box_ne o.v.own hX h4 X (mem_blkL.2 hb) rfl

theorem NetOwn.box_apart {w : World} {base X : Nat} {M : NV} {cs : Array Value} (h : NetOwn w base M) (hX : w.heap[X]? = some (.cells cs 34)) : X ∉ M.blks := by
 intro hm
 rcases List.mem_append.1 hm with hm | hm
 ·exact allB_ne h.b hX (by decide) (by decide) (by decide) (by decide) (by decide) hm
 ·exact box_ne h.l hX (by decide) X (mem_blkL.2 hm) rfl

def markSy (k : Int) : SY := ⟨k, (k + 1) % 3 == 0, ⟨k + 1 + 1, k + 1 + 1 + 1, k + 1 + 1 + 1 + 1, k + 1 + 1 + 1 + 1 + 1, k + 1 + 1 + 1 + 1 + 1 + 1⟩⟩
def markSs (k : Int) (n : Nat) : List SY := (List.range n).map fun (i : Nat) => markSy (k + 7 * i)

theorem markSs_length (k : Int) (n : Nat) : (markSs k n).length = n := by simp [markSs]
theorem markSs_succ (k : Int) (j : Nat) : markSs k (j + 1) = markSs k j ++ [markSy (k + 7 * j)] := by simp [markSs, List.range_succ]
theorem markSs_at (k : Int) (n j : Nat) (h : j < n) : (markSs k n)[j]? = some (markSy (k + 7 * j)) := by simp [markSs, List.getElem?_map, List.getElem?_range h]

set_option maxRecDepth 100000 in
set_option maxHeartbeats 2000000 in
theorem markSays_at (base g n cap : Nat) (l : List SY) (k : Int) (w : World) (hown : w.ownsRow base 83 7 (.slice (some ⟨g, 0, none⟩) n cap) n (sayF.all l)) (hn : n ≤ 16777216) (hk0 : 0 ≤ k) (hk1 : k ≤ 1099511627776) :
  Calls Try.prog 29 #[.slice (some ⟨g, 0, none⟩) n cap, .int .i64 k] w fun r w' => r = .returned (.int .i64 (k + 7 * n)) ∧ w'.ownsRow base 83 7 (.slice (some ⟨g, 0, none⟩) n cap) n (sayF.all (markSs k n)) ∧ w.grownBy w' (some g) := by
 have hl : l.length = n := (grow_own (F := sayF) hown).size
 go_enter Try.func29, Try.ntmps29
 go_wp2
 go_loopw [1, 5] (fun m i wr => ∃ j : Nat, j ≤ n ∧ i = .int .i64 j ∧ m = .int .i64 (k + 7 * j) ∧ wr.ownsRow base 83 7 (.slice (some ⟨g, 0, none⟩) n cap) n (sayF.all (markSs k j ++ l.drop j)) ∧ w.grownBy wr (some g)) (fun _ i _ => n - (intOf i).toNat)
 case atStart => exact ⟨0, Nat.zero_le _, rfl, by simp, by simpa [markSs] using hown, World.grownBy.refl _ _⟩
 case round =>
  obtain ⟨j, hj, rfl, rfl, how, hg⟩ := hrel
  by_cases hlt : j < n
  ·obtain ⟨x, hx⟩ : ∃ x, l[j]? = some x := ⟨l[j]'(by omega), List.getElem?_eq_getElem (by omega)⟩
   have hdr : l.drop j = x :: l.drop (j + 1) := by
    obtain ⟨h, rfl⟩ := List.getElem?_eq_some_iff.1 hx
    exact List.drop_eq_getElem_cons h
   rw [hdr] at how
   have hlj := markSs_length k j
   have hz : (markSs k j ++ x :: l.drop (j + 1))[j]? = some x := by rw [List.getElem?_append_right (by omega), hlj, Nat.sub_self]; rfl
   obtain ⟨⟨t0, t1, t2, t3, t4, t5, t6⟩, f0, f1, f2, f3, f4, f5, f6⟩ := say_cells how hz
   have o3 := say_put (y := markSy (k + 7 * j)) how
   rw [hlj] at o3
   have HO3 := hide o3
   have HG := hide (grownTr hg (say_puts (w := wr) (g := g) (j := j * 7) (y := markSy (k + 7 * j))))
   have HM := hide (markSs_succ k j)
   have hm : 0 ≤ k + 7 * (j : Int) ∧ k + 7 * (j : Int) ≤ 2199023255552 := by omega
   clear how hg hown o3 hz hdr
   generalize hK : k + 7 * (j : Int) = K at *
   go_wp2
   go_roundw
   case rel => exact ⟨j + 1, by omega, by go_num, by simp; omega, by rw [HM.out, List.append_assoc]; exact HO3.out, HG.out⟩
   case measure => simp [intOf]; omega
  ·have hj' : j = n := by omega
   subst hj'
   rw [List.drop_eq_nil_of_le (by omega), List.append_nil] at how
   have HO := hide how
   clear how hown
   go_wp2
   go_ret
   exact ⟨rfl, HO.out, hg⟩

theorem markSays_grown (base : Nat) (ao : Option Addr) (n cap : Nat) (l : List SY) (k : Int) (w : World) (hown : w.ownsRow base 83 7 (.slice ao n cap) n (sayF.all l)) (hn : n ≤ 16777216) (hk0 : 0 ≤ k) (hk1 : k ≤ 1099511627776) :
  Calls Try.prog 29 #[.slice ao n cap, .int .i64 k] w fun r w' => r = .returned (.int .i64 (k + 7 * n)) ∧ w'.ownsRow base 83 7 (.slice ao n cap) n (sayF.all (markSs k n)) ∧ w.grownBy w' (Value.slice ao n cap).ownBlock := by
 rcases hown.2 with ⟨e, h0⟩ | ⟨g, cap', cur, e, -⟩
 ·cases e
  refine (markSays_nil k 0 w).mono ?_
  rintro r w' ⟨rfl, rfl⟩
  exact ⟨by simp, by simpa [markSs, Flat.all] using World.ownsRow_nil w' base 83 7, World.grownBy.refl _ _⟩
 ·cases e
  exact markSays_at base g n cap l k w hown hn hk0 hk1

theorem markBig_any (base : Nat) (ao : Option Addr) (n cap : Nat) (l : List BV) (K0 : Int) (w : World) (h : BOs w base ao n cap l) (hk0 : 0 < K0) (hT : endVs K0 l ≤ 16777216) :
  Calls Try.prog 27 #[.slice ao n cap, .int .i64 K0] w fun e w' => e = .returned (.int .i64 (endVs K0 l)) ∧ BOs w' base ao n cap (markVs K0 l) ∧ Only (allB ao l) w w' := by
 rcases h.row.2 with ⟨e, h0⟩ | ⟨g, cap', cur, e, -⟩
 ·cases e
  have hl : l = [] := List.eq_nil_of_length_eq_zero h.grow.size
  subst hl
  refine (markBridges_nil K0 0 w).mono ?_
  rintro r w' ⟨rfl, rfl⟩
  exact ⟨rfl, h, Only.refl _ _⟩
 ·cases e
  exact markBig_at base g n cap l K0 w h hk0 hT

def markM (M : NV) : NV := { M with bs := markVs 1 M.bs, ls := markLs (endVs 1 M.bs) M.ln, ss := markSs (endVs 1 M.bs + 4 * M.ln) M.sn }
def endM (M : NV) : Int := endVs 1 M.bs + 4 * M.ln + 7 * M.sn
def NV.blksA (M : NV) : List Nat := allB M.ba M.bs ++ (blkL M.la ++ blkL M.sa)
def NV.Fits (M : NV) : Prop := endVs 1 M.bs ≤ 16777216 ∧ M.ln ≤ 1048576 ∧ M.sn ≤ 1048576

theorem NOwn.blk {w : World} {base : Nat} {M : NV} (h : NOwn w base M) : ∀ b ∈ M.blksA, base ≤ b ∧ b < w.heap.size := by
 intro b hb
 rcases List.mem_append.1 hb with hb | hb
 ·exact h.b.blk b hb
 ·rcases List.mem_append.1 hb with hb | hb
  ·exact h.l.lt b (mem_blkL.2 hb)
  ·exact h.s.lt b (mem_blkL.2 hb)

theorem own_apart_all {w : World} {base base' k n0 m : Nat} {T : TypeId} {a : Option Addr} {n c : Nat} {xs : List Value} {ao : Option Addr} {cap : Nat} {l : List BV} (hs : w.ownsRow base' T k (.slice a n c) n0 xs) (hb : BOs w base ao m cap l) (h0 : (62 : Nat) ≠ T) (h1 : (95 : Nat) ≠ T) (h2 : (128 : Nat) ≠ T) (h3 : (130 : Nat) ≠ T) (h4 : (3 : Nat) ≠ T) : ∀ b ∈ blkL a, b ∉ allB ao l := by
 intro b hb'
 rcases hs.2 with ⟨e, _⟩ | ⟨g, cap', cur, e, _, hh, _⟩
 ·cases e' : a with
  | none => rw [e'] at hb'; cases hb'
  | some q => rw [e'] at e; cases e
 ·cases e' : a with
  | none => rw [e'] at hb'; cases hb'
  | some q =>
   rw [e'] at e hb'
   cases e
   simp [blkL] at hb'
   subst hb'
   exact allB_ne hb hh h0 h1 h2 h3 h4

theorem NOwn.box_apart {w : World} {base X : Nat} {M : NV} {cs : Array Value} (h : NOwn w base M) (hX : w.heap[X]? = some (.cells cs 34)) : X ∉ M.blksA := by
 intro hm
 rcases List.mem_append.1 hm with hm | hm
 ·exact allB_ne h.b hX (by decide) (by decide) (by decide) (by decide) (by decide) hm
 ·rcases List.mem_append.1 hm with hm | hm
  ·exact box_ne h.l hX (by decide) X (mem_blkL.2 hm) rfl
  ·exact box_ne h.s hX (by decide) X (mem_blkL.2 hm) rfl

theorem NOwn.only {bs : List Nat} {w w' : World} {base : Nat} {M : NV} (h : NOwn w base M) (ho : Only bs w w') (hn : ∀ b ∈ M.blksA, b ∉ bs) : NOwn w' base M :=
 ⟨h.b.only ho (fun b hb => hn b (List.mem_append_left _ hb)), ho.own h.l (fun k hk => hn k (List.mem_append_right _ (List.mem_append_left _ (mem_blkL.1 hk)))), ho.own h.s (fun k hk => hn k (List.mem_append_right _ (List.mem_append_right _ (mem_blkL.1 hk))))⟩

set_option maxRecDepth 100000 in
set_option maxHeartbeats 4000000 in
theorem markNet_big (base : Nat) (M : NV) (w : World) (h : NOwn w base M) (hf : M.Fits) :
  Calls Try.prog 11 #[.agg #[.slice M.ba M.bn M.bc, .slice M.la M.ln M.lc, .slice M.sa M.sn M.sc], .int .i64 1] w fun e w' => e = .returned (.int .i64 (endM M)) ∧ NOwn w' base (markM M) ∧ Only M.blksA w w' := by
 have hKb := endVs_up M.bs 1
 obtain ⟨hT, hl, hs⟩ := hf
 generalize hw1 : w.alloc (Obj.cells #[.slice M.ba M.bn M.bc, .slice M.la M.ln M.lc, .slice M.sa M.sn M.sc] 34) = w1
 have b01 : Below w.heap.size w w1 := by rw [← hw1]; exact below_one _ _
 have k1 : w1.heap[w.heap.size]? = some (.cells #[.slice M.ba M.bn M.bc, .slice M.la M.ln M.lc, .slice M.sa M.sn M.sc] 34) := by rw [← hw1]; exact block_last _ _
 have h1 := h.below b01
 obtain ⟨x0, x1, x2⟩ := cells3n k1
 go_enter Try.func11, Try.ntmps11
 go_wp2_with fail
 refine (markBig_any base M.ba M.bn M.bc M.bs 1 _ h1.b (by omega) hT).mono ?_
 rintro e w2 ⟨rfl, hB2, O2⟩
 have k2 := O2.kept k1 (fun hm => h1.box_apart k1 (List.mem_append_left _ hm))
 have apL := own_apart_all h1.l h1.b (by decide) (by decide) (by decide) (by decide) (by decide)
 have apS := own_apart_all h1.s h1.b (by decide) (by decide) (by decide) (by decide) (by decide)
 have l2 := O2.own h1.l (fun k hk => apL k (mem_blkL.1 hk))
 have s2 := O2.own h1.s (fun k hk => apS k (mem_blkL.1 hk))
 have HK := hide hKb
 generalize hEV : endVs 1 M.bs = EV at *
 clear x0 x1 x2
 obtain ⟨x0, x1, x2⟩ := cells3n k2
 go_wp2_with fail
 refine (markLinks_grown base M.la M.ln M.lc M.ls EV _ l2 (by omega) (by omega) (by omega)).mono ?_
 rintro e w3 ⟨rfl, l3, hg3⟩
 have O3 := Only.of_grown hg3
 have hB3 : BOs w3 base M.ba M.bn M.bc (markVs 1 M.bs) := hB2.only O3 (fun b hb hc => apL b hc (by unfold allB at hb ⊢; rw [markVs_blks] at hb; exact hb))
 have s3 := gown_type s2 l2 (by decide) hg3
 have k3 := kept_grown k2 hg3 (fun k hk => box_ne l2 k2 (by decide) k hk)
 clear x0 x1 x2
 obtain ⟨x0, x1, x2⟩ := cells3n k3
 go_wp2_with fail
 refine (markSays_grown base M.sa M.sn M.sc M.ss (EV + 4 * M.ln) _ s3 (by omega) (by omega) (by omega)).mono ?_
 rintro e w4 ⟨rfl, s4, hg4⟩
 have O4 := Only.of_grown hg4
 have hB4 : BOs w4 base M.ba M.bn M.bc (markVs 1 M.bs) := hB3.only O4 (fun b hb hc => apS b hc (by unfold allB at hb ⊢; rw [markVs_blks] at hb; exact hb))
 have l4 := gown_type l3 s3 (by decide) hg4
 have HO : Hid (NOwn w4 base (markM M)) := hide ⟨hB4, by unfold markM; rw [hEV]; exact l4, by unfold markM; rw [hEV]; exact s4⟩
 have HN : Hid (Only M.blksA w w4) := hide (only_in (only_in (only_in (Only.of_below (bs := M.blksA) b01) O2 (fun b hb => List.mem_append_left _ hb)) O3 (fun b hb => List.mem_append_right _ (List.mem_append_left _ hb))) O4 (fun b hb => List.mem_append_right _ (List.mem_append_right _ hb)))
 have HE : Hid (endM M = EV + 4 * M.ln + 7 * M.sn) := hide (by unfold endM; rw [hEV])
 clear hB2 hB3 hB4 l2 l3 l4 s2 s3 s4 O2 O3 O4 hg3 hg4 k2 k3 x0 x1 x2 apL apS h1 h hw1 k1 b01
 go_wp2
 go_ret
 exact ⟨by rw [HE.out]; rfl, HO.out, HN.out⟩

theorem net_fits {N : NV} {w : World} (h : NetRow w N) (hs : sizeN N ≤ 1048576) : N.Fits := by
 obtain ⟨z1, z2, z3, z4⟩ := net_small h hs
 refine ⟨?_, z2, z3⟩
 have h1 := endVs_sum N.bs 1
 have key : ∀ l : List BV, (∀ x ∈ l, x.Reads w) → (((l.map fun x => 1 + x.n + x.fn + x.rn + x.on).sum : Nat) : Int) ≤ l.length + sizeBs l := by
  intro l
  induction l with
  | nil => intro _; simp [sizeBs]
  | cons y r ih =>
   intro hr
   have h2 := ih (fun x hx => hr x (by simp [hx]))
   have o := hr y (by simp)
   have q1 := o.ports.size
   have q2 := o.f.size
   have q3 := o.v.rows.size
   have q4 := o.v.own.size
   unfold sizeBs at h2 ⊢
   simp only [List.map_cons, List.sum_cons, List.length_cons]
   unfold sizeB at h2 ⊢
   omega
 have e := key N.bs h.item
 have e3 := h.b.size
 unfold sizeN at hs
 omega

end Go.Proofs.Ytnichegfadgpdaa
