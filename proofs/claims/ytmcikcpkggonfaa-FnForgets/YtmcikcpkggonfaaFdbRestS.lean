/-
  Who is found, who grows older, who is flushed and dropped, who is next: as the specification has it.
-/
import Derived.Test.YtmcikcpkggonfaaFdbSetS
import Derived.Test.YtmcikcpkggonfaaFdbLaws
namespace Go.Proofs.Ytmcikcpkggonfaa
open Go.RowKit

theorem grow_two {α : Type} (F : Flat α) (w : World) (o : Obj) (x : α) (cs : Array Value) (T : TypeId) (h : cs.toList = F.cs x) : GRow F ((w.alloc o).alloc (.cells cs T)) (some ⟨w.heap.size + 1, 0, none⟩) 1 1 [x] := by
  have := grow_one F (w.alloc o) x cs T h
  rw [show (w.alloc o).heap.size = w.heap.size + 1 by simp] at this
  exact this

theorem specFdbOk_all (ao : Option Addr) (n cap : Nat) (l : List FE) (w : World) (h : GRow fentF w ao n cap l) (_hn : n ≤ 16777216) :
    Calls Try.prog 30 #[.slice ao n cap] w fun r w' => r = .returned (.bool (fdbOk l)) ∧ Below w.heap.size w w' := specFdbOk_any ao n cap l w h

set_option maxRecDepth 100000 in
set_option maxHeartbeats 1000000 in
theorem specLookUp_all (ao : Option Addr) (n cap : Nat) (l : List FE) (t m : Int) (w : World) (h : GRow fentF w ao n cap l) (_hn : n ≤ 16777216) :
    Calls Try.prog 34 #[.slice ao n cap, .int .i64 t, .int .i64 m] w fun r w' => r = .returned (.int .i64 (lookUp l t m)) ∧ Below w.heap.size w w' := by
  obtain rfl := h.size
  rcases at_look l t m with ⟨i, x, hat, hi, hx, hlk⟩ | ⟨hat, hlk⟩
  · have HL := hide (lookUp_of hlk)
    obtain ⟨x', b, off, hx', rfl, -, -, c2, -⟩ := fent_at h i hi
    rw [hx] at hx'
    cases hx'
    have hat2 : ¬ (i : Int) < 0 := by omega
    have HAT := hide hat
    clear hat
    go_enter Try.func34, Try.ntmps34
    go_wp2_with fail
    refine (specAt_any _ _ _ l t m _ h).mono ?_
    rintro r w1 ⟨rfl, rfl⟩
    rw [HAT.out]
    go_wp2
    go_ret
    exact ⟨by rw [HL.out]; rfl, Below.refl _ _⟩
  · have HL := hide (lookUp_no hlk)
    have HAT := hide hat
    clear hat
    go_enter Try.func34, Try.ntmps34
    go_wp2_with fail
    refine (specAt_any _ _ _ l t m _ h).mono ?_
    rintro r w1 ⟨rfl, rfl⟩
    rw [HAT.out]
    go_wp2
    go_ret
    exact ⟨by rw [HL.out]; rfl, Below.refl _ _⟩

theorem nextF_found {l : List FE} {t m : Int} {k : Nat} {x : FE} (h : ∀ i y, i < k → l[i]? = some y → (!ahead y t m && !both y t m) = false) (hx : l[k]? = some x) (hb : (!ahead x t m && !both x t m) = true) : nextF l t m = k := by
  have hk := (List.getElem?_eq_some_iff.1 hx).1
  have : l.findIdx? (fun e => !ahead e t m && !both e t m) = some k := by
    rw [List.findIdx?_eq_some_iff_getElem]
    refine ⟨hk, ?_, fun j hj => ?_⟩
    · rw [List.getElem?_eq_getElem hk] at hx
      cases hx
      exact hb
    · have := h j l[j] hj (List.getElem?_eq_getElem (by omega))
      simp only [this]
      simp
  unfold nextF
  rw [this]

theorem nextF_none {l : List FE} {t m : Int} (h : ∀ i y, i < l.length → l[i]? = some y → (!ahead y t m && !both y t m) = false) : nextF l t m = -1 := by
  have : l.findIdx? (fun e => !ahead e t m && !both e t m) = none := by
    rw [List.findIdx?_eq_none_iff]
    intro x hx
    obtain ⟨i, hi, rfl⟩ := List.getElem_of_mem hx
    exact h i _ hi (List.getElem?_eq_getElem hi)
  unfold nextF
  rw [this]

theorem nxt_next {l : List FE} {q : FE → Bool} {k : Nat} {x : FE} (h : ∀ j y, j < k → l[j]? = some y → q y = false) (hx : l[k]? = some x) (hb : q x = false) : ∀ j y, j < k + 1 → l[j]? = some y → q y = false := by
  intro j y hj hy
  by_cases e : j = k
  · subst e
    rw [hx] at hy
    cases hy
    exact hb
  · exact h j y (by omega) hy

set_option maxRecDepth 100000 in
set_option maxHeartbeats 2000000 in
theorem specNext_all (ao : Option Addr) (n cap : Nat) (l : List FE) (t m : Int) (w : World) (h : GRow fentF w ao n cap l) (_hn : n ≤ 16777216) :
    Calls Try.prog 28 #[.slice ao n cap, .int .i64 t, .int .i64 m] w fun r w' => r = .returned (.int .i64 (nextF l t m)) ∧ Below w.heap.size w w' := by
  have hle := h.le
  have htop := h.top
  unfold maxLen at htop
  have hsz := h.size
  go_enter Try.func28, Try.ntmps28
  go_wp2
  go_loopw [7] (fun i wr => ∃ k : Nat, k ≤ n ∧ i = .int .i64 k ∧ (∀ j y, j < k → l[j]? = some y → (!ahead y t m && !both y t m) = false) ∧ Below w.heap.size w wr) (fun i _ => n - (intOf i).toNat)
  case atStart => exact ⟨0, Nat.zero_le _, rfl, fun j y hj => by omega, Below.refl _ _⟩
  case round =>
    obtain ⟨k, hk, rfl, hno, hb⟩ := hrel
    by_cases hlt : k < n
    · obtain ⟨x, b, off, hx, rfl, a0, a1, a2, a3, a4⟩ := fent_at (h.below hb) k hlt
      cases ta : ahead x t m
      · cases tb : (x.t != t)
        · cases tc : (x.m != m)
          · have hbo : both x t m = true := by simp at tb tc; exact both_iff.2 ⟨tb, tc⟩
            have HO := hide (nxt_next (q := fun y => !ahead y t m && !both y t m) hno hx (by simp [hbo]))
            have HA := hide ta
            have HB := hide hb
            have HX := hide hx
            clear ta hno hb hx
            go_wp2_with fail
            refine (specAhead_any x t m _).mono ?_
            rintro r w1 ⟨rfl, hb1⟩
            rw [HA.out]
            obtain ⟨y, b', off', hy, hab, y0, y1, y2, y3, y4⟩ := fent_at ((h.below HB.out).below hb1) k hlt
            cases hab
            rw [HX.out] at hy
            cases hy
            have HB1 := hide (gr_trans HB.out hb1)
            clear hb1 a0 a1 a2 a3 a4
            go_wp2
            go_roundw
            case rel => exact ⟨k + 1, by omega, by go_num, HO.out, HB1.out⟩
            case measure => simp [intOf]; omega
          · have hbo : both x t m = false := by simp at tb tc; exact both_not.2 (fun h => tc h.2)
            have HF := hide (nextF_found hno hx (by simp [ta, hbo]))
            have HA := hide ta
            have HB := hide hb
            have HX := hide hx
            clear ta hno hb hx
            go_wp2_with fail
            refine (specAhead_any x t m _).mono ?_
            rintro r w1 ⟨rfl, hb1⟩
            rw [HA.out]
            obtain ⟨y, b', off', hy, hab, y0, y1, y2, y3, y4⟩ := fent_at ((h.below HB.out).below hb1) k hlt
            cases hab
            rw [HX.out] at hy
            cases hy
            have HB1 := hide (gr_trans HB.out hb1)
            clear hb1 a0 a1 a2 a3 a4
            go_wp2
            go_ret
            exact ⟨(by rw [HF.out]; rfl), HB1.out⟩
        · have hbo : both x t m = false := by simp at tb; exact both_not.2 (fun h => tb h.1)
          have HF := hide (nextF_found hno hx (by simp [ta, hbo]))
          have HA := hide ta
          have HB := hide hb
          have HX := hide hx
          clear ta hno hb hx
          go_wp2_with fail
          refine (specAhead_any x t m _).mono ?_
          rintro r w1 ⟨rfl, hb1⟩
          rw [HA.out]
          obtain ⟨y, b', off', hy, hab, y0, y1, y2, y3, y4⟩ := fent_at ((h.below HB.out).below hb1) k hlt
          cases hab
          rw [HX.out] at hy
          cases hy
          have HB1 := hide (gr_trans HB.out hb1)
          clear hb1 a0 a1 a2 a3 a4
          go_wp2
          go_ret
          exact ⟨(by rw [HF.out]; rfl), HB1.out⟩
      · have HO := hide (nxt_next (q := fun y => !ahead y t m && !both y t m) hno hx (by simp [ta]))
        have HA := hide ta
        have HB := hide hb
        have HX := hide hx
        clear ta hno hb hx
        go_wp2_with fail
        refine (specAhead_any x t m _).mono ?_
        rintro r w1 ⟨rfl, hb1⟩
        rw [HA.out]
        obtain ⟨y, b', off', hy, hab, y0, y1, y2, y3, y4⟩ := fent_at ((h.below HB.out).below hb1) k hlt
        cases hab
        rw [HX.out] at hy
        cases hy
        have HB1 := hide (gr_trans HB.out hb1)
        clear hb1 a0 a1 a2 a3 a4
        go_wp2
        go_roundw
        case rel => exact ⟨k + 1, by omega, by go_num, HO.out, HB1.out⟩
        case measure => simp [intOf]; omega
    · have hkn : k = n := by omega
      have HF := hide (nextF_none (l := l) (t := t) (m := m) (fun i y hi hy => hno i y (by omega) hy))
      have HB := hide hb
      clear hno hb
      subst hkn
      go_wp2
      go_ret
      exact ⟨(by rw [HF.out]; rfl), HB.out⟩


theorem age_keep {x : FE} {zs r : List FE} (h : x.s = true) : zs ++ [x] ++ ageF r = zs ++ ageF (x :: r) := by
  have : ageF (x :: r) = x :: ageF r := by unfold ageF; rw [List.filterMap_cons]; unfold ageE; rw [h]; rfl
  rw [this]; simp
theorem age_old {x : FE} {zs r : List FE} (h : x.s = false) (ha : x.a < 4) : zs ++ [(⟨x.t, x.m, x.p, x.a + 1, x.s⟩ : FE)] ++ ageF r = zs ++ ageF (x :: r) := by
  have : ageF (x :: r) = ⟨x.t, x.m, x.p, x.a + 1, x.s⟩ :: ageF r := by unfold ageF; rw [List.filterMap_cons]; unfold ageE; simp [h, ha]
  rw [this]; simp
theorem age_go {x : FE} {zs r : List FE} (h : x.s = false) (ha : ¬ x.a < 4) : zs ++ ageF r = zs ++ ageF (x :: r) := by
  have : ageF (x :: r) = ageF r := by unfold ageF; rw [List.filterMap_cons]; unfold ageE; simp [h, ha]
  rw [this]

set_option maxRecDepth 100000 in
set_option maxHeartbeats 4000000 in
theorem specAge_any (ao : Option Addr) (n cap : Nat) (l : List FE) (w : World) (h : GRow fentF w ao n cap l) (hn : n ≤ 16777216) (hR : ∀ x ∈ l, x.Rng) :
    Calls Try.prog 18 #[.slice ao n cap] w fun r w' => ∃ ao' cap', r = .returned (.slice ao' (ageF l).length cap') ∧ w'.ownsRow w.heap.size 30 5 (.slice ao' (ageF l).length cap') (ageF l).length (fentF.all (ageF l)) ∧ GRow fentF w' ao' (ageF l).length cap' (ageF l) ∧ Below w.heap.size w w' := by
  have hle := h.le
  have htop := h.top
  unfold maxLen at htop
  have hsz := h.size
  have o0 := flat_nil fentF w _ 30 _ (block_last w (.cells #[] 30)) (Nat.le_refl _)
  have b0 := below_one w (.cells #[] 30)
  go_enter Try.func18, Try.ntmps18
  go_wp2
  go_loopw [3, 4] (fun o i wr => ∃ (k : Nat) (zs : List FE) (az : Option Addr) (cz nz : Nat), k ≤ n ∧ i = .int .i64 k ∧ o = .slice az nz cz ∧ zs.length = nz ∧ nz ≤ k ∧ wr.ownsRow w.heap.size 30 5 (.slice az nz cz) nz (fentF.all zs) ∧ zs ++ ageF (l.drop k) = ageF l ∧ Below w.heap.size w wr) (fun _ i _ => n - (intOf i).toNat)
  case atStart => exact ⟨0, [], _, _, 0, Nat.zero_le _, rfl, rfl, rfl, Nat.zero_le _, o0, by simp, b0⟩
  case round =>
    obtain ⟨k, zs, az, cz, nz, hk, rfl, rfl, hzs, hnz, how, hz, hb⟩ := hrel
    clear o0 b0
    have hws := hb.size
    by_cases hlt : k < n
    · obtain ⟨x, b, off, hx, rfl, a0, a1, a2, a3, a4⟩ := fent_at (h.below hb) k hlt
      have hdr := drop_at hx
      rw [hdr] at hz
      cases hs : x.s
      · rw [hs] at a4
        by_cases ha : x.a < 4
        · obtain ⟨-, -, -, r1, r2⟩ := hR x (List.mem_of_getElem? hx)
          have hw : IntKind.i64.wrap (x.a + 1) = x.a + 1 := wrap_at _ (by omega)
          have hcs : (#[.int .i64 x.t, .int .i64 x.m, .int .i64 x.p, .int .i64 (x.a + 1), .bool false] : Array Value).toList = fentF.cs ((⟨x.t, x.m, x.p, x.a + 1, x.s⟩ : FE)) := by simp [fentF, *]
          have HCS := hide hcs
          clear hcs
          have hl1 : (zs ++ [(⟨x.t, x.m, x.p, x.a + 1, x.s⟩ : FE)]).length = nz + 1 := by simp [hzs]
          have HL := hide hl1
          have how1 := gown_below how (below_two wr (.cells #[.int .i64 x.t, .int .i64 x.m, .int .i64 x.p, .int .i64 (x.a + 1), .bool false] 30) (.cells #[.int .i64 x.t, .int .i64 x.m, .int .i64 x.p, .int .i64 (x.a + 1), .bool false] 30))
          have HBR := hide (gr_trans hb (below_two wr (.cells #[.int .i64 x.t, .int .i64 x.m, .int .i64 x.p, .int .i64 (x.a + 1), .bool false] 30) (.cells #[.int .i64 x.t, .int .i64 x.m, .int .i64 x.p, .int .i64 (x.a + 1), .bool false] 30)))
          have hbase9 : w.heap.size ≤ ((wr.alloc (.cells #[.int .i64 x.t, .int .i64 x.m, .int .i64 x.p, .int .i64 (x.a + 1), .bool false] 30)).alloc (.cells #[.int .i64 x.t, .int .i64 x.m, .int .i64 x.p, .int .i64 (x.a + 1), .bool false] 30)).heap.size := by simp; omega
          have HQ := hide (show zs ++ [(⟨x.t, x.m, x.p, x.a + 1, x.s⟩ : FE)] ++ ageF (l.drop (k + 1)) = ageF l from (age_old hs ha).trans hz)
          clear how hb hz hl1
          try clear hs
          go_wp2_with (at_builtin; refine fent_append _ rfl _ _ rfl w.heap.size _ nz zs rfl how1 _ 1 1 [(⟨x.t, x.m, x.p, x.a + 1, x.s⟩ : FE)] rfl (grow_two fentF _ _ ((⟨x.t, x.m, x.p, x.a + 1, x.s⟩ : FE)) _ _ HCS.out) (by omega) hbase9 ?_)
          intro ao9 cap9 w9 how9 hr9 hgr9 hb9
          have HB9 := hide (HBR.out.trans hb9)
          have HO := hide how9
          clear how9 hr9 hgr9 hb9 how1 HBR
          go_wp2
          go_roundw
          case rel => exact ⟨k + 1, zs ++ [(⟨x.t, x.m, x.p, x.a + 1, x.s⟩ : FE)], ao9, cap9, nz + 1, by omega, by go_num, rfl, HL.out, by omega, HO.out, HQ.out, HB9.out⟩
          case measure => simp [intOf]; omega
        · have ha2 : (4 : Int) ≤ x.a := by omega
          have HO := hide (gown_below how (below_one wr (.cells #[.int .i64 x.t, .int .i64 x.m, .int .i64 x.p, .int .i64 x.a, .bool false] 30)))
          have HB9 := hide (gr_trans hb (below_one wr (.cells #[.int .i64 x.t, .int .i64 x.m, .int .i64 x.p, .int .i64 x.a, .bool false] 30)))
          have HQ := hide (show zs ++ ageF (l.drop (k + 1)) = ageF l from (age_go hs ha).trans hz)
          clear how hb hz
          go_wp2
          go_roundw
          case rel => exact ⟨k + 1, zs, az, cz, nz, by omega, by go_num, rfl, hzs, by omega, HO.out, HQ.out, HB9.out⟩
          case measure => simp [intOf]; omega
      · rw [hs] at a4
        have hcs : (#[.int .i64 x.t, .int .i64 x.m, .int .i64 x.p, .int .i64 x.a, .bool true] : Array Value).toList = fentF.cs (x) := by simp [fentF, *]
        have HCS := hide hcs
        clear hcs
        have hl1 : (zs ++ [x]).length = nz + 1 := by simp [hzs]
        have HL := hide hl1
        have how1 := gown_below how (below_two wr (.cells #[.int .i64 x.t, .int .i64 x.m, .int .i64 x.p, .int .i64 x.a, .bool true] 30) (.cells #[.int .i64 x.t, .int .i64 x.m, .int .i64 x.p, .int .i64 x.a, .bool true] 30))
        have HBR := hide (gr_trans hb (below_two wr (.cells #[.int .i64 x.t, .int .i64 x.m, .int .i64 x.p, .int .i64 x.a, .bool true] 30) (.cells #[.int .i64 x.t, .int .i64 x.m, .int .i64 x.p, .int .i64 x.a, .bool true] 30)))
        have hbase9 : w.heap.size ≤ ((wr.alloc (.cells #[.int .i64 x.t, .int .i64 x.m, .int .i64 x.p, .int .i64 x.a, .bool true] 30)).alloc (.cells #[.int .i64 x.t, .int .i64 x.m, .int .i64 x.p, .int .i64 x.a, .bool true] 30)).heap.size := by simp; omega
        have HQ := hide (show zs ++ [x] ++ ageF (l.drop (k + 1)) = ageF l from (age_keep hs).trans hz)
        clear how hb hz hl1
        try clear hs
        go_wp2_with (at_builtin; refine fent_append _ rfl _ _ rfl w.heap.size _ nz zs rfl how1 _ 1 1 [x] rfl (grow_two fentF _ _ (x) _ _ HCS.out) (by omega) hbase9 ?_)
        intro ao9 cap9 w9 how9 hr9 hgr9 hb9
        have HB9 := hide (HBR.out.trans hb9)
        have HO := hide how9
        clear how9 hr9 hgr9 hb9 how1 HBR
        go_wp2
        go_roundw
        case rel => exact ⟨k + 1, zs ++ [x], ao9, cap9, nz + 1, by omega, by go_num, rfl, HL.out, by omega, HO.out, HQ.out, HB9.out⟩
        case measure => simp [intOf]; omega
    · have hkn : k = n := by omega
      subst hkn
      rw [List.drop_eq_nil_of_le (by omega)] at hz
      have hz : zs = ageF l := by simpa [ageF] using hz
      have hl : nz = (ageF l).length := by rw [← hz]; exact hzs.symm
      rw [hz] at how
      subst hl
      have HO := hide how
      have HR := hide (grow_own how)
      have HB := hide hb
      clear how hb
      go_wp2
      go_ret
      exact ⟨_, _, rfl, HO.out, HR.out, HB.out⟩

theorem flush_keep {x : FE} {p : Int} {zs r : List FE} (h : (x.s || (x.p != p)) = true) : zs ++ [x] ++ flushF r p = zs ++ flushF (x :: r) p := by
  have : flushF (x :: r) p = x :: flushF r p := by unfold flushF; rw [List.filter_cons, if_pos h]
  rw [this]; simp
theorem flush_go {x : FE} {p : Int} {zs r : List FE} (h : (x.s || (x.p != p)) = false) : zs ++ flushF r p = zs ++ flushF (x :: r) p := by
  have : flushF (x :: r) p = flushF r p := by unfold flushF; rw [List.filter_cons, if_neg (by rw [h]; exact Bool.false_ne_true)]
  rw [this]

set_option maxRecDepth 100000 in
set_option maxHeartbeats 4000000 in
theorem specFlush_any (ao : Option Addr) (n cap : Nat) (l : List FE) (p : Int) (w : World) (h : GRow fentF w ao n cap l) (hn : n ≤ 16777216) :
    Calls Try.prog 29 #[.slice ao n cap, .int .i64 p] w fun r w' => ∃ ao' cap', r = .returned (.slice ao' (flushF l p).length cap') ∧ w'.ownsRow w.heap.size 30 5 (.slice ao' (flushF l p).length cap') (flushF l p).length (fentF.all (flushF l p)) ∧ GRow fentF w' ao' (flushF l p).length cap' (flushF l p) ∧ Below w.heap.size w w' := by
  have hle := h.le
  have htop := h.top
  unfold maxLen at htop
  have hsz := h.size
  have o0 := flat_nil fentF w _ 30 _ (block_last w (.cells #[] 30)) (Nat.le_refl _)
  have b0 := below_one w (.cells #[] 30)
  go_enter Try.func29, Try.ntmps29
  go_wp2
  go_loopw [5, 6] (fun o i wr => ∃ (k : Nat) (zs : List FE) (az : Option Addr) (cz nz : Nat), k ≤ n ∧ i = .int .i64 k ∧ o = .slice az nz cz ∧ zs.length = nz ∧ nz ≤ k ∧ wr.ownsRow w.heap.size 30 5 (.slice az nz cz) nz (fentF.all zs) ∧ zs ++ flushF (l.drop k) p = flushF l p ∧ Below w.heap.size w wr) (fun _ i _ => n - (intOf i).toNat)
  case atStart => exact ⟨0, [], _, _, 0, Nat.zero_le _, rfl, rfl, rfl, Nat.zero_le _, o0, by simp, b0⟩
  case round =>
    obtain ⟨k, zs, az, cz, nz, hk, rfl, rfl, hzs, hnz, how, hz, hb⟩ := hrel
    clear o0 b0
    have hws := hb.size
    by_cases hlt : k < n
    · obtain ⟨x, b, off, hx, rfl, a0, a1, a2, a3, a4⟩ := fent_at (h.below hb) k hlt
      have hdr := drop_at hx
      rw [hdr] at hz
      cases hs : x.s
      · rw [hs] at a4
        cases hp : (x.p != p)
        · have hq : (x.s || (x.p != p)) = false := by rw [hs, hp]; rfl
          have HO := hide how
          have HB9 := hide hb
          have HQ := hide (show zs ++ flushF (l.drop (k + 1)) p = flushF l p from (flush_go hq).trans hz)
          clear how hb hz
          go_wp2
          go_roundw
          case rel => exact ⟨k + 1, zs, az, cz, nz, by omega, by go_num, rfl, hzs, by omega, HO.out, HQ.out, HB9.out⟩
          case measure => simp [intOf]; omega
        · have hq : (x.s || (x.p != p)) = true := by rw [hs, hp]; rfl
          have hcs : (#[.int .i64 x.t, .int .i64 x.m, .int .i64 x.p, .int .i64 x.a, .bool false] : Array Value).toList = fentF.cs (x) := by simp [fentF, *]
          have HCS := hide hcs
          clear hcs
          have hl1 : (zs ++ [x]).length = nz + 1 := by simp [hzs]
          have HL := hide hl1
          have how1 := gown_below how (below_one wr (.cells #[.int .i64 x.t, .int .i64 x.m, .int .i64 x.p, .int .i64 x.a, .bool false] 30))
          have HBR := hide (gr_trans hb (below_one wr (.cells #[.int .i64 x.t, .int .i64 x.m, .int .i64 x.p, .int .i64 x.a, .bool false] 30)))
          have hbase9 : w.heap.size ≤ (wr.alloc (.cells #[.int .i64 x.t, .int .i64 x.m, .int .i64 x.p, .int .i64 x.a, .bool false] 30)).heap.size := by simp; omega
          have HQ := hide (show zs ++ [x] ++ flushF (l.drop (k + 1)) p = flushF l p from (flush_keep hq).trans hz)
          clear how hb hz hl1
          try clear hs
          go_wp2_with (at_builtin; refine fent_append _ rfl _ _ rfl w.heap.size _ nz zs rfl how1 _ 1 1 [x] rfl (grow_one fentF _ (x) _ _ HCS.out) (by omega) hbase9 ?_)
          intro ao9 cap9 w9 how9 hr9 hgr9 hb9
          have HB9 := hide (HBR.out.trans hb9)
          have HO := hide how9
          clear how9 hr9 hgr9 hb9 how1 HBR
          go_wp2
          go_roundw
          case rel => exact ⟨k + 1, zs ++ [x], ao9, cap9, nz + 1, by omega, by go_num, rfl, HL.out, by omega, HO.out, HQ.out, HB9.out⟩
          case measure => simp [intOf]; omega
      · rw [hs] at a4
        have hq : (x.s || (x.p != p)) = true := by rw [hs]; rfl
        have hcs : (#[.int .i64 x.t, .int .i64 x.m, .int .i64 x.p, .int .i64 x.a, .bool true] : Array Value).toList = fentF.cs (x) := by simp [fentF, *]
        have HCS := hide hcs
        clear hcs
        have hl1 : (zs ++ [x]).length = nz + 1 := by simp [hzs]
        have HL := hide hl1
        have how1 := gown_below how (below_one wr (.cells #[.int .i64 x.t, .int .i64 x.m, .int .i64 x.p, .int .i64 x.a, .bool true] 30))
        have HBR := hide (gr_trans hb (below_one wr (.cells #[.int .i64 x.t, .int .i64 x.m, .int .i64 x.p, .int .i64 x.a, .bool true] 30)))
        have hbase9 : w.heap.size ≤ (wr.alloc (.cells #[.int .i64 x.t, .int .i64 x.m, .int .i64 x.p, .int .i64 x.a, .bool true] 30)).heap.size := by simp; omega
        have HQ := hide (show zs ++ [x] ++ flushF (l.drop (k + 1)) p = flushF l p from (flush_keep hq).trans hz)
        clear how hb hz hl1
        try clear hs
        go_wp2_with (at_builtin; refine fent_append _ rfl _ _ rfl w.heap.size _ nz zs rfl how1 _ 1 1 [x] rfl (grow_one fentF _ (x) _ _ HCS.out) (by omega) hbase9 ?_)
        intro ao9 cap9 w9 how9 hr9 hgr9 hb9
        have HB9 := hide (HBR.out.trans hb9)
        have HO := hide how9
        clear how9 hr9 hgr9 hb9 how1 HBR
        go_wp2
        go_roundw
        case rel => exact ⟨k + 1, zs ++ [x], ao9, cap9, nz + 1, by omega, by go_num, rfl, HL.out, by omega, HO.out, HQ.out, HB9.out⟩
        case measure => simp [intOf]; omega
    · have hkn : k = n := by omega
      subst hkn
      rw [List.drop_eq_nil_of_le (by omega)] at hz
      have hz : zs = flushF l p := by simpa [flushF] using hz
      have hl : nz = (flushF l p).length := by rw [← hz]; exact hzs.symm
      rw [hz] at how
      subst hl
      have HO := hide how
      have HR := hide (grow_own how)
      have HB := hide hb
      clear how hb
      go_wp2
      go_ret
      exact ⟨_, _, rfl, HO.out, HR.out, HB.out⟩

/-- What is left of entries behind a place: is one gone already? -/
def dropR (d : Bool) (l : List FE) (t m : Int) : List FE := if d = true then l else dropF l t m
def canR (d : Bool) (l : List FE) (t m : Int) : Bool := d || canDrop l t m

theorem dropR_keep {x : FE} {d : Bool} {t m : Int} {zs r : List FE} (h : d = true ∨ (x.s && both x t m) = false) : zs ++ [x] ++ dropR d r t m = zs ++ dropR d (x :: r) t m := by
  have : dropR d (x :: r) t m = x :: dropR d r t m := by
    unfold dropR
    cases d
    · rcases h with h | h
      · cases h
      · rw [if_neg Bool.false_ne_true, if_neg Bool.false_ne_true, dropF, h]; rfl
    · rfl
  rw [this]; simp
theorem dropR_go {x : FE} {t m : Int} {zs r : List FE} (h : (x.s && both x t m) = true) : zs ++ dropR true r t m = zs ++ dropR false (x :: r) t m := by
  have : dropR false (x :: r) t m = dropR true r t m := by unfold dropR; rw [if_neg Bool.false_ne_true, if_pos rfl, dropF, h]; rfl
  rw [this]
theorem canR_keep {x : FE} {d : Bool} {t m : Int} {r : List FE} (h : d = true ∨ (x.s && both x t m) = false) : canR d r t m = canR d (x :: r) t m := by
  unfold canR canDrop
  cases d
  · rcases h with h | h
    · cases h
    · rw [List.any_cons, h]; rfl
  · rfl
theorem canR_go {x : FE} {t m : Int} {r : List FE} (h : (x.s && both x t m) = true) : canR true r t m = canR false (x :: r) t m := by
  unfold canR canDrop
  rw [List.any_cons, h]; rfl

set_option maxRecDepth 100000 in
set_option maxHeartbeats 4000000 in
theorem specDrop_any (ao : Option Addr) (n cap : Nat) (l : List FE) (t m : Int) (w : World) (h : GRow fentF w ao n cap l) (hn : n ≤ 16777216) :
    Calls Try.prog 25 #[.slice ao n cap, .int .i64 t, .int .i64 m] w fun r w' => ∃ ao' cap', r = .returned (.tuple #[.slice ao' (dropF l t m).length cap', .bool (canDrop l t m)]) ∧ w'.ownsRow w.heap.size 30 5 (.slice ao' (dropF l t m).length cap') (dropF l t m).length (fentF.all (dropF l t m)) ∧ GRow fentF w' ao' (dropF l t m).length cap' (dropF l t m) ∧ Below w.heap.size w w' := by
  have hle := h.le
  have htop := h.top
  unfold maxLen at htop
  have hsz := h.size
  have o0 := flat_nil fentF w _ 30 _ (block_last w (.cells #[] 30)) (Nat.le_refl _)
  have b0 := below_one w (.cells #[] 30)
  go_enter Try.func25, Try.ntmps25
  go_wp2
  go_loopw [8, 9, 10] (fun o d i wr => ∃ (k : Nat) (dd : Bool) (zs : List FE) (az : Option Addr) (cz nz : Nat), k ≤ n ∧ i = .int .i64 k ∧ d = .bool dd ∧ o = .slice az nz cz ∧ zs.length = nz ∧ nz ≤ k ∧ wr.ownsRow w.heap.size 30 5 (.slice az nz cz) nz (fentF.all zs) ∧ zs ++ dropR dd (l.drop k) t m = dropF l t m ∧ canR dd (l.drop k) t m = canDrop l t m ∧ Below w.heap.size w wr) (fun _ _ i _ => n - (intOf i).toNat)
  case atStart => exact ⟨0, false, [], _, _, 0, Nat.zero_le _, rfl, rfl, rfl, rfl, Nat.zero_le _, o0, by simp [dropR], by simp [canR], b0⟩
  case round =>
    obtain ⟨k, dd, zs, az, cz, nz, hk, rfl, rfl, rfl, hzs, hnz, how, hz, hcn, hb⟩ := hrel
    clear o0 b0
    have hws := hb.size
    by_cases hlt : k < n
    · obtain ⟨x, b, off, hx, rfl, a0, a1, a2, a3, a4⟩ := fent_at (h.below hb) k hlt
      have hdr := drop_at hx
      rw [hdr] at hz hcn
      cases dd
      · cases hs : x.s
        · rw [hs] at a4
          have hq : (x.s && both x t m) = false := by rw [hs]; rfl
          have HC := hide ((canR_keep (r := l.drop (k + 1)) (.inr hq)).trans hcn)
          have hcs : (#[.int .i64 x.t, .int .i64 x.m, .int .i64 x.p, .int .i64 x.a, .bool false] : Array Value).toList = fentF.cs (x) := by simp [fentF, *]
          have HCS := hide hcs
          clear hcs
          have hl1 : (zs ++ [x]).length = nz + 1 := by simp [hzs]
          have HL := hide hl1
          have how1 := gown_below how (below_one wr (.cells #[.int .i64 x.t, .int .i64 x.m, .int .i64 x.p, .int .i64 x.a, .bool false] 30))
          have HBR := hide (gr_trans hb (below_one wr (.cells #[.int .i64 x.t, .int .i64 x.m, .int .i64 x.p, .int .i64 x.a, .bool false] 30)))
          have hbase9 : w.heap.size ≤ (wr.alloc (.cells #[.int .i64 x.t, .int .i64 x.m, .int .i64 x.p, .int .i64 x.a, .bool false] 30)).heap.size := by simp; omega
          have HQ := hide (show zs ++ [x] ++ dropR false (l.drop (k + 1)) t m = dropF l t m from (dropR_keep (.inr hq)).trans hz)
          clear how hb hz hl1 hcn
          try clear hs
          go_wp2_with (at_builtin; refine fent_append _ rfl _ _ rfl w.heap.size _ nz zs rfl how1 _ 1 1 [x] rfl (grow_one fentF _ (x) _ _ HCS.out) (by omega) hbase9 ?_)
          intro ao9 cap9 w9 how9 hr9 hgr9 hb9
          have HB9 := hide (HBR.out.trans hb9)
          have HO := hide how9
          clear how9 hr9 hgr9 hb9 how1 HBR
          go_wp2
          go_roundw
          case rel => exact ⟨k + 1, false, zs ++ [x], ao9, cap9, nz + 1, by omega, by go_num, rfl, rfl, HL.out, by omega, HO.out, HQ.out, HC.out, HB9.out⟩
          case measure => simp [intOf]; omega
        · rw [hs] at a4
          cases ht : (x.t == t)
          · have hq : (x.s && both x t m) = false := by unfold both; rw [ht]; simp
            have HC := hide ((canR_keep (r := l.drop (k + 1)) (.inr hq)).trans hcn)
            have hcs : (#[.int .i64 x.t, .int .i64 x.m, .int .i64 x.p, .int .i64 x.a, .bool true] : Array Value).toList = fentF.cs (x) := by simp [fentF, *]
            have HCS := hide hcs
            clear hcs
            have hl1 : (zs ++ [x]).length = nz + 1 := by simp [hzs]
            have HL := hide hl1
            have how1 := gown_below how (below_one wr (.cells #[.int .i64 x.t, .int .i64 x.m, .int .i64 x.p, .int .i64 x.a, .bool true] 30))
            have HBR := hide (gr_trans hb (below_one wr (.cells #[.int .i64 x.t, .int .i64 x.m, .int .i64 x.p, .int .i64 x.a, .bool true] 30)))
            have hbase9 : w.heap.size ≤ (wr.alloc (.cells #[.int .i64 x.t, .int .i64 x.m, .int .i64 x.p, .int .i64 x.a, .bool true] 30)).heap.size := by simp; omega
            have HQ := hide (show zs ++ [x] ++ dropR false (l.drop (k + 1)) t m = dropF l t m from (dropR_keep (.inr hq)).trans hz)
            clear how hb hz hl1 hcn
            try clear hs
            go_wp2_with (at_builtin; refine fent_append _ rfl _ _ rfl w.heap.size _ nz zs rfl how1 _ 1 1 [x] rfl (grow_one fentF _ (x) _ _ HCS.out) (by omega) hbase9 ?_)
            intro ao9 cap9 w9 how9 hr9 hgr9 hb9
            have HB9 := hide (HBR.out.trans hb9)
            have HO := hide how9
            clear how9 hr9 hgr9 hb9 how1 HBR
            go_wp2
            go_roundw
            case rel => exact ⟨k + 1, false, zs ++ [x], ao9, cap9, nz + 1, by omega, by go_num, rfl, rfl, HL.out, by omega, HO.out, HQ.out, HC.out, HB9.out⟩
            case measure => simp [intOf]; omega
          · cases hm : (x.m == m)
            · have hq : (x.s && both x t m) = false := by unfold both; rw [hm]; simp
              have HC := hide ((canR_keep (r := l.drop (k + 1)) (.inr hq)).trans hcn)
              have hcs : (#[.int .i64 x.t, .int .i64 x.m, .int .i64 x.p, .int .i64 x.a, .bool true] : Array Value).toList = fentF.cs (x) := by simp [fentF, *]
              have HCS := hide hcs
              clear hcs
              have hl1 : (zs ++ [x]).length = nz + 1 := by simp [hzs]
              have HL := hide hl1
              have how1 := gown_below how (below_one wr (.cells #[.int .i64 x.t, .int .i64 x.m, .int .i64 x.p, .int .i64 x.a, .bool true] 30))
              have HBR := hide (gr_trans hb (below_one wr (.cells #[.int .i64 x.t, .int .i64 x.m, .int .i64 x.p, .int .i64 x.a, .bool true] 30)))
              have hbase9 : w.heap.size ≤ (wr.alloc (.cells #[.int .i64 x.t, .int .i64 x.m, .int .i64 x.p, .int .i64 x.a, .bool true] 30)).heap.size := by simp; omega
              have HQ := hide (show zs ++ [x] ++ dropR false (l.drop (k + 1)) t m = dropF l t m from (dropR_keep (.inr hq)).trans hz)
              clear how hb hz hl1 hcn
              try clear hs
              go_wp2_with (at_builtin; refine fent_append _ rfl _ _ rfl w.heap.size _ nz zs rfl how1 _ 1 1 [x] rfl (grow_one fentF _ (x) _ _ HCS.out) (by omega) hbase9 ?_)
              intro ao9 cap9 w9 how9 hr9 hgr9 hb9
              have HB9 := hide (HBR.out.trans hb9)
              have HO := hide how9
              clear how9 hr9 hgr9 hb9 how1 HBR
              go_wp2
              go_roundw
              case rel => exact ⟨k + 1, false, zs ++ [x], ao9, cap9, nz + 1, by omega, by go_num, rfl, rfl, HL.out, by omega, HO.out, HQ.out, HC.out, HB9.out⟩
              case measure => simp [intOf]; omega
            · have hq : (x.s && both x t m) = true := by unfold both; rw [hs, ht, hm]; rfl
              have HC := hide ((canR_go (r := l.drop (k + 1)) hq).trans hcn)
              have HO := hide how
              have HB9 := hide hb
              have HQ := hide (show zs ++ dropR true (l.drop (k + 1)) t m = dropF l t m from (dropR_go hq).trans hz)
              clear how hb hz
              go_wp2
              go_roundw
              case rel => exact ⟨k + 1, true, zs, az, cz, nz, by omega, by go_num, rfl, rfl, hzs, by omega, HO.out, HQ.out, HC.out, HB9.out⟩
              case measure => simp [intOf]; omega
      · skip
        have HC := hide ((canR_keep (r := l.drop (k + 1)) (.inl rfl)).trans hcn)
        have hcs : (#[.int .i64 x.t, .int .i64 x.m, .int .i64 x.p, .int .i64 x.a, .bool x.s] : Array Value).toList = fentF.cs (x) := by simp [fentF, *]
        have HCS := hide hcs
        clear hcs
        have hl1 : (zs ++ [x]).length = nz + 1 := by simp [hzs]
        have HL := hide hl1
        have how1 := gown_below how (below_one wr (.cells #[.int .i64 x.t, .int .i64 x.m, .int .i64 x.p, .int .i64 x.a, .bool x.s] 30))
        have HBR := hide (gr_trans hb (below_one wr (.cells #[.int .i64 x.t, .int .i64 x.m, .int .i64 x.p, .int .i64 x.a, .bool x.s] 30)))
        have hbase9 : w.heap.size ≤ (wr.alloc (.cells #[.int .i64 x.t, .int .i64 x.m, .int .i64 x.p, .int .i64 x.a, .bool x.s] 30)).heap.size := by simp; omega
        have HQ := hide (show zs ++ [x] ++ dropR true (l.drop (k + 1)) t m = dropF l t m from (dropR_keep (.inl rfl)).trans hz)
        clear how hb hz hl1 hcn
        try clear hs
        go_wp2_with (at_builtin; refine fent_append _ rfl _ _ rfl w.heap.size _ nz zs rfl how1 _ 1 1 [x] rfl (grow_one fentF _ (x) _ _ HCS.out) (by omega) hbase9 ?_)
        intro ao9 cap9 w9 how9 hr9 hgr9 hb9
        have HB9 := hide (HBR.out.trans hb9)
        have HO := hide how9
        clear how9 hr9 hgr9 hb9 how1 HBR
        go_wp2
        go_roundw
        case rel => exact ⟨k + 1, true, zs ++ [x], ao9, cap9, nz + 1, by omega, by go_num, rfl, rfl, HL.out, by omega, HO.out, HQ.out, HC.out, HB9.out⟩
        case measure => simp [intOf]; omega
    · have hkn : k = n := by omega
      subst hkn
      rw [List.drop_eq_nil_of_le (by omega)] at hz
      have hz : zs = dropF l t m := by cases dd <;> simpa [dropR, dropF] using hz
      have hcn : dd = canDrop l t m := by rw [List.drop_eq_nil_of_le (by omega)] at hcn; cases dd <;> simpa [canR, canDrop] using hcn
      have hl : nz = (dropF l t m).length := by rw [← hz]; exact hzs.symm
      rw [hz] at how
      subst hl
      subst hcn
      have HO := hide how
      have HR := hide (grow_own how)
      have HB := hide hb
      clear how hb
      generalize hbb : canDrop l t m = bb at *
      have HBB := hide hbb
      clear hbb
      go_wp2
      exact bodyPost_ret (v := .tuple #[.slice az (dropF l t m).length cz, .bool bb]) (by simp [results, Try.results25, go_sem, *]) rfl ⟨_, _, (by rw [HBB.out]), HO.out, HR.out, HB.out⟩

end Go.Proofs.Ytmcikcpkggonfaa
