/-
  The marks that the law file puts into binds and reads again, by contracts.
-/
import Derived.Test.YtamglfhnhjgdjabGreatDoorQG
import Derived.Test.YtamglfhnhjgdjabGreatDoorQF
import Derived.Test.YtamglfhnhjgdjabGreatDoorTlv
namespace Go.Proofs.YtamglfhnhjgdjabGreatDoor
open Go.RowKit

/-- The digits of k ahead of out, f of them at most. -/
def mtF : Nat → Nat → ByteArray → ByteArray
  | 0, _, out => out
  | f + 1, k, out => if k = 0 then out else mtF f (k / 10) (byB [((48 + k % 10 : Nat) : Int)] ++ out)
def mtx (k : Int) : ByteArray := ⟨#[109]⟩ ++ mtF 20 k.toNat ⟨#[]⟩

theorem mtF_zero (f : Nat) (out : ByteArray) : mtF f 0 out = out := by cases f <;> simp [mtF]

/-- A mark on its way. -/
structure MT (k : Int) (m : Nat) (out : ByteArray) : Prop where
  f : ∃ f, mtF f m out = mtF 20 k.toNat ⟨#[]⟩ ∧ m < 10 ^ f ∧ out.size + f ≤ 20

theorem MT.next {k : Int} {m : Nat} {out : ByteArray} (h : MT k m out) (hm : 0 < m) : MT k (m / 10) (byB [((48 + m % 10 : Nat) : Int)] ++ out) := by
  obtain ⟨f, h1, h2, h3⟩ := h.f
  cases f with
  | zero => simp at h2; omega
  | succ f =>
    refine ⟨f, ?_, ?_, ?_⟩
    · rw [← h1]
      conv => rhs; unfold mtF
      rw [if_neg (by omega)]
    · rw [Nat.pow_succ] at h2; omega
    · rw [ByteArray.size_append, byB_size]; simp; omega
theorem MT.done {k : Int} {out : ByteArray} (h : MT k 0 out) : ⟨#[109]⟩ ++ out = mtx k := by
  obtain ⟨f, h1, -, -⟩ := h.f
  rw [mtF_zero] at h1
  unfold mtx
  rw [h1]
theorem MT.small {k : Int} {m : Nat} {out : ByteArray} (h : MT k m out) : out.size ≤ 20 := by
  obtain ⟨f, -, -, h3⟩ := h.f; omega

set_option maxRecDepth 100000 in
set_option maxHeartbeats 1000000 in
theorem markText_any (k : Int) (w : World) (h0 : 0 < k) (h1 : k ≤ 1099511627776) :
    Calls Tryz.prog 32 #[.int .i64 k] w fun e w' => e = .returned (.string (mtx k)) ∧ (mtx k).size ≤ 21 ∧ Below w.heap.size w w' := by
  have hstart : MT k k.toNat ⟨#[]⟩ := ⟨20, rfl, by omega, by simp [ByteArray.size]⟩
  have hk0 : ¬ k ≤ 0 := by omega
  go_enter Tryz.func32, Tryz.ntmps32
  go_wp2
  go_loopw [0, 3] (fun x s wr => ∃ (m : Nat) (out : ByteArray), x = .int .i64 m ∧ s = .string out ∧ (m : Int) ≤ k ∧ MT k m out ∧ Below w.heap.size w wr) (fun x _ _ => (intOf x).toNat)
  case atStart => exact ⟨k.toNat, ⟨#[]⟩, by rw [Int.toNat_of_nonneg (by omega)], rfl, by omega, hstart, Below.refl _ _⟩
  case round =>
    obtain ⟨m, out, rfl, rfl, hmk, hmt, hb⟩ := hrel
    have hsm := hmt.small
    by_cases hm : 0 < m
    · have hnx := hmt.next hm
      have hw0 : (m : Int).tdiv 10 = ((m / 10 : Nat) : Int) := by rw [Int.tdiv_eq_ediv_of_nonneg (by omega)]; omega
      have hw1 : (m : Int).tmod 10 = ((m % 10 : Nat) : Int) := by rw [Int.tmod_eq_emod_of_nonneg (by omega)]; omega
      have hd : m % 10 < 10 := Nat.mod_lt _ (by omega)
      have hcv := conv_row 9 (wr.alloc (.cells #[.int .u8 ((48 + m % 10 : Nat) : Int)] 5)) (some ⟨wr.heap.size, 0, none⟩) 1 1 [((48 + m % 10 : Nat) : Int)] (row_one wr _ (by omega)) Tryz.underlying9
      have hbs : (byB [((48 + m % 10 : Nat) : Int)]).size = 1 := byB_size _
      have HB := hide (hb.trans ((below_one wr (.cells #[.int .u8 ((48 + m % 10 : Nat) : Int)] 5)).mono hb.size))
      have HN := hide hnx
      clear hb hnx hstart hmt
      generalize hD : ((48 + m % 10 : Nat) : Int) = D at *
      have hD' : 48 + ((m % 10 : Nat) : Int) = D := by rw [← hD]; omega
      generalize ((m % 10 : Nat) : Int) = r at *
      generalize hq : m / 10 = q at *
      go_wp2
      go_roundw
      case rel => exact ⟨q, _, rfl, rfl, by omega, HN.out, HB.out⟩
      case measure => simp [intOf]; omega
    · have hm0 : m = 0 := by omega
      subst hm0
      have HD := hide hmt.done
      have hsz : (ByteArray.mk #[109] ++ out).size ≤ 21 := by rw [ByteArray.size_append]; have : (ByteArray.mk #[109]).size = 1 := rfl; omega
      have HS := hide hsz
      clear hsz hmt
      go_wp2
      go_ret
      exact ⟨by rw [← HD.out]; rfl, by rw [← HD.out]; exact HS.out, hb⟩

/-- A bind's marks from k on, and the number behind them. -/
def markB (k : Int) (x : BI) : BI := ⟨x.oa, x.on, x.oc, marksI k x.on, k + x.on, k + x.on + 1, mtx (k + x.on + 1 + 1), x.za, x.zn, x.zc, marksI (k + x.on + 1 + 1 + 1) x.zn⟩
def endB (k : Int) (x : BI) : Int := k + x.on + 1 + 1 + 1 + x.zn
def markBs : Int → List BI → List BI
  | _, [] => []
  | k, x :: r => markB k x :: markBs (endB k x) r
def endBs : Int → List BI → Int
  | k, [] => k
  | k, x :: r => endBs (endB k x) r

theorem markBs_snoc (a : List BI) (x : BI) : ∀ k, markBs k (a ++ [x]) = markBs k a ++ [markB (endBs k a) x] := by
  induction a with
  | nil => intro k; rfl
  | cons y r ih => intro k; simp only [List.cons_append, markBs, endBs, ih]
theorem endBs_snoc (a : List BI) (x : BI) : ∀ k, endBs k (a ++ [x]) = endB (endBs k a) x := by
  induction a with
  | nil => intro k; rfl
  | cons y r ih => intro k; simp only [List.cons_append, endBs, ih]
theorem markBs_length (a : List BI) : ∀ k, (markBs k a).length = a.length := by
  induction a with
  | nil => intro k; rfl
  | cons y r ih => intro k; simp only [markBs, List.length_cons, ih]
theorem endBs_le (a : List BI) : ∀ k, k ≤ endBs k a ∧ endBs k a ≤ k + bulk a + 3 * a.length := by
  induction a with
  | nil => intro k; simp [endBs, bulk]
  | cons y r ih =>
    intro k
    have := ih (endB k y)
    rw [bulk_cons]
    unfold endBs
    unfold endB at *
    unfold BI.wt
    simp only [List.length_cons]
    omega

theorem marksI_ok (k : Int) (n : Nat) (h0 : 0 ≤ k) (h1 : k ≤ 1099511627776) (hn : n ≤ 16777216) : I64s (marksI k n) := marksI_byte k n h0 h1 hn

set_option maxRecDepth 100000 in
set_option maxHeartbeats 4000000 in
theorem markBinds_grown (base : Nat) (ao : Option Addr) (n cap : Nat) (l : List BI) (k : Int) (w : World) (hown : BOwns w base ao n cap l) (hs : n + bulk l ≤ 1048576) (hk0 : 0 < k) (hk1 : k ≤ 1000) :
    Calls Tryz.prog 19 #[.slice ao n cap, .int .i64 k] w fun e w' => e = .returned (.int .i64 (endBs k l)) ∧ BOwns w' base ao n cap (markBs k l) ∧ Only (allB ao l) w w' := by
  have hl := hown.size
  have hend := endBs_le l k
  go_enter Tryz.func19, Tryz.ntmps19
  go_wp2
  go_loopw [1, 5] (fun m i wr => ∃ j : Nat, j ≤ n ∧ i = .int .i64 j ∧ m = .int .i64 (endBs k (l.take j)) ∧ BOwns wr base ao n cap (markBs k (l.take j) ++ l.drop j) ∧ Only (allB ao l) w wr) (fun _ i _ => n - (intOf i).toNat)
  case atStart => exact ⟨0, Nat.zero_le _, rfl, rfl, by simpa [markBs] using hown, Only.refl _ _⟩
  case round =>
    obtain ⟨j, hj, rfl, rfl, hbo, hon⟩ := hrel
    by_cases hlt : j < n
    · have hx : l[j]? = some l[j] := List.getElem?_eq_getElem (by omega)
      generalize l[j] = x at hx
      have hw := bulk_mem (List.mem_of_getElem? hx)
      unfold BI.wt at hw
      have hej := endBs_le (l.take j) k
      have hbj := bulk_take l j
      have hlj : (l.take j).length ≤ n := by rw [List.length_take]; omega
      have hdr : l.drop j = x :: l.drop (j + 1) := by
        obtain ⟨h, rfl⟩ := List.getElem?_eq_some_iff.1 hx
        exact List.drop_eq_getElem_cons h
      have hmx : x ∈ l := List.mem_of_getElem? hx
      have EQ1 := hide (show markBs k (l.take (j + 1)) = markBs k (l.take j) ++ [markB (endBs k (l.take j)) x] by rw [take_one hx, markBs_snoc])
      have EQ2 := hide (show endBs k (l.take (j + 1)) = endB (endBs k (l.take j)) x by rw [take_one hx, endBs_snoc])
      rw [hdr] at hbo
      have hpl : (markBs k (l.take j)).length = j := by rw [markBs_length, List.length_take]; omega
      generalize endBs k (l.take j) = K0 at *
      generalize markBs k (l.take j) = pre at *
      generalize hpo : l.drop (j + 1) = post at *
      have HPO := hide hpo
      clear hpo
      subst hpl
      have I := hbo.item x (by simp)
      obtain ⟨g, hg, ⟨a0, a1, a2, a3, a4⟩, -, fz⟩ := hbo.at
      subst hg
      have hsub : ∀ b, b ∈ x.blks ∨ b = g → b ∈ allB (some ⟨g, 0, none⟩) l := by
        intro b hb
        rcases hb with hb | rfl
        · exact List.mem_append_right _ (List.mem_flatMap.2 ⟨x, hmx, hb⟩)
        · exact List.mem_append_left _ (by simp [blkL])
      have HSUB := hide hsub
      have HBO := hide hbo
      have HON := hide hon
      have IO := hide I.o
      clear hbo hon hsub hdr hx hmx I fz hown
      go_wp2_with fail
      refine (markI_grown base x.oa x.on x.oc x.o K0 _ IO.out (by omega) (by omega) (by omega)).mono ?_
      rintro e w1 ⟨rfl, ho1, hg1⟩
      have B1 := HBO.out.setO hg1 ho1 (marksI_ok _ _ (by omega) (by omega) (by omega))
      have O1 : Only (allB (some ⟨g, 0, none⟩) l) w w1 := HON.out.trans ((Only.of_grown hg1).wider (fun b hb => HSUB.out b (.inl (List.mem_append_left _ hb))))
      clear a0 a1 a2 a3 a4 ho1 hg1
      obtain ⟨g', hg', ⟨a0, a1, a2, a3, a4⟩, -, fz⟩ := B1.at
      cases hg'
      have f1 := fz (pre.length * 5 + 1)
      have f2 := fz (pre.length * 5 + 2)
      have B2 := (B1.setK (K0 + x.on)).setN (K0 + x.on + 1)
      have O2 : Only (allB (some ⟨g, 0, none⟩) l) w _ := (O1.trans ((Only.set w1 g (pre.length * 5 + 1) (.int .i64 (K0 + x.on))).wider (fun b hb => HSUB.out b (.inr (by simpa using hb))))).trans ((Only.set _ g (pre.length * 5 + 2) (.int .i64 (K0 + x.on + 1))).wider (fun b hb => HSUB.out b (.inr (by simpa using hb))))
      have HB2 := hide B2
      have HO2 := hide O2
      clear B1 B2 O1 O2 fz HBO HON IO
      go_wp2_with fail
      refine (markText_any (K0 + x.on + 1 + 1) _ (by omega) (by omega)).mono ?_
      rintro e w3 ⟨rfl, hms, hb3⟩
      have B3 := HB2.out.below hb3
      have O3 := HO2.out.trans (Only.of_below hb3)
      clear a0 a1 a2 a3 a4 hb3 HB2 HO2 f1 f2
      obtain ⟨g', hg', ⟨a0, a1, a2, a3, a4⟩, -, fz⟩ := B3.at
      cases hg'
      have f3 := fz (pre.length * 5 + 3)
      have B4 := B3.setS (mtx (K0 + x.on + 1 + 1)) (by unfold maxLen; omega)
      have O4 := O3.trans ((Only.set w3 g (pre.length * 5 + 3) (.string (mtx (K0 + x.on + 1 + 1)))).wider (fun b hb => HSUB.out b (.inr (by simpa using hb))))
      have IZ := hide (B4.item _ (List.mem_append_right _ (List.mem_cons_self ..))).z
      have HB4 := hide B4
      have HO4 := hide O4
      clear B3 B4 O3 O4 fz
      go_wp2_with fail
      refine (markI_grown base x.za x.zn x.zc x.z (K0 + x.on + 1 + 1 + 1) _ IZ.out (by omega) (by omega) (by omega)).mono ?_
      rintro e w5 ⟨rfl, ho5, hg5⟩
      have HB5 := hide (HB4.out.setZ hg5 ho5 (marksI_ok _ _ (by omega) (by omega) (by omega)))
      have HO5 := hide (HO4.out.trans ((Only.of_grown hg5).wider (fun b hb => HSUB.out b (.inl (List.mem_append_right _ hb)))))
      clear a0 a1 a2 a3 a4 f3 ho5 hg5 IZ HB4 HO4
      go_wp2
      go_roundw
      case rel =>
        refine ⟨pre.length + 1, by omega, by go_num, ?_, ?_, HO5.out⟩
        · rw [EQ2.out]; unfold endB; rfl
        · rw [EQ1.out, List.append_assoc, HPO.out]
          exact HB5.out
      case measure => simp [intOf]; omega
    · have hj' : j = n := by omega
      subst hj'
      rw [List.take_of_length_le (by omega), List.drop_of_length_le (by omega), List.append_nil] at hbo
      rw [List.take_of_length_le (by omega)]
      go_wp2
      go_ret
      exact ⟨rfl, hbo, hon⟩

theorem markBs_get : ∀ (l : List BI) (k : Int) (j : Nat) (x : BI), l[j]? = some x → (markBs k l)[j]? = some (markB (endBs k (l.take j)) x)
  | [], _, j, _, h => by simp at h
  | y :: r, k, 0, x, h => by
    simp at h
    subst h
    rfl
  | y :: r, k, j + 1, x, h => by
    have := markBs_get r (endB k y) j x (by simpa using h)
    simpa [markBs, endBs] using this

set_option maxRecDepth 100000 in
set_option maxHeartbeats 4000000 in
theorem heldBinds_any (ao : Option Addr) (n cap : Nat) (l : List BI) (k : Int) (w : World) (hr : BRow w ao n cap (markBs k l)) (hs : n + bulk l ≤ 1048576) (hk0 : 0 < k) (hk1 : k ≤ 1000) :
    Calls Tryz.prog 20 #[.slice ao n cap, .int .i64 k] w fun e w' => e = .returned (.int .i64 (endBs k l)) ∧ Below w.heap.size w w' := by
  have hl := hr.size
  rw [markBs_length] at hl
  have hend := endBs_le l k
  go_enter Tryz.func20, Tryz.ntmps20
  go_wp2
  go_loopw [1, 5] (fun m i wr => ∃ j : Nat, j ≤ n ∧ i = .int .i64 j ∧ m = .int .i64 (endBs k (l.take j)) ∧ Below w.heap.size w wr) (fun _ i _ => n - (intOf i).toNat)
  case atStart => exact ⟨0, Nat.zero_le _, rfl, rfl, Below.refl _ _⟩
  case round =>
    obtain ⟨j, hj, rfl, rfl, hb⟩ := hrel
    by_cases hlt : j < n
    · have hx : l[j]? = some l[j] := List.getElem?_eq_getElem (by omega)
      generalize l[j] = x at hx
      have hw := bulk_mem (List.mem_of_getElem? hx)
      unfold BI.wt at hw
      have hej := endBs_le (l.take j) k
      have hbj := bulk_take l j
      have hlj : (l.take j).length ≤ n := by rw [List.length_take]; omega
      obtain ⟨y, b, off, hy, rfl, hat, hin⟩ := (hr.below hb).at j hlt
      rw [markBs_get l k j x hx] at hy
      cases hy
      have EQ2 := hide (show endBs k (l.take (j + 1)) = endB (endBs k (l.take j)) x by rw [take_one hx, endBs_snoc])
      generalize endBs k (l.take j) = K0 at *
      have CX : Hid (∀ W, Below wr.heap.size wr W → (markB K0 x).At W b (off + j * 5)) := fun W h => hat.below h
      unfold BI.At markB at CX
      unfold BI.At markB at hat
      have h1 : IRow wr x.oa x.on x.oc (marksI K0 x.on) := hin.o
      have h2 : IRow wr x.za x.zn x.zc (marksI (K0 + x.on + 1 + 1 + 1) x.zn) := hin.z
      have HB := hide hb
      clear hb hx hin
      simp only at CX hat
      obtain ⟨a0, a1, a2, a3, a4⟩ := hat
      go_wp2_with fail
      refine (heldI_any x.oa x.on x.oc K0 _ h1 (by omega) (by omega) (by omega)).mono ?_
      rintro e w1 ⟨rfl, rfl⟩
      go_wp2_with fail
      go_region_held3 (fun W => W.cell? ⟨b, off + j * 5 + 3, none⟩ = some (.string (mtx (K0 + x.on + 1 + 1)))) (first | exact (CX.out _ u2).2.2.2.1 | go_keep) (first
        | (go_at_call 32; refine (markText_any (K0 + x.on + 1 + 1) _ (by omega) (by omega)).mono ?_; rintro e w2 ⟨rfl, hms, hb2⟩; have u2 := undrew hb2))
      clear a0 a1 a2 a3 a4 hb2
      obtain ⟨a0, a1, a2, a3, a4⟩ := CX.out _ u2
      go_wp2_with fail
      refine (heldI_any x.za x.zn x.zc (K0 + x.on + 1 + 1 + 1) _ (h2.below u2) (by omega) (by omega) (by omega)).mono ?_
      rintro e w3 ⟨rfl, rfl⟩
      have HB2 := hide (HB.out.trans (u2.mono HB.out.size))
      clear a0 a1 a2 a3 a4 u2 h1 h2 CX
      go_wp2
      go_roundw
      case rel =>
        refine ⟨j + 1, by omega, by go_num, ?_, HB2.out⟩
        rw [EQ2.out]; unfold endB; rfl
      case measure => simp [intOf]; omega
    · have hj' : j = n := by omega
      subst hj'
      rw [List.take_of_length_le (by omega)]
      go_wp2
      go_ret
      exact ⟨rfl, hb⟩

set_option maxRecDepth 100000 in
set_option maxHeartbeats 400000 in
theorem markPdu_grown (K I A B : Int) (base : Nat) (ao : Option Addr) (n cap : Nat) (l : List BI) (k : Int) (w : World) (hown : BOwns w base ao n cap l) (hs : n + bulk l ≤ 1048576) (hk0 : 0 < k) (hk1 : k ≤ 1000) :
    Calls Tryz.prog 10 #[.agg #[.int .i64 K, .int .i64 I, .int .i64 A, .int .i64 B, .slice ao n cap], .int .i64 k] w fun e w' => e = .returned (.int .i64 (endBs k l)) ∧ BOwns w' base ao n cap (markBs k l) ∧ Only (allB ao l) w w' := by
  go_enter Tryz.func10, Tryz.ntmps10
  go_wp2_with fail
  refine (markBinds_grown base ao n cap l k _ (hown.below (below_one _ _)) hs hk0 hk1).mono ?_
  rintro e w1 ⟨rfl, ho, hg⟩
  go_wp2
  go_ret
  exact ⟨rfl, ho, (Only.of_below (below_one w _)).trans hg⟩

set_option maxRecDepth 100000 in
set_option maxHeartbeats 400000 in
theorem heldPdu_any (K I A B : Int) (ao : Option Addr) (n cap : Nat) (l : List BI) (k : Int) (w : World) (hr : BRow w ao n cap (markBs k l)) (hs : n + bulk l ≤ 1048576) (hk0 : 0 < k) (hk1 : k ≤ 1000) :
    Calls Tryz.prog 11 #[.agg #[.int .i64 K, .int .i64 I, .int .i64 A, .int .i64 B, .slice ao n cap], .int .i64 k] w fun e w' => e = .returned (.int .i64 (endBs k l)) ∧ Below w.heap.size w w' := by
  have hend := endBs_le l k
  go_enter Tryz.func11, Tryz.ntmps11
  go_wp2_with fail
  refine (heldBinds_any ao n cap l k _ (hr.below (below_one _ _)) hs hk0 hk1).mono ?_
  rintro e w1 ⟨rfl, hb⟩
  go_wp2
  go_ret
  exact ⟨rfl, (below_one w _).trans (hb.mono (below_one w _).size)⟩

end Go.Proofs.YtamglfhnhjgdjabGreatDoor
