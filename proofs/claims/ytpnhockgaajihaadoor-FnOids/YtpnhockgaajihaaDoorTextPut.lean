/-
  A number's text and a name's text by contracts: the specification's.
-/
import Derived.Test.YtpnhockgaajihaaDoorOidOk
import Derived.Test.YtpnhockgaajihaaDoorTextMath
import Derived.Laws.IdiomStrings
namespace Go.Proofs.YtpnhockgaajihaaDoor
open Go.RowKit
open Go.Lib (decDigits)

theorem app_list (a b : ByteArray) : (a ++ b).data.toList = a.data.toList ++ b.data.toList := by rw [ByteArray.data_append, Array.toList_append]

theorem dec_small {n : Nat} (h : n < 10) : decDigits n = [UInt8.ofNat (48 + n)] := by rw [decDigits, dif_pos h]
theorem dec_big {n : Nat} (h : ¬ n < 10) : decDigits n = decDigits (n / 10) ++ [UInt8.ofNat (48 + n % 10)] := by rw [decDigits, dif_neg h]

theorem dec_length (k : Nat) : ∀ n, n < 10 ^ (k + 1) → (decDigits n).length ≤ k + 1 := by
  induction k with
  | zero => intro n h; rw [dec_small (by omega)]; simp
  | succ k ih =>
    intro n h
    by_cases h1 : n < 10
    · rw [dec_small h1]; simp
    · rw [dec_big h1]
      have : n / 10 < 10 ^ (k + 1) := by
        rw [Nat.div_lt_iff_lt_mul (by omega)]
        rw [Nat.pow_succ] at h; exact h
      have := ih _ this
      simp; omega

theorem dec_short {n : Nat} (h : n ≤ 100000) : (decDigits n).length ≤ 6 := dec_length 5 n (by omega)

/-- One digit as a text. -/
theorem digit_conv (w : World) (B : Nat) (b : UInt8) (x : Int) (hb : (b.toNat : Int) = x) (hc : w.cell? ⟨B, 0, none⟩ = some (.int .u8 x)) : (convert 22 9 (.slice (some ⟨B, 0, none⟩) 1 1)).run Tryd.prog w = .ok (.string ⟨#[b]⟩) w := by
  have := run_convert_bytes_back (P := Tryd.prog) w 22 9 5 ⟨B, 0, none⟩ 1 [b] Tryd.underlying22 Tryd.underlying5 Tryd.underlying9 (by
    intro j hj
    obtain rfl : j = 0 := by simpa using hj
    have e : (⟨B, 0, none⟩ : Addr).add 0 = ⟨B, 0, none⟩ := by simp [Addr.add]
    rw [e, hc, ← hb]
    rfl)
  exact this

theorem digit_byte (d : Nat) (h : d ≤ 9) : (((UInt8.ofNat (48 + d)).toNat : Nat) : Int) = 48 + (d : Int) := by
  rw [UInt8.toNat_ofNat']
  omega

set_option maxRecDepth 100000 in
set_option maxHeartbeats 1000000 in
theorem specNum_small (n : Int) (w : World) (h0 : 0 ≤ n) (h1 : n < 10) :
    Calls Tryd.prog 43 #[.int .i64 n] w fun e w' => ∃ S : ByteArray, e = .returned (.string S) ∧ S.data.toList = decDigits n.toNat ∧ Below w.heap.size w w' := by
  have hd := dec_small (n := n.toNat) (by omega)
  have hb := digit_byte n.toNat (by omega)
  have hn : (n.toNat : Int) = n := by omega
  rw [hn] at hb
  generalize UInt8.ofNat (48 + n.toNat) = b at hd hb
  have hcv := digit_conv (w.alloc (.cells #[.int .u8 (48 + n)] 5)) w.heap.size b (48 + n) hb (by simp)
  have HD := hide hd
  clear hd hb hn
  go_enter Tryd.func43, Tryd.ntmps43
  go_wp2
  go_ret
  exact ⟨_, rfl, HD.out.symm, (Below.refl _ _).alloc (Nat.le_refl _) _⟩

set_option maxRecDepth 100000 in
set_option maxHeartbeats 1000000 in
theorem specNum_any : ∀ (k : Nat) (n : Int) (w : World) (_ : 0 ≤ n) (_ : n < 10 ^ (k + 1)) (_ : n ≤ 100000),
    Calls Tryd.prog 43 #[.int .i64 n] w fun e w' => ∃ S : ByteArray, e = .returned (.string S) ∧ S.data.toList = decDigits n.toNat ∧ Below w.heap.size w w'
  | 0, n, w, h0, h1, _ => specNum_small n w h0 (by simpa using h1)
  | k + 1, n, w, h0, h1, h2 => by
    by_cases hs : n < 10
    · exact specNum_small n w h0 hs
    have ih := fun w' => specNum_any k (n / 10) w' (by omega) (by rw [Int.pow_succ] at h1; omega) (by omega)
    have HD := hide (dec_big (n := n.toNat) (by omega))
    have hl := dec_short (n := n.toNat / 10) (by omega)
    have hq : (n / 10).toNat = n.toNat / 10 := by omega
    have hd1 : 0 ≤ n % 10 := by omega
    have hd2 : n % 10 ≤ 9 := by omega
    have hby := digit_byte (n.toNat % 10) (by omega)
    have hmm : ((n.toNat % 10 : Nat) : Int) = n % 10 := by omega
    rw [hmm] at hby
    generalize UInt8.ofNat (48 + n.toNat % 10) = b at HD hby
    rw [hq] at ih
    generalize decDigits (n.toNat / 10) = D at HD hl ih
    have hw1 : IntKind.i64.wrap (n.tdiv 10) = n / 10 := by
      rw [Int.tdiv_eq_ediv_of_nonneg h0, IntKind.wrap_i64]; omega
    have hw2 : IntKind.i64.wrap (48 + n.tmod 10) = 48 + n % 10 := by
      rw [Int.tmod_eq_emod_of_nonneg h0, IntKind.wrap_i64]; omega
    have hw3 : IntKind.u8.wrap (48 + n % 10) = 48 + n % 10 := by
      simp [IntKind.wrap, IntKind.bits, IntKind.signed]; omega
    have hcv := fun w' B hc => digit_conv w' B b (48 + n % 10) hby hc
    generalize 48 + n % 10 = x at *
    generalize n / 10 = q at *
    have HCV := hide hcv
    clear hmm hby hq hcv hd1 hd2
    go_enter Tryd.func43, Tryd.ntmps43
    go_wp2
    have cv0 := HCV.out (w.alloc (.cells #[.int .u8 x] 5)) w.heap.size (by simp)
    have cv1 := HCV.out ((w.alloc (.cells #[.int .u8 x] 5)).drew) w.heap.size (by first | (simp; done) | exact (show (w.alloc (.cells #[.int .u8 x] 5)).cell? ⟨w.heap.size, 0, none⟩ = some (.int .u8 x) by simp))
    go_region_with ((go_at_call 43; refine (ih _).mono ?_; rintro e w1 ⟨S, rfl, hS, hb1⟩; have hSs : S.size ≤ 6 := by { rw [Go.Lib.size_eq, hS]; exact hl }; have hc2 := hb1.cell (p := ⟨w.heap.size, 0, none⟩); have cv2 := HCV.out w1 w.heap.size; have cv3 := HCV.out (w1.alloc (.cells #[.int .u8 x] 5)) w1.heap.size (by simp)))
    all_goals
      go_wp2
      go_ret
      refine ⟨_, rfl, ?_, ?_⟩
      · rw [HD.out, app_list, hS]
      · first | exact ((Below.refl _ _).drew.trans hb1).alloc hb1.size _ | exact (((Below.refl _ _).alloc (Nat.le_refl _) _).drew.trans (hb1.mono (by simp))) | exact (((Below.refl _ _).drew.trans hb1).alloc (by have := hb1.size; simpa using this) _)

theorem specNum_made (n : Int) (w : World) (h0 : 0 ≤ n) (h2 : n ≤ 100000) :
    Calls Tryd.prog 43 #[.int .i64 n] w fun e w' => ∃ S : ByteArray, e = .returned (.string S) ∧ S.data.toList = decDigits n.toNat ∧ Below w.heap.size w w' :=
  specNum_any 5 n w h0 (by have : (10 : Int) ^ (5 + 1) = 1000000 := by decide
                           omega) h2

/-- The text of the first k numbers. -/
def txt (o : List Int) (k : Nat) : List UInt8 := Go.Lib.join ((o.take k).map fun z => decDigits z.toNat) [46]

theorem txt_zero (o : List Int) : txt o 0 = [] := rfl
theorem txt_one (o : List Int) (h : 0 < o.length) : txt o 1 = decDigits (o.getD 0 0).toNat := by
  cases o with
  | nil => simp at h
  | cons a r => simp [txt, Go.Lib.join_one]
theorem txt_succ (o : List Int) (k : Nat) (hk : 0 < k) (h : k < o.length) : txt o (k + 1) = (txt o k ++ [46]) ++ decDigits (o.getD k 0).toNat := by
  cases o with
  | nil => simp at h
  | cons a r =>
    obtain ⟨j, rfl⟩ : ∃ j, k = j + 1 := ⟨k - 1, by omega⟩
    have hj : j < r.length := by simp at h; omega
    unfold txt
    simp only [List.take_succ_cons, List.map_cons]
    rw [Go.Lib.join_cons, Go.Lib.join_cons, List.map_take, List.map_take]
    rw [Go.Lib.joinTail_take_succ [46] (r.map fun z => decDigits z.toNat) j (decDigits (r.getD j 0).toNat) (by simp [hj])]
    simp

theorem txt_length (o : List Int) (ho : ∀ z ∈ o, 0 ≤ z ∧ z ≤ 100000) : ∀ k, k ≤ o.length → (txt o k).length ≤ 7 * k := by
  intro k
  induction k with
  | zero => intro _; simp [txt_zero]
  | succ k ih =>
    intro hk
    have hm : o.getD k 0 ∈ o := by rw [List.getD_eq_getElem?_getD, List.getElem?_eq_getElem (by omega)]; exact List.getElem_mem _
    have hz := ho _ hm
    have hd := dec_short (n := (o.getD k 0).toNat) (by omega)
    by_cases h0 : k = 0
    · subst h0
      rw [txt_one o (by omega)]
      omega
    · rw [txt_succ o k (by omega) (by omega)]
      have := ih (by omega)
      simp only [List.length_append, List.length_cons, List.length_nil]
      omega

theorem txt_whole (o : List Int) (hok : oidOk o = true) : txt o o.length = textO o := by simp [txt, textO, hok]

theorem str_of {S : ByteArray} {l : List UInt8} (h : S.data.toList = l) : S = ⟨l.toArray⟩ := by
  subst h
  cases S
  rfl

theorem ret_str {S : ByteArray} {l : List UInt8} (h : S.data.toList = l) : Ending.returned (.string S) = .returned (.string ⟨l.toArray⟩) := by rw [str_of h]

set_option maxRecDepth 100000 in
set_option maxHeartbeats 1000000 in
theorem specText_any (a1 : Option Addr) (l1 c1 : Nat) (z1 : List Int) (T : List UInt8) (hT : textO z1 = T) (w : World) (h1 : IRow w a1 l1 c1 z1) :
    Calls Tryd.prog 27 #[.slice a1 l1 c1] w fun e w' => e = .returned (.string ⟨T.toArray⟩) ∧ Below w.heap.size w w' := by
  have s1 := h1.size
  by_cases hok : oidOk z1 = true
  · obtain ⟨hz, hl1, hl2⟩ := ok_all hok
    have hw := txt_whole z1 hok
    rw [hT] at hw
    have HTW := hide hw
    have HZ := hide hz
    have HTL := hide (txt_length z1 hz)
    have hcell := h1.cell
    have HOK := hide hok
    clear hw hz hok hT
    go_enter Tryd.func27, Tryd.ntmps27
    go_wp2_with fail
    refine (specOk_any _ _ _ z1 _ h1).mono ?_
    rintro e w1 ⟨rfl, hw1⟩
    subst hw1
    rw [HOK.out]
    go_wp2
    go_loopw [3, 4] (fun s i wr => ∃ (k : Nat) (S : ByteArray), k ≤ l1 ∧ i = .int .i64 k ∧ s = .string S ∧ S.data.toList = txt z1 k ∧ Below w1.heap.size w1 wr) (fun _ i _ => l1 - (intOf i).toNat)
    case atStart => exact ⟨0, _, Nat.zero_le _, rfl, rfl, rfl, Below.refl _ _⟩
    case round =>
      obtain ⟨k, S, hk, rfl, rfl, hS, hb⟩ := hrel
      have hbw := hb.size
      have hSs : S.size ≤ 70 := by
        rw [Go.Lib.size_eq, hS]
        have := HTL.out k (by omega)
        omega
      have HS := hide hS
      clear hS
      by_cases hlt : k < l1
      · rcases hcell with h0 | ⟨b, off, rfl, hc⟩
        · omega
        have cx : wr.cell? ⟨b, off + k, none⟩ = some (.int .i64 (z1.getD k 0)) := by rw [hb.cell (block_lt (hc k hlt))]; exact hc k hlt
        have hx := HZ.out (z1.getD k 0) (by rw [List.getD_eq_getElem?_getD, List.getElem?_eq_getElem (by omega)]; exact List.getElem_mem _)
        have ht0 : k = 0 → txt z1 (k + 1) = decDigits (z1.getD k 0).toNat := by rintro rfl; exact txt_one z1 (by omega)
        have ht1 : 0 < k → txt z1 (k + 1) = (txt z1 k ++ [46]) ++ decDigits (z1.getD k 0).toNat := fun h => txt_succ z1 k h (by omega)
        clear hc
        generalize z1.getD k 0 = x at cx hx ht0 ht1
        have H0 := hide ht0
        have H1 := hide ht1
        clear ht0 ht1
        by_cases hk0 : k = 0
        · subst hk0
          rw [Nat.add_zero] at cx
          have hi0 : ¬ (0 : Int) < ((0 : Nat) : Int) := by omega
          go_wp2_with fail
          refine (specNum_made x _ hx.1 hx.2).mono ?_
          rintro e w2 ⟨N, rfl, hN, hb2⟩
          have hNs : N.size ≤ 6 := by rw [Go.Lib.size_eq, hN]; exact dec_short (by omega)
          have hle : ¬ 9223372036854775807 < S.size + N.size := by omega
          have hres : (S ++ N).data.toList = txt z1 (0 + 1) := by
            rw [app_list, HS.out, txt_zero, hN, H0.out trivial]
            rfl
          have HRES := hide hres
          have hbn := hb.trans (hb2.mono hbw)
          clear hN hb2 hres
          go_wp2
          go_roundw
          case rel => exact ⟨0 + 1, _, by omega, by go_num, rfl, HRES.out, hbn⟩
          case measure => simp [intOf]; omega
        · have hi0 : (0 : Int) < (k : Int) := by omega
          have hd1 : (⟨#[46]⟩ : ByteArray).size = 1 := rfl
          have hle0 : ¬ 9223372036854775807 < S.size + 1 := by omega
          have hle0' : ¬ 9223372036854775807 < S.size + (⟨#[46]⟩ : ByteArray).size := by rw [hd1]; omega
          go_wp2_with fail
          refine (specNum_made x _ hx.1 hx.2).mono ?_
          rintro e w2 ⟨N, rfl, hN, hb2⟩
          have hNs : N.size ≤ 6 := by rw [Go.Lib.size_eq, hN]; exact dec_short (by omega)
          have hle : ¬ 9223372036854775807 < (S ++ (⟨#[46]⟩ : ByteArray)).size + N.size := by rw [ByteArray.size_append, hd1]; omega
          have hle2 : ¬ 9223372036854775807 < S.size + 1 + N.size := by omega
          have hres : (S ++ (⟨#[46]⟩ : ByteArray) ++ N).data.toList = txt z1 (k + 1) := by
            rw [app_list, app_list, HS.out, hN, H1.out (by omega)]
          have HRES := hide hres
          have hbn := hb.trans (hb2.mono hbw)
          clear hN hb2 hres
          go_wp2
          go_roundw
          case rel => exact ⟨k + 1, _, by omega, by go_num, rfl, HRES.out, hbn⟩
          case measure => simp [intOf]; omega
      · have hk' : k = z1.length := by omega
        have HF : Hid (S.data.toList = T) := hide (by rw [HS.out, hk', HTW.out])
        go_wp2
        go_ret
        exact ⟨ret_str HF.out, hb⟩
  · have hT0 : T = [] := by rw [← hT]; simp [textO, hok]
    subst hT0
    have hok' : oidOk z1 = false := by simpa using hok
    have HOK := hide hok'
    clear hok hok' hT
    go_enter Tryd.func27, Tryd.ntmps27
    go_wp2_with fail
    refine (specOk_any _ _ _ z1 _ h1).mono ?_
    rintro e w1 ⟨rfl, hw1⟩
    subst hw1
    rw [HOK.out]
    go_wp2
    go_ret
    exact ⟨rfl, Below.refl _ _⟩

end Go.Proofs.YtpnhockgaajihaaDoor
