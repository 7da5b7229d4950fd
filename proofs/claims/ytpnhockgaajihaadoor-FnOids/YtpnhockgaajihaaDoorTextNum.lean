/-
  A word's number, by contracts: the specification's l2Parse and the program's plainNumber.
-/
import Derived.Test.YtpnhockgaajihaaDoorOidOk
import Derived.Test.YtpnhockgaajihaaDoorTextCut
import Derived.Lib.ConvBytes
namespace Go.Proofs.YtpnhockgaajihaaDoor
open Go.RowKit

theorem byte_at (s : ByteArray) (k : Nat) (h : k < s.size) : s.data.toList.getD k 0 = s[k] := by
  have h' : k < s.data.toList.length := by rw [size_list]; exact h
  rw [List.getD_eq_getElem?_getD, List.getElem?_eq_getElem h']
  simp
  rfl

theorem val_succ (l : List UInt8) (k : Nat) (h : k < l.length) : valW (l.take (k + 1)) = valW (l.take k) * 10 + ((l.getD k 0).toNat - 48) := by
  have e : l.getD k 0 = l[k] := by simp [h]
  rw [List.take_succ_eq_append_getElem h, e]
  unfold valW
  rw [List.foldl_append, List.foldl_cons, List.foldl_nil]
  rfl

theorem isD_succ (l : List UInt8) (k : Nat) (h : k < l.length) (hk : (l.take k).all isD = true) (hd : isD (l.getD k 0) = true) : (l.take (k + 1)).all isD = true := by
  rw [List.take_succ_eq_append_getElem h, List.all_append, hk]
  simpa [h] using hd

theorem okW_nod {mx : Nat} {l : List UInt8} {k : Nat} (h : k < l.length) (hd : isD (l.getD k 0) = false) : ¬ okW mx l = true := by
  intro hok
  have := (okW_parts hok).2.2.2
  have hm : l.getD k 0 ∈ l := by rw [List.getD_eq_getElem?_getD, List.getElem?_eq_getElem h]; exact List.getElem_mem h
  rw [List.all_eq_true.1 this _ hm] at hd
  cases hd

theorem okW_nolen {mx : Nat} {l : List UInt8} (h : ¬ (1 ≤ l.length ∧ l.length ≤ mx)) : ¬ okW mx l = true := by
  intro hok
  have := okW_parts hok
  exact h ⟨this.1, this.2.1⟩

theorem head_getD (l : List UInt8) (h : 1 ≤ l.length) : l.head? = some (l.getD 0 0) := by
  cases l with
  | nil => simp at h
  | cons a r => simp

theorem byte_inj {b : UInt8} {n : Nat} (h : b.toNat = n) (hn : n < 256) : b = UInt8.ofNat n := by
  apply UInt8.toNat_inj.1
  rw [h, UInt8.toNat_ofNat']
  omega

theorem okW_nought {mx : Nat} {l : List UInt8} (h1 : 1 < l.length) (h0 : (l.getD 0 0).toNat = 48) : ¬ okW mx l = true := by
  intro hok
  refine (okW_parts hok).2.2.1 h1 ?_
  rw [head_getD l (by omega), byte_inj h0 (by omega)]
  rfl

theorem okW_yes {mx : Nat} {l : List UInt8} {k : Nat} (hk : k = l.length) (h1 : 1 ≤ l.length) (h2 : l.length ≤ mx) (h0 : 1 < l.length → (l.getD 0 0).toNat ≠ 48) (hd : (l.take k).all isD = true) : okW mx l = true := by
  subst hk
  rw [List.take_length] at hd
  refine okW_of h1 h2 (fun hl e => h0 hl ?_) hd
  rw [head_getD l h1] at e
  have : l.getD 0 0 = 48 := by simpa using e
  rw [this]
  rfl

theorem val_take_lt (l : List UInt8) (k : Nat) (hk : k ≤ 7) (hd : (l.take k).all isD = true) : valW (l.take k) < 10000000 := by
  have h := fold_lt (l.take k) 0 hd
  have h2 : 10 ^ (l.take k).length ≤ 10 ^ 7 := Nat.pow_le_pow_right (by omega) (by simp; omega)
  unfold valW
  simp only [Nat.zero_add, Nat.one_mul] at h
  omega

theorem parse_neg {l : List UInt8} (h : ¬ okW 7 l = true) : parseW 7 l = -1 := by simp [parseW, h]
theorem parse_val {l : List UInt8} {k : Nat} (hk : k = l.length) (h : okW 7 l = true) : parseW 7 l = (valW (l.take k) : Int) := by subst hk; simp [parseW, h]

theorem byte_small (b : UInt8) : b.toNat ≤ 255 := by have := b.toNat_lt; omega

set_option maxRecDepth 100000 in
set_option maxHeartbeats 1000000 in
theorem specParse_any (s : ByteArray) (w : World) (hs : s.size ≤ 1048576) :
    Calls Tryd.prog 35 #[.string s] w fun e w' => e = .returned (.int .i64 (parseW 7 s.data.toList)) ∧ w' = w := by
  have hsz := size_list s
  by_cases hl : 1 ≤ s.size ∧ s.size ≤ 7
  · by_cases h0 : 1 < s.size ∧ (s.data.toList.getD 0 0).toNat = 48
    · have HP := hide (parse_neg (okW_nought (mx := 7) (l := s.data.toList) (by omega) h0.2))
      obtain ⟨hl1, hl2⟩ := hl
      obtain ⟨h01, h02⟩ := h0
      have hp0 : 0 < s.size := hl1
      have hx0 : (s[0]'hp0).toNat = 48 := by rw [← byte_at s 0 hp0]; exact h02
      clear h02
      go_enter Tryd.func35, Tryd.ntmps35
      go_wp2_with fail
      refine (in_any s.size 1 7 _).mono ?_
      rintro e w1 ⟨rfl, rfl⟩
      rw [decide_eq_true (by omega), decide_eq_true (by omega)]
      go_wp2
      go_ret
      exact ⟨ret_int HP.out.symm, rfl⟩
    · have hn0 : 1 < s.data.toList.length → (s.data.toList.getD 0 0).toNat ≠ 48 := by
        intro h1 h2
        exact h0 ⟨by omega, h2⟩
      have HN := hide hn0
      obtain ⟨hl1, hl2⟩ := hl
      have hp0 : 0 < s.size := hl1
      have hy0 : 1 < s.size → (s[0]'hp0).toNat ≠ 48 := by
        intro h1
        rw [← byte_at s 0 hp0]
        exact hn0 (by omega)
      clear hn0 h0
      have core : ∀ (hc : (1 < s.size ∧ ((((s[0]'hp0).toNat : Nat) : Int) == 48) = false) ∨ ¬ 1 < s.size), Calls Tryd.prog 35 #[.string s] w fun e w' => e = .returned (.int .i64 (parseW 7 s.data.toList)) ∧ w' = w := by
        intro hc
        rcases hc with ⟨hc1, hc2⟩ | hc1
        all_goals
          go_enter Tryd.func35, Tryd.ntmps35
          go_wp2_with fail
          refine (in_any s.size 1 7 _).mono ?_
          rintro e w1 ⟨rfl, hw1⟩
          subst hw1
          rw [decide_eq_true (by omega), decide_eq_true (by omega)]
          go_wp2
          go_loop [3, 4] (fun m i => ∃ k : Nat, k ≤ s.size ∧ i = .int .i64 k ∧ m = .int .i64 (valW (s.data.toList.take k) : Int) ∧ (s.data.toList.take k).all isD = true) (fun _ i => s.size - (intOf i).toNat)
          case atStart => exact ⟨0, Nat.zero_le _, rfl, rfl, rfl⟩
          case round =>
            obtain ⟨k, hk, rfl, rfl, hd⟩ := hrel
            have hv := val_take_lt s.data.toList k (by omega) hd
            have HD := hide hd
            clear hd
            by_cases hlt : k < s.size
            · have hsu := val_succ s.data.toList k (by omega)
              have hby := byte_small (s.data.toList.getD k 0)
              have hbk := byte_at s k hlt
              generalize hz : s.data.toList.getD k 0 = z at hsu hby hbk
              have hsk : (s[k]'hlt).toNat = z.toNat := by rw [hbk]
              have HZ := hide hz
              clear hz hbk
              generalize hzz : z.toNat = zn at hsu hby hsk
              have HZZ := hide hzz
              have HS := hide hsu
              clear hzz hsu
              generalize valW (s.data.toList.take k) = v at hv HS
              by_cases hdig : 48 ≤ zn ∧ zn ≤ 57
              · go_wp2_with fail
                refine (in_any zn 48 57 _).mono ?_
                rintro e w2 ⟨rfl, hw2⟩
                subst hw2
                rw [decide_eq_true (by omega), decide_eq_true (by omega)]
                go_wp2
                go_round
                case rel =>
                  first | refine ⟨_, _, _, _, _, _, _, _, _, _, _, _, _, _, _, _, _, _, _, _, _, _, _, ?_, rfl⟩ | skip
                  have hcast : ((v * 10 + (zn - 48) : Nat) : Int) = (v : Int) * 10 + ((zn : Int) - 48) := by omega
                  exact ⟨k + 1, by omega, by go_num, by rw [HS.out, hcast], isD_succ _ _ (by omega) HD.out (by rw [HZ.out]; unfold isD; rw [HZZ.out]; exact decide_eq_true hdig)⟩
                case measure => simp [intOf]; omega
              · have HP := hide (parse_neg (okW_nod (mx := 7) (l := s.data.toList) (k := k) (by omega) (by rw [HZ.out]; unfold isD; rw [HZZ.out]; exact decide_eq_false hdig)))
                go_wp2_with fail
                refine (in_any zn 48 57 _).mono ?_
                rintro e w2 ⟨rfl, hw2⟩
                subst hw2
                rw [show (decide ((48 : Int) ≤ zn) && decide ((zn : Int) ≤ 57)) = false by rw [← Bool.decide_and]; exact decide_eq_false (by omega)]
                go_wp2
                go_ret
                exact ⟨ret_int HP.out.symm, rfl⟩
            · have HP := hide (parse_val (l := s.data.toList) (k := k) (by omega) (okW_yes (mx := 7) (k := k) (by omega) (by omega) (by omega) HN.out HD.out))
              go_wp2
              go_ret
              exact ⟨ret_int HP.out.symm, rfl⟩
      by_cases hq : 1 < s.size
      · exact core (.inl ⟨hq, by have := hy0 hq; rw [beq_eq_false_iff_ne]; omega⟩)
      · exact core (.inr hq)
  · have HP := hide (parse_neg (okW_nolen (mx := 7) (l := s.data.toList) (by omega)))
    have hf : (decide ((1 : Int) ≤ s.size) && decide ((s.size : Int) ≤ 7)) = false := by
      rw [← Bool.decide_and]
      exact decide_eq_false (by omega)
    go_enter Tryd.func35, Tryd.ntmps35
    go_wp2_with fail
    refine (in_any s.size 1 7 _).mono ?_
    rintro e w1 ⟨rfl, rfl⟩
    rw [hf]
    go_wp2
    go_ret
    exact ⟨ret_int HP.out.symm, rfl⟩

end Go.Proofs.YtpnhockgaajihaaDoor
