/-
  A word's number, by the program's plainNumber.
-/
import Derived.Test.YtpnhockgaajihaaDoorTextNum
import Derived.Lib.AtoiErrMem
namespace Go.Proofs.YtpnhockgaajihaaDoor
open Go.RowKit

/-- What plainNumber answers of a word. -/
def PlainAns (l : List UInt8) (e : Ending) : Prop :=
  (okW 6 l = true ∧ e = .returned (.tuple #[.int .i64 (valW l : Int), .bool true])) ∨ (¬ okW 6 l = true ∧ e = .returned (.tuple #[.int .i64 0, .bool false]))

theorem empty_of (s : ByteArray) (h : s.size = 0) : s = ⟨#[]⟩ := by
  cases s with
  | mk d =>
    have : d.size = 0 := h
    rw [Array.eq_empty_of_size_eq_zero this]

theorem val_whole {l : List UInt8} {k : Nat} (hk : k = l.length) : valW (l.take k) = valW l := by subst hk; simp

set_option maxRecDepth 100000 in
set_option maxHeartbeats 1000000 in
theorem plain_any (s : ByteArray) (w : World) (hs : s.size ≤ 1048576) :
    Calls Tryd.prog 49 #[.string s, .int .i64 6] w fun e w' => PlainAns s.data.toList e ∧ Below w.heap.size w w' := by
  have hsz := size_list s
  by_cases he : s.size = 0
  · have HN := hide (okW_nolen (mx := 6) (l := s.data.toList) (by omega))
    obtain rfl := empty_of s he
    clear hsz hs he
    go_enter Tryd.func49, Tryd.ntmps49
    go_wp2
    go_ret2
    exact ⟨.inr ⟨HN.out, rfl⟩, Below.refl _ _⟩
  have hne : s.toList.isEmpty = false := by
    rw [Go.Lib.toList_data]
    cases h : s.data.toList with
    | nil => rw [h] at hsz; simp at hsz; omega
    | cons a r => rfl
  by_cases hl : 6 < s.size
  · have HN := hide (okW_nolen (mx := 6) (l := s.data.toList) (by omega))
    go_enter Tryd.func49, Tryd.ntmps49
    go_wp2
    go_ret2
    exact ⟨.inr ⟨HN.out, rfl⟩, Below.refl _ _⟩
  have hp0 : 0 < s.size := by omega
  have hb0 := byte_at s 0 hp0
  by_cases h48 : (s[0]'hp0).toNat = 48
  · have hq : ((((s[0]'hp0).toNat : Nat) : Int) == 48) = true := by rw [beq_iff_eq]; omega
    by_cases h1 : 1 < s.size
    · have HN := hide (okW_nought (mx := 6) (l := s.data.toList) (by omega) (by rw [hb0]; exact h48))
      clear hb0 h48
      go_enter Tryd.func49, Tryd.ntmps49
      go_wp2
      go_ret2
      exact ⟨.inr ⟨HN.out, rfl⟩, Below.refl _ _⟩
    · have HH : Hid (1 < s.data.toList.length → (s.data.toList.getD 0 0).toNat ≠ 48) := by intro h; omega
      clear hb0 h48
      have hcv := Go.Lib.run_convert_string_bytes (P := Tryd.prog) w 9 22 5 s Tryd.underlying9 Tryd.underlying22 Tryd.underlying5
      have hbb := Go.Lib.bytesWorld_below w 5 s
      have hcc := fun j hj => Go.Lib.bytesWorld_cell w 5 s j hj
      generalize Go.Lib.bytesWorld w 5 s = wb at hcv hbb hcc
      generalize grownCap w s.size 0 5 = gc at hcv
      have HC := hide hcc
      clear hcc
      go_enter Tryd.func49, Tryd.ntmps49
      go_wp2
      go_loop [6, 30] (fun m i => ∃ k : Nat, k ≤ s.size ∧ i = .int .i64 k ∧ m = .int .i64 (valW (s.data.toList.take k) : Int) ∧ (s.data.toList.take k).all isD = true) (fun _ i => s.size - (intOf i).toNat)
      case atStart => exact ⟨0, Nat.zero_le _, rfl, rfl, rfl⟩
      case round =>
        obtain ⟨k, hk, rfl, rfl, hd⟩ := hrel
        have hv := val_take_lt s.data.toList k (by omega) hd
        have HD := hide hd
        clear hd hcv
        by_cases hlt : k < s.size
        · have hsu := val_succ s.data.toList k (by omega)
          have hby := byte_small (s.data.toList.getD k 0)
          have cx := HC.out k hlt
          generalize hz : s.data.toList.getD k 0 = z at hsu hby cx
          have HZ := hide hz
          clear hz
          generalize hzz : z.toNat = zn at hsu hby cx
          have HZZ := hide hzz
          have HS := hide hsu
          clear hzz hsu
          generalize valW (s.data.toList.take k) = v at hv HS
          by_cases hdig : 48 ≤ zn ∧ zn ≤ 57
          · obtain ⟨hd1, hd2⟩ := hdig
            have hd1' : ¬ (zn : Int) < 48 := by omega
            have hd2' : ¬ (57 : Int) < zn := by omega
            have hcast : ((v * 10 + (zn - 48) : Nat) : Int) = (v : Int) * 10 + ((zn : Int) - 48) := by omega
            have HCA := hide hcast
            clear hcast
            go_wp2
            go_round
            case rel => exact ⟨k + 1, by omega, by go_num, by rw [HS.out, HCA.out], isD_succ _ _ (by omega) HD.out (by rw [HZ.out]; unfold isD; rw [HZZ.out]; exact decide_eq_true ⟨hd1, hd2⟩)⟩
            case measure => simp [intOf]; omega
          · have HN := hide (okW_nod (mx := 6) (l := s.data.toList) (k := k) (by omega) (by rw [HZ.out]; unfold isD; rw [HZZ.out]; exact decide_eq_false hdig))
            by_cases hd1 : zn < 48
            · have hd1' : (zn : Int) < 48 := by omega
              go_wp2
              go_ret2
              exact ⟨.inr ⟨HN.out, rfl⟩, hbb⟩
            · have hd1' : ¬ (zn : Int) < 48 := by omega
              have hd2' : (57 : Int) < zn := by omega
              go_wp2
              go_ret2
              exact ⟨.inr ⟨HN.out, rfl⟩, hbb⟩
        · have HP := hide (okW_yes (mx := 6) (l := s.data.toList) (k := k) (by omega) (by omega) (by omega) HH.out HD.out)
          have HV := hide (val_whole (l := s.data.toList) (k := k) (by omega))
          go_wp2
          go_ret2
          exact ⟨.inl ⟨HP.out, by rw [← HV.out]; rfl⟩, hbb⟩
  · have hq : ((((s[0]'hp0).toNat : Nat) : Int) == 48) = false := by rw [beq_eq_false_iff_ne]; omega
    have HH : Hid (1 < s.data.toList.length → (s.data.toList.getD 0 0).toNat ≠ 48) := by intro _; rw [hb0]; exact h48
    clear hb0 h48
    have hcv := Go.Lib.run_convert_string_bytes (P := Tryd.prog) w 9 22 5 s Tryd.underlying9 Tryd.underlying22 Tryd.underlying5
    have hbb := Go.Lib.bytesWorld_below w 5 s
    have hcc := fun j hj => Go.Lib.bytesWorld_cell w 5 s j hj
    generalize Go.Lib.bytesWorld w 5 s = wb at hcv hbb hcc
    generalize grownCap w s.size 0 5 = gc at hcv
    have HC := hide hcc
    clear hcc
    go_enter Tryd.func49, Tryd.ntmps49
    go_wp2
    go_loop [6, 30] (fun m i => ∃ k : Nat, k ≤ s.size ∧ i = .int .i64 k ∧ m = .int .i64 (valW (s.data.toList.take k) : Int) ∧ (s.data.toList.take k).all isD = true) (fun _ i => s.size - (intOf i).toNat)
    case atStart => exact ⟨0, Nat.zero_le _, rfl, rfl, rfl⟩
    case round =>
      obtain ⟨k, hk, rfl, rfl, hd⟩ := hrel
      have hv := val_take_lt s.data.toList k (by omega) hd
      have HD := hide hd
      clear hd hcv
      by_cases hlt : k < s.size
      · have hsu := val_succ s.data.toList k (by omega)
        have hby := byte_small (s.data.toList.getD k 0)
        have cx := HC.out k hlt
        generalize hz : s.data.toList.getD k 0 = z at hsu hby cx
        have HZ := hide hz
        clear hz
        generalize hzz : z.toNat = zn at hsu hby cx
        have HZZ := hide hzz
        have HS := hide hsu
        clear hzz hsu
        generalize valW (s.data.toList.take k) = v at hv HS
        by_cases hdig : 48 ≤ zn ∧ zn ≤ 57
        · obtain ⟨hd1, hd2⟩ := hdig
          have hd1' : ¬ (zn : Int) < 48 := by omega
          have hd2' : ¬ (57 : Int) < zn := by omega
          have hcast : ((v * 10 + (zn - 48) : Nat) : Int) = (v : Int) * 10 + ((zn : Int) - 48) := by omega
          have HCA := hide hcast
          clear hcast
          go_wp2
          go_round
          case rel => exact ⟨k + 1, by omega, by go_num, by rw [HS.out, HCA.out], isD_succ _ _ (by omega) HD.out (by rw [HZ.out]; unfold isD; rw [HZZ.out]; exact decide_eq_true ⟨hd1, hd2⟩)⟩
          case measure => simp [intOf]; omega
        · have HN := hide (okW_nod (mx := 6) (l := s.data.toList) (k := k) (by omega) (by rw [HZ.out]; unfold isD; rw [HZZ.out]; exact decide_eq_false hdig))
          by_cases hd1 : zn < 48
          · have hd1' : (zn : Int) < 48 := by omega
            go_wp2
            go_ret2
            exact ⟨.inr ⟨HN.out, rfl⟩, hbb⟩
          · have hd1' : ¬ (zn : Int) < 48 := by omega
            have hd2' : (57 : Int) < zn := by omega
            go_wp2
            go_ret2
            exact ⟨.inr ⟨HN.out, rfl⟩, hbb⟩
      · have HP := hide (okW_yes (mx := 6) (l := s.data.toList) (k := k) (by omega) (by omega) (by omega) HH.out HD.out)
        have HV := hide (val_whole (l := s.data.toList) (k := k) (by omega))
        go_wp2
        go_ret2
        exact ⟨.inl ⟨HP.out, by rw [← HV.out]; rfl⟩, hbb⟩

end Go.Proofs.YtpnhockgaajihaaDoor
