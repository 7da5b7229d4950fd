/-
  Numbers as bytes: what PutInt answers, as a plain function, and both Go functions by their contracts.
-/
import Derived.Test.YtamglfhnhjgdjaaGreatDoorQA
namespace Go.Proofs.YtamglfhnhjgdjaaGreatDoor
open Go.RowKit

/-- A number, or the nearest that is kept. -/
def clip (n : Int) : Int := if 2147483647 < n then 2147483647 else if n < -2147483648 then -2147483648 else n

/-- The bytes of a number, the lower ones laid already. -/
def ints : Nat → Int → List Int → List Int
  | 0, _, out => out
  | f + 1, n, out => if n < -128 ∨ 127 < n then ints f (n / 256) (n / 256 % 256 :: out) else out

def putInt (n : Int) : List Int := ints 3 (clip n) [clip n % 256]

/-- f bytes more will do for n. -/
def Fits (f : Nat) (n : Int) : Prop := -(128 * 256 ^ f) ≤ n ∧ n < 128 * 256 ^ f

theorem clip_bd (n : Int) : -2147483648 ≤ clip n ∧ clip n ≤ 2147483647 := by unfold clip; split <;> (try split) <;> omega
theorem fits_clip (n : Int) : Fits 3 (clip n) := by have := clip_bd n; unfold Fits; constructor <;> (simp; omega)
theorem fits_zero (n : Int) (h : Fits 0 n) : ¬ (n < -128 ∨ 127 < n) := by unfold Fits at h; simp at h; omega
theorem fits_step (f : Nat) (n : Int) (h : Fits (f + 1) n) : Fits f (n / 256) := by
  unfold Fits at *
  rw [Int.pow_succ] at h
  generalize (256 : Int) ^ f = p at *
  omega
theorem ints_stop (f : Nat) (n : Int) (out : List Int) (h : ¬ (n < -128 ∨ 127 < n)) : ints f n out = out := by
  cases f with
  | zero => rfl
  | succ f => simp [ints, h]
theorem ints_byte (f : Nat) (n : Int) (out : List Int) (h : Byt out) : Byt (ints f n out) := by
  induction f generalizing n out with
  | zero => exact h
  | succ f ih =>
    unfold ints
    split
    · refine ih _ _ (fun z hz => ?_)
      rcases List.mem_cons.1 hz with rfl | hz
      · omega
      · exact h z hz
    · exact h
theorem ints_length (f : Nat) (n : Int) (out : List Int) : (ints f n out).length ≤ out.length + f := by
  induction f generalizing n out with
  | zero => exact Nat.le_refl _
  | succ f ih =>
    unfold ints
    split
    · have := ih (n / 256) (n / 256 % 256 :: out); simp at this; omega
    · omega
theorem byte_cons {x : Int} {zs : List Int} (h : 0 ≤ x ∧ x ≤ 255) (hz : Byt zs) : Byt (x :: zs) := by
  intro z h2
  rcases List.mem_cons.1 h2 with rfl | h2
  · exact h
  · exact hz z h2
theorem byte_one (x : Int) : Byt [x % 256] := by
  intro z hz; simp at hz; subst hz; omega
theorem ints_go (f : Nat) (n : Int) (out : List Int) (hf : Fits f n) (h : n < -128 ∨ 127 < n) : ∃ g, f = g + 1 ∧ Fits g (n / 256) ∧ ints g (n / 256) (n / 256 % 256 :: out) = ints f n out := by
  cases f with
  | zero => exact absurd h (fits_zero n hf)
  | succ g => exact ⟨g, rfl, fits_step g n hf, by simp [ints, h]⟩
theorem putInt_byte (n : Int) : Byt (putInt n) := ints_byte _ _ _ (byte_one _)
theorem putInt_length (n : Int) : (putInt n).length ≤ 4 := ints_length 3 _ _

theorem row_one (w : World) (b : Int) (h : 0 ≤ b ∧ b ≤ 255) : Row (w.alloc (.cells #[.int .u8 b] 5)) (some ⟨w.heap.size, 0, none⟩) 1 1 [b] where
  size := rfl
  le := Nat.le_refl _
  top := by unfold maxLen; omega
  nil := by intro h; cases h
  byte := by intro z hz; simp at hz; subst hz; exact h
  cell := .inr ⟨w.heap.size, 0, rfl, fun i hi => by
    obtain rfl : i = 0 := by omega
    simp⟩

set_option maxRecDepth 100000 in
set_option maxHeartbeats 400000 in
theorem clip_any (n : Int) (w : World) : Calls Tryz.prog 50 #[.int .i64 n] w fun e w' => e = .returned (.int .i64 (clip n)) ∧ w' = w := by
  by_cases h1 : 2147483647 < n
  · go_enter Tryz.func50, Tryz.ntmps50
    go_wp2
    go_ret
    exact ⟨ret_int (by simp [clip, h1]), rfl⟩
  · by_cases h2 : n < -2147483648
    · go_enter Tryz.func50, Tryz.ntmps50
      go_wp2
      go_ret
      exact ⟨ret_int (by simp [clip, h1, h2]), rfl⟩
    · go_enter Tryz.func50, Tryz.ntmps50
      go_wp2
      go_ret
      exact ⟨ret_int (by unfold clip; rw [if_neg (by omega), if_neg (by omega)]), rfl⟩

set_option maxRecDepth 100000 in
set_option maxHeartbeats 400000 in
theorem specInt_any (n : Int) (w : World) : Calls Tryz.prog 25 #[.int .i64 n] w fun e w' => ∃ v, e = .returned v ∧
    w'.ownsRow w.heap.size 5 1 v (putInt n).length (cB (putInt n)) ∧ Below w.heap.size w w' := by
  obtain ⟨i0, hi, hz0, hz1, hz2⟩ := info_parts Tryz.infoU8
  have hcb := clip_bd n
  have hfit := fits_clip n
  generalize hR : putInt n = R
  have HR : Hid (ints 3 (clip n) [clip n % 256] = R) := hR
  clear hR
  go_enter Tryz.func25, Tryz.ntmps25
  go_wp2_with fail
  refine (clip_any _ _).mono ?_
  rintro e w' ⟨rfl, rfl⟩
  go_wp2
  go_loopw [0, 3] (fun m v wr => ∃ (f : Nat) (x : Int) (zs : List Int), Fits f x ∧ -2147483648 ≤ x ∧ x ≤ 2147483647 ∧ m = .int .i64 x ∧ ints f x zs = R ∧ Byt zs ∧ 1 ≤ zs.length ∧ zs.length + f ≤ 4 ∧ wr.ownsRow w'.heap.size 5 1 v zs.length (cB zs) ∧ Below w'.heap.size w' wr) (fun m _ _ => (intOf m).natAbs)
  case atStart => exact ⟨3, clip n, _, hfit, hcb.1, hcb.2, rfl, HR.out, byte_one _, by simp, by simp, World.ownsRow_lit w' #[.int .u8 (clip n % 256)] 1 (Nat.le_refl _) (by unfold maxLen; omega) rfl, (Below.refl _ _).alloc (Nat.le_refl _) _⟩
  case round =>
    obtain ⟨f, x, zs, hf, hx1, hx2, rfl, hr, hby, hl1, hlen, how, hb⟩ := hrel
    obtain ⟨ao, cp, rfl, hrow⟩ := row_of_own how hby
    rcases hrow.cell with h0 | ⟨b, off, rfl, hc0⟩
    · omega
    have HRR : Hid (ints f x zs = R) := hr
    clear hr HR
    by_cases hc : x < -128 ∨ 127 < x
    · have hbw := hb.size
      rcases hc with hc | hc
      · obtain ⟨g, rfl, hf', hgo⟩ := ints_go f x zs hf (Or.inl hc)
        rw [HRR.out] at hgo
        have HG : Hid (ints g (x / 256) (x / 256 % 256 :: zs) = R) := hgo
        clear hgo HRR
        go_wp2_with (at_builtin; refine wpList_append_own _ rfl _ _ 22 rfl w'.heap.size 5 i0 (.int .u8 0) 1 1 Tryz.underlying22 hi hz0 hz1 hz2 rfl (by decide) _ 1 _ rfl (World.ownsRow_lit wr #[_] 1 (by omega) (by unfold maxLen; omega) rfl) ⟨b, off, none⟩ zs.length cp (cB zs) rfl ?c0a ?c1a ?c2a ?c3a ?c4a ?c5a ?_)
        case c0a => rw [cB_length]; omega
        case c1a => exact fun j u hu => (hrow.below ((Below.refl _ _).alloc (Nat.le_refl _) _)).news _ rfl j u hu
        case c2a => exact cB_oneCell zs
        case c3a => unfold maxLen; omega
        case c4a => omega
        case c5a => simp; omega
        intro v1 w1 how1 hgr1 _
        have hb1 : Below w'.heap.size w' w1 := (hb.alloc hbw _).grown hgr1 (by simp; omega) (by intro k hk; cases hk; exact hbw)
        have how2 : w1.ownsRow w'.heap.size 5 1 v1 (x / 256 % 256 :: zs).length (cB (x / 256 % 256 :: zs)) := by
          rw [List.length_cons, Nat.add_comm]; exact how1
        clear how1 hgr1 how hb hrow hc0
        go_wp2
        go_roundw
        case rel => exact ⟨g, x / 256, _, hf', by omega, by omega, rfl, HG.out, byte_cons (by omega) hby, by simp, by simp; omega, how2, hb1⟩
        case measure => simp [intOf]; omega
      · obtain ⟨g, rfl, hf', hgo⟩ := ints_go f x zs hf (Or.inr hc)
        rw [HRR.out] at hgo
        have HG : Hid (ints g (x / 256) (x / 256 % 256 :: zs) = R) := hgo
        clear hgo HRR
        go_wp2_with (at_builtin; refine wpList_append_own _ rfl _ _ 22 rfl w'.heap.size 5 i0 (.int .u8 0) 1 1 Tryz.underlying22 hi hz0 hz1 hz2 rfl (by decide) _ 1 _ rfl (World.ownsRow_lit wr #[_] 1 (by omega) (by unfold maxLen; omega) rfl) ⟨b, off, none⟩ zs.length cp (cB zs) rfl ?c0b ?c1b ?c2b ?c3b ?c4b ?c5b ?_)
        case c0b => rw [cB_length]; omega
        case c1b => exact fun j u hu => (hrow.below ((Below.refl _ _).alloc (Nat.le_refl _) _)).news _ rfl j u hu
        case c2b => exact cB_oneCell zs
        case c3b => unfold maxLen; omega
        case c4b => omega
        case c5b => simp; omega
        intro v1 w1 how1 hgr1 _
        have hb1 : Below w'.heap.size w' w1 := (hb.alloc hbw _).grown hgr1 (by simp; omega) (by intro k hk; cases hk; exact hbw)
        have how2 : w1.ownsRow w'.heap.size 5 1 v1 (x / 256 % 256 :: zs).length (cB (x / 256 % 256 :: zs)) := by
          rw [List.length_cons, Nat.add_comm]; exact how1
        clear how1 hgr1 how hb hrow hc0
        go_wp2
        go_roundw
        case rel => exact ⟨g, x / 256, _, hf', by omega, by omega, rfl, HG.out, byte_cons (by omega) hby, by simp, by simp; omega, how2, hb1⟩
        case measure => simp [intOf]; omega
    · have hz : zs = R := by rw [← HRR.out, ints_stop _ _ _ hc]
      subst hz
      clear HRR
      go_wp2
      go_ret
      exact ⟨_, rfl, how, hb⟩

set_option maxRecDepth 100000 in
set_option maxHeartbeats 400000 in
theorem implInt_any (n : Int) (w : World) : Calls Tryz.prog 46 #[.int .i64 n] w fun e w' => ∃ v, e = .returned v ∧
    w'.ownsRow w.heap.size 5 1 v (putInt n).length (cB (putInt n)) ∧ Below w.heap.size w w' := by
  have hcb := clip_bd n
  have hfit := fits_clip n
  generalize hR : putInt n = R
  unfold putInt at hR
  generalize hn : clip n = m at hcb hfit hR
  have HR : Hid (ints 3 m [m % 256] = R) := hR
  clear hR
  have hcase : (2147483647 < n ∧ m = 2147483647) ∨ (n < -2147483648 ∧ m = -2147483648) ∨ (-2147483648 ≤ n ∧ n ≤ 2147483647 ∧ n = m) := by
    subst hn; unfold clip; split
    · exact .inl ⟨by omega, rfl⟩
    · split
      · exact .inr (.inl ⟨by omega, rfl⟩)
      · exact .inr (.inr ⟨by omega, by omega, rfl⟩)
  clear hn
  rcases hcase with ⟨h1, rfl⟩ | ⟨h1, rfl⟩ | ⟨h1, h2, rfl⟩
  all_goals
    go_enter Tryz.func46, Tryz.ntmps46
    go_wp2
    go_loopw [0, 3] (fun m v wr => ∃ (f : Nat) (x : Int) (zs : List Int), Fits f x ∧ -2147483648 ≤ x ∧ x ≤ 2147483647 ∧ m = .int .i64 x ∧ ints f x zs = R ∧ Byt zs ∧ 1 ≤ zs.length ∧ zs.length + f ≤ 4 ∧ wr.ownsRow w.heap.size 5 1 v zs.length (cB zs) ∧ Below w.heap.size w wr) (fun m _ _ => (intOf m).natAbs)
    case atStart => exact ⟨3, _, _, hfit, by omega, by omega, rfl, HR.out, byte_one _, by simp, by simp, World.ownsRow_lit w #[_] 1 (Nat.le_refl _) (by unfold maxLen; omega) rfl, (Below.refl _ _).alloc (Nat.le_refl _) _⟩
    case round =>
      obtain ⟨f, x, zs, hf, hx1, hx2, rfl, hr, hby, hl1, hlen, how, hb⟩ := hrel
      obtain ⟨ao, cp, rfl, hrow⟩ := row_of_own how hby
      have HRR : Hid (ints f x zs = R) := hr
      clear hr HR
      by_cases hc : x < -128 ∨ 127 < x
      · have hbw := hb.size
        rcases hc with hc | hc
        · obtain ⟨g, rfl, hf', hgo⟩ := ints_go f x zs hf (Or.inl hc)
          rw [HRR.out] at hgo
          have HG : Hid (ints g (x / 256) (x / 256 % 256 :: zs) = R) := hgo
          clear hgo HRR
          go_wp2_with fail
          refine (pieces_any _ _ _ [x / 256 % 256] _ _ _ [⟨ao, zs.length, cp, zs⟩] _ ?_ ?_ ?_).mono ?_
          · exact (row_one wr _ (by omega)).below ((Below.refl _ _).alloc (Nat.le_refl _) _)
          · exact pieces_lit _ _ [⟨ao, zs.length, cp, zs⟩] 1 _ (by simp) rfl (by omega) (fun i hi => by obtain rfl : i = 0 := by omega
                                                                                                        exact hrow.below ((Below.refl _ _).alloc (Nat.le_refl _) _))
          · simp [tot]; omega
          rintro e w1 ⟨rfl, how1, hb1⟩
          have hbn : Below w.heap.size w w1 := ((hb.alloc hbw _).alloc (by simp; omega) _).trans (hb1.mono (by simp; omega))
          have how2 : w1.ownsRow w.heap.size 5 1 (.slice (some ⟨wr.heap.size + 1 + 1, 0, none⟩) (1 + zs.length) (1 + zs.length)) (x / 256 % 256 :: zs).length (cB (x / 256 % 256 :: zs)) := by
            have := own_lt how1 (base' := w.heap.size) (by simp; omega)
            simpa [tot, flat, Nat.add_comm] using this
          clear how1 hb1 how hb hrow
          go_wp2
          go_roundw
          case rel =>
            first | refine ⟨_, _, _, _, _, _, _, _, _, _, _, _, _, _, _, _, ?_, rfl⟩ | skip
            exact ⟨g, x / 256, _, hf', by omega, by omega, rfl, HG.out, byte_cons (by omega) hby, by simp, by simp; omega, how2, hbn⟩
          case measure => simp [intOf]; omega
        · obtain ⟨g, rfl, hf', hgo⟩ := ints_go f x zs hf (Or.inr hc)
          rw [HRR.out] at hgo
          have HG : Hid (ints g (x / 256) (x / 256 % 256 :: zs) = R) := hgo
          clear hgo HRR
          go_wp2_with fail
          refine (pieces_any _ _ _ [x / 256 % 256] _ _ _ [⟨ao, zs.length, cp, zs⟩] _ ?_ ?_ ?_).mono ?_
          · exact (row_one wr _ (by omega)).below ((Below.refl _ _).alloc (Nat.le_refl _) _)
          · exact pieces_lit _ _ [⟨ao, zs.length, cp, zs⟩] 1 _ (by simp) rfl (by omega) (fun i hi => by obtain rfl : i = 0 := by omega
                                                                                                        exact hrow.below ((Below.refl _ _).alloc (Nat.le_refl _) _))
          · simp [tot]; omega
          rintro e w1 ⟨rfl, how1, hb1⟩
          have hbn : Below w.heap.size w w1 := ((hb.alloc hbw _).alloc (by simp; omega) _).trans (hb1.mono (by simp; omega))
          have how2 : w1.ownsRow w.heap.size 5 1 (.slice (some ⟨wr.heap.size + 1 + 1, 0, none⟩) (1 + zs.length) (1 + zs.length)) (x / 256 % 256 :: zs).length (cB (x / 256 % 256 :: zs)) := by
            have := own_lt how1 (base' := w.heap.size) (by simp; omega)
            simpa [tot, flat, Nat.add_comm] using this
          clear how1 hb1 how hb hrow
          go_wp2
          go_roundw
          case rel =>
            first | refine ⟨_, _, _, _, _, _, _, _, _, _, _, _, _, _, _, _, ?_, rfl⟩ | skip
            exact ⟨g, x / 256, _, hf', by omega, by omega, rfl, HG.out, byte_cons (by omega) hby, by simp, by simp; omega, how2, hbn⟩
          case measure => simp [intOf]; omega
      · have hz : zs = R := by rw [← HRR.out, ints_stop _ _ _ hc]
        subst hz
        clear HRR
        go_wp2
        go_ret
        exact ⟨_, rfl, how, hb⟩

theorem specInt_made (n : Int) (P : List Int) (hP : putInt n = P) (w : World) : Calls Tryz.prog 25 #[.int .i64 n] w fun e w' => ∃ ao cap, e = .returned (.slice ao P.length cap) ∧
    w'.ownsRow w.heap.size 5 1 (.slice ao P.length cap) P.length (cB P) ∧ Row w' ao P.length cap P ∧ Below w.heap.size w w' := by
  subst hP
  refine (specInt_any n w).mono ?_
  rintro e w' ⟨v, rfl, ho, hb⟩
  obtain ⟨ao, cap, rfl, hr⟩ := row_of_own ho (putInt_byte n)
  exact ⟨ao, cap, rfl, ho, hr, hb⟩

theorem implInt_made (n : Int) (P : List Int) (hP : putInt n = P) (w : World) : Calls Tryz.prog 46 #[.int .i64 n] w fun e w' => ∃ ao cap, e = .returned (.slice ao P.length cap) ∧
    w'.ownsRow w.heap.size 5 1 (.slice ao P.length cap) P.length (cB P) ∧ Row w' ao P.length cap P ∧ Below w.heap.size w w' := by
  subst hP
  refine (implInt_any n w).mono ?_
  rintro e w' ⟨v, rfl, ho, hb⟩
  obtain ⟨ao, cap, rfl, hr⟩ := row_of_own ho (putInt_byte n)
  exact ⟨ao, cap, rfl, ho, hr, hb⟩

end Go.Proofs.YtamglfhnhjgdjaaGreatDoor
