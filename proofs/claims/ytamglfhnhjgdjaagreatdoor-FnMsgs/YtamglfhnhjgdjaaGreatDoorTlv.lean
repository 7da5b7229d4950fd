/-
  Parts of bytes: what PutTlv answers, as a plain function, and both Go functions by their contracts.
-/
import Derived.Test.YtamglfhnhjgdjaaGreatDoorNum
namespace Go.Proofs.YtamglfhnhjgdjaaGreatDoor
open Go.RowKit

/-- A length as bytes. -/
def lenB (n : Nat) : List Int := if n < 128 then [(n : Int)] else [129, (n : Int)]
/-- A part put behind b; b alone of what is refused. -/
def putTlv (b : List Int) (tag : Int) (body : List Int) : List Int :=
  if tag < 0 ∨ 255 < tag ∨ 250 < body.length then b else b ++ ([tag] ++ lenB body.length ++ body)

theorem lenB_byte (n : Nat) (h : n ≤ 250) : Byt (lenB n) := by
  unfold lenB; split
  · exact byte_cons (by omega) (by intro z hz; cases hz)
  · exact byte_cons (by omega) (byte_cons (by omega) (by intro z hz; cases hz))
theorem lenB_length (n : Nat) : (lenB n).length ≤ 2 := by unfold lenB; split <;> simp
theorem putTlv_byte (b : List Int) (tag : Int) (body : List Int) (hb : Byt b) (hc : Byt body) : Byt (putTlv b tag body) := by
  unfold putTlv; split
  · exact hb
  · refine byte_append hb (byte_append (byte_append (byte_cons (by omega) (by intro z hz; cases hz)) (lenB_byte _ (by omega))) hc)
theorem putTlv_length (b : List Int) (tag : Int) (body : List Int) : (putTlv b tag body).length ≤ b.length + body.length + 3 := by
  unfold putTlv lenB; split
  · omega
  · split <;> (simp; omega)

theorem row_lit (w : World) (B : Nat) (zs : List Int) (n : Nat) (hB : B = w.heap.size) (hn : zs.length = n) (hs : n ≤ 1000) (hz : Byt zs) : Row (w.alloc (.cells (cB zs).toArray 5)) (some ⟨B, 0, none⟩) n n zs := by
  subst hB
  have := World.ownsRow_lit (base := 0) (e := 5) (size := 1) w (cB zs).toArray n (Nat.zero_le _) (by unfold maxLen; omega) (by simp [cB_length]; omega)
  exact row_own this hz

theorem Row.cong {w : World} {ao : Option Addr} {n c : Nat} {zs zs' : List Int} (h : Row w ao n c zs) (e : zs = zs') : Row w ao n c zs' := e ▸ h

theorem len_mod (x : Int) (n : Nat) (h : x = n) (hn : n ≤ 250) : x % 256 = n := by omega

set_option maxRecDepth 100000 in
set_option maxHeartbeats 400000 in
theorem lenB_any (x : Int) (n : Nat) (w : World) (hx : x = n) (h : n ≤ 250) : Calls Tryz.prog 45 #[.int .i64 x] w fun e w' => ∃ ao cap, e = .returned (.slice ao (lenB n).length cap) ∧ Row w' ao (lenB n).length cap (lenB n) ∧ Below w.heap.size w w' := by
  have HM : Hid (x % 256 = n) := len_mod x n hx h
  by_cases hn : n < 128
  · have e : lenB n = [(n : Int)] := by simp [lenB, hn]
    rw [e]
    clear e
    have hx1 : x < 128 := by omega
    clear hx hn
    go_enter Tryz.func45, Tryz.ntmps45
    go_wp2
    go_ret
    exact ⟨_, _, rfl, (row_lit w _ [x % 256] 1 rfl rfl (by omega) (byte_cons (by omega) (by intro z hz; cases hz))).cong (by rw [HM.out]), (Below.refl _ _).alloc (Nat.le_refl _) _⟩
  · have e : lenB n = [129, (n : Int)] := by simp [lenB, hn]
    rw [e]
    clear e
    have hx1 : ¬ x < 128 := by omega
    clear hx hn
    go_enter Tryz.func45, Tryz.ntmps45
    go_wp2
    go_ret
    exact ⟨_, _, rfl, (row_lit w _ [129, x % 256] 2 rfl rfl (by omega) (byte_cons (by omega) (byte_cons (by omega) (by intro z hz; cases hz)))).cong (by rw [HM.out]), (Below.refl _ _).alloc (Nat.le_refl _) _⟩

theorem pieces_none (w : World) : Pieces w none 0 0 [] := ⟨rfl, by omega, .inl rfl, fun i hi => by omega⟩

set_option maxRecDepth 100000 in
set_option maxHeartbeats 400000 in
theorem implTlv_any (a1 : Option Addr) (l1 c1 : Nat) (z1 : List Int) (tag : Int) (a2 : Option Addr) (l2 c2 : Nat) (z2 : List Int) (w : World) (h1 : Row w a1 l1 c1 z1) (h2 : Row w a2 l2 c2 z2) (hs : l1 + l2 ≤ 16000000) :
    Calls Tryz.prog 20 #[.slice a1 l1 c1, .int .i64 tag, .slice a2 l2 c2] w fun e w' => ∃ ao n cap, e = .returned (.slice ao n cap) ∧
      w'.ownsRow w.heap.size 5 1 (.slice ao n cap) n (cB (putTlv z1 tag z2)) ∧ Below w.heap.size w w' := by
  have s1 := h1.size
  have s2 := h2.size
  by_cases hr : tag < 0 ∨ 255 < tag ∨ 250 < l2
  · have e : putTlv z1 tag z2 = z1 := by unfold putTlv; rw [if_pos (by rw [s2]; exact hr)]
    rw [e]
    clear e
    have hr' : tag < 0 ∨ (¬ tag < 0 ∧ 255 < tag) ∨ (¬ tag < 0 ∧ ¬ 255 < tag ∧ 250 < l2) := by omega
    clear hr
    rcases hr' with hr | ⟨hr, hr1⟩ | ⟨hr, hr1, hr2⟩
    all_goals
      go_enter Tryz.func20, Tryz.ntmps20
      go_wp2_with fail
      refine (pieces_any _ _ _ z1 _ _ _ [] _ h1 (pieces_none _) (by simp [tot]; omega)).mono ?_
      rintro e w1 ⟨rfl, how1, hb1⟩
      go_wp2
      go_ret
      exact ⟨_, _, _, rfl, by simpa [tot, flat] using how1, hb1⟩
  · have e : putTlv z1 tag z2 = z1 ++ ([tag] ++ lenB l2 ++ z2) := by unfold putTlv; rw [if_neg (by rw [s2]; exact hr), s2]
    rw [e]
    clear e
    have t0 : ¬ tag < 0 := by omega
    have t1 : ¬ 255 < tag := by omega
    have t2 : ¬ 250 < l2 := by omega
    have HT : Hid (tag % 256 = tag) := show tag % 256 = tag by omega
    clear hr
    go_enter Tryz.func20, Tryz.ntmps20
    go_wp2_with fail
    have hl := lenB_length l2
    refine (lenB_any _ l2 _ rfl (by omega)).mono ?_
    rintro e w1 ⟨ao2, cp2, rfl, r2, hb1⟩
    have hz1 : w.heap.size + 1 ≤ w1.heap.size := by have := hb1.size; simpa using this
    have hb0 : Below w.heap.size w (w.alloc (.cells #[.int .u8 tag] 5)) := (Below.refl _ _).alloc (Nat.le_refl _) _
    have hbw : Below w.heap.size w w1 := hb0.trans (hb1.mono (by simp))
    have q0 := (row_one w tag (by omega)).below hb1
    go_wp2_with fail
    refine (pieces_any _ _ _ z1 _ _ _ [⟨some ⟨w.heap.size, 0, none⟩, 1, 1, [tag]⟩, ⟨ao2, (lenB l2).length, cp2, lenB l2⟩, ⟨a2, l2, c2, z2⟩] _ ?_ ?_ ?_).mono ?_
    · exact (h1.below hbw).below ((Below.refl _ _).alloc (Nat.le_refl _) _)
    · refine pieces_lit _ _ [⟨some ⟨w.heap.size, 0, none⟩, 1, 1, [tag]⟩, ⟨ao2, (lenB l2).length, cp2, lenB l2⟩, ⟨a2, l2, c2, z2⟩] 3 _ rfl rfl (by omega) ?_
      intro i hi
      match i, hi with
      | 0, _ => exact q0
      | 1, _ => exact r2
      | 2, _ => exact h2.below hbw
    · simp [tot]; omega
    rintro e w2 ⟨rfl, how2, hb2⟩
    have hbf : Below w.heap.size w w2 := (hbw.alloc (by omega) _).trans (hb2.mono (by simp; omega))
    go_wp2
    go_ret
    refine ⟨_, _, _, rfl, ?_, hbf⟩
    have := own_lt how2 (base' := w.heap.size) (by simp; omega)
    simpa [flat] using this

theorem byte_nil : Byt [] := by intro z hz; cases hz

set_option maxRecDepth 100000 in
set_option maxHeartbeats 400000 in
theorem specTlv_any (a1 : Option Addr) (l1 c1 : Nat) (z1 : List Int) (tag : Int) (a2 : Option Addr) (l2 c2 : Nat) (z2 : List Int) (w : World) (h1 : Row w a1 l1 c1 z1) (h2 : Row w a2 l2 c2 z2) (hs : l1 + l2 ≤ 16000000) :
    Calls Tryz.prog 24 #[.slice a1 l1 c1, .int .i64 tag, .slice a2 l2 c2] w fun e w' => ∃ ao n cap, e = .returned (.slice ao n cap) ∧
      w'.ownsRow w.heap.size 5 1 (.slice ao n cap) n (cB (putTlv z1 tag z2)) ∧ Below w.heap.size w w' := by
  have s1 := h1.size
  have s2 := h2.size
  by_cases hr : tag < 0 ∨ 255 < tag ∨ 250 < l2
  · have e : putTlv z1 tag z2 = z1 := by unfold putTlv; rw [if_pos (by rw [s2]; exact hr)]
    rw [e]
    clear e
    have hr' : tag < 0 ∨ (¬ tag < 0 ∧ 255 < tag) ∨ (¬ tag < 0 ∧ ¬ 255 < tag ∧ 250 < l2) := by omega
    clear hr
    rcases hr' with hr | ⟨hr, hr1⟩ | ⟨hr, hr1, hr2⟩
    all_goals
      go_enter Tryz.func24, Tryz.ntmps24
      go_wp2_with (at_builtin; refine wpList_append_row _ rfl _ _ 22 rfl w.heap.size Tryz.underlying22 Tryz.infoU8 _ 0 [] rfl (World.ownsRow_lit w #[] 0 (Nat.le_refl _) (Nat.zero_le _) rfl) (byte_nil) a1 l1 c1 z1 rfl (h1.below ((Below.refl _ _).alloc (Nat.le_refl _) _)) (by omega) (by simp) ?_)
      intro ao1 cp1 w1 how1 row1 hb1
      have hbw1 : Below w.heap.size w w1 := ((Below.refl _ _).alloc (Nat.le_refl _) _).trans hb1
      have hz1 := hbw1.size
      clear hb1
      go_wp2
      go_ret
      exact ⟨_, _, _, rfl, by simpa using how1, hbw1⟩
  · have t0 : ¬ tag < 0 := by omega
    have t1 : ¬ 255 < tag := by omega
    have t2 : ¬ 250 < l2 := by omega
    clear hr
    by_cases t3 : l2 < 128
    · have e : putTlv z1 tag z2 = z1 ++ ([tag] ++ [(l2 : Int)] ++ z2) := by unfold putTlv lenB; rw [if_neg (by omega), s2, if_pos t3]
      rw [e]
      clear e
      go_enter Tryz.func24, Tryz.ntmps24
      go_wp2_with (at_builtin; refine wpList_append_row _ rfl _ _ 22 rfl w.heap.size Tryz.underlying22 Tryz.infoU8 _ 0 [] rfl (World.ownsRow_lit w #[] 0 (Nat.le_refl _) (Nat.zero_le _) rfl) (byte_nil) a1 l1 c1 z1 rfl (h1.below ((Below.refl _ _).alloc (Nat.le_refl _) _)) (by omega) (by simp) ?_)
      intro ao1 cp1 w1 how1 row1 hb1
      have hbw1 : Below w.heap.size w w1 := ((Below.refl _ _).alloc (Nat.le_refl _) _).trans hb1
      have hz1 := hbw1.size
      clear hb1
      go_wp2_with (first | (at_builtin; refine wpList_append_row _ rfl _ _ 22 rfl w.heap.size Tryz.underlying22 Tryz.infoU8 _ _ _ rfl (own_below how1 ((Below.refl _ _).alloc (Nat.le_refl _) _)) row1.byte _ 1 1 [_] rfl (row_one w1 _ (by omega)) (by omega) (by simp; omega) ?_) | go_in)
      intro ao2 cp2 w2 how2 row2 hb2
      have hbw2 : Below w.heap.size w w2 := (hbw1.alloc hz1 _).trans hb2
      have hz2 := hbw2.size
      clear hb2 how1 row1
      go_wp2_with (first | (at_builtin; refine wpList_append_row _ rfl _ _ 22 rfl w.heap.size Tryz.underlying22 Tryz.infoU8 _ _ _ rfl (own_below how2 ((Below.refl _ _).alloc (Nat.le_refl _) _)) row2.byte _ 1 1 [_] rfl (row_one w2 _ (by omega)) (by omega) (by simp; omega) ?_) | go_in)
      intro ao3 cp3 w3 how3 row3 hb3
      have hbw3 : Below w.heap.size w w3 := (hbw2.alloc hz2 _).trans hb3
      have hz3 := hbw3.size
      clear hb3 how2 row2
      go_wp2_with (at_builtin; refine wpList_append_row _ rfl _ _ 22 rfl w.heap.size Tryz.underlying22 Tryz.infoU8 _ _ _ rfl how3 row3.byte a2 l2 c2 z2 rfl (h2.below hbw3) (by omega) hz3 ?_)
      intro ao4 cp4 w4 how4 row4 hb4
      have hbw4 : Below w.heap.size w w4 := hbw3.trans hb4
      go_wp2
      go_ret
      exact ⟨_, _, _, rfl, by simpa using how4, hbw4⟩
    · have e : putTlv z1 tag z2 = z1 ++ ([tag] ++ [129, (l2 : Int)] ++ z2) := by unfold putTlv lenB; rw [if_neg (by omega), s2, if_neg t3]
      rw [e]
      clear e
      go_enter Tryz.func24, Tryz.ntmps24
      go_wp2_with (at_builtin; refine wpList_append_row _ rfl _ _ 22 rfl w.heap.size Tryz.underlying22 Tryz.infoU8 _ 0 [] rfl (World.ownsRow_lit w #[] 0 (Nat.le_refl _) (Nat.zero_le _) rfl) (byte_nil) a1 l1 c1 z1 rfl (h1.below ((Below.refl _ _).alloc (Nat.le_refl _) _)) (by omega) (by simp) ?_)
      intro ao1 cp1 w1 how1 row1 hb1
      have hbw1 : Below w.heap.size w w1 := ((Below.refl _ _).alloc (Nat.le_refl _) _).trans hb1
      have hz1 := hbw1.size
      clear hb1
      go_wp2_with (first | (at_builtin; refine wpList_append_row _ rfl _ _ 22 rfl w.heap.size Tryz.underlying22 Tryz.infoU8 _ _ _ rfl (own_below how1 ((Below.refl _ _).alloc (Nat.le_refl _) _)) row1.byte _ 1 1 [_] rfl (row_one w1 _ (by omega)) (by omega) (by simp; omega) ?_) | go_in)
      intro ao2 cp2 w2 how2 row2 hb2
      have hbw2 : Below w.heap.size w w2 := (hbw1.alloc hz1 _).trans hb2
      have hz2 := hbw2.size
      clear hb2 how1 row1
      go_wp2_with (first | (at_builtin; refine wpList_append_row _ rfl _ _ 22 rfl w.heap.size Tryz.underlying22 Tryz.infoU8 _ _ _ rfl (own_below how2 ((Below.refl _ _).alloc (Nat.le_refl _) _)) row2.byte _ 1 1 [129] rfl (row_one w2 _ (by omega)) (by omega) (by simp; omega) ?_) | go_in)
      intro ao3 cp3 w3 how3 row3 hb3
      have hbw3 : Below w.heap.size w w3 := (hbw2.alloc hz2 _).trans hb3
      have hz3 := hbw3.size
      clear hb3 how2 row2
      go_wp2_with (first | (at_builtin; refine wpList_append_row _ rfl _ _ 22 rfl w.heap.size Tryz.underlying22 Tryz.infoU8 _ _ _ rfl (own_below how3 ((Below.refl _ _).alloc (Nat.le_refl _) _)) row3.byte _ 1 1 [_] rfl (row_one w3 _ (by omega)) (by omega) (by simp; omega) ?_) | go_in)
      intro ao4 cp4 w4 how4 row4 hb4
      have hbw4 : Below w.heap.size w w4 := (hbw3.alloc hz3 _).trans hb4
      have hz4 := hbw4.size
      clear hb4 how3 row3
      go_wp2_with (at_builtin; refine wpList_append_row _ rfl _ _ 22 rfl w.heap.size Tryz.underlying22 Tryz.infoU8 _ _ _ rfl how4 row4.byte a2 l2 c2 z2 rfl (h2.below hbw4) (by omega) hz4 ?_)
      intro ao5 cp5 w5 how5 row5 hb5
      have hbw5 : Below w.heap.size w w5 := hbw4.trans hb5
      go_wp2
      go_ret
      exact ⟨_, _, _, rfl, by simpa using how5, hbw5⟩

theorem made_of {w w' : World} {e : Ending} {P : List Int} (hP : Byt P) (h : ∃ ao n cap, e = .returned (.slice ao n cap) ∧ w'.ownsRow w.heap.size 5 1 (.slice ao n cap) n (cB P) ∧ Below w.heap.size w w') :
    ∃ ao cap, e = .returned (.slice ao P.length cap) ∧ w'.ownsRow w.heap.size 5 1 (.slice ao P.length cap) P.length (cB P) ∧ Row w' ao P.length cap P ∧ Below w.heap.size w w' := by
  obtain ⟨ao, n, cap, rfl, ho, hb⟩ := h
  have hn : P.length = n := by have := ho.1; simpa [cB] using this
  subst hn
  exact ⟨ao, cap, rfl, ho, row_own ho hP, hb⟩

theorem specTlv_made (a1 : Option Addr) (l1 c1 : Nat) (z1 : List Int) (tag : Int) (a2 : Option Addr) (l2 c2 : Nat) (z2 : List Int) (P : List Int) (hP : putTlv z1 tag z2 = P) (w : World) (h1 : Row w a1 l1 c1 z1) (h2 : Row w a2 l2 c2 z2) (hs : l1 + l2 ≤ 16000000) :
    Calls Tryz.prog 24 #[.slice a1 l1 c1, .int .i64 tag, .slice a2 l2 c2] w fun e w' => ∃ ao cap, e = .returned (.slice ao P.length cap) ∧
      w'.ownsRow w.heap.size 5 1 (.slice ao P.length cap) P.length (cB P) ∧ Row w' ao P.length cap P ∧ Below w.heap.size w w' := by
  subst hP
  exact (specTlv_any a1 l1 c1 z1 tag a2 l2 c2 z2 w h1 h2 hs).mono fun e w' h => made_of (putTlv_byte _ _ _ h1.byte h2.byte) h

theorem implTlv_made (a1 : Option Addr) (l1 c1 : Nat) (z1 : List Int) (tag : Int) (a2 : Option Addr) (l2 c2 : Nat) (z2 : List Int) (P : List Int) (hP : putTlv z1 tag z2 = P) (w : World) (h1 : Row w a1 l1 c1 z1) (h2 : Row w a2 l2 c2 z2) (hs : l1 + l2 ≤ 16000000) :
    Calls Tryz.prog 20 #[.slice a1 l1 c1, .int .i64 tag, .slice a2 l2 c2] w fun e w' => ∃ ao cap, e = .returned (.slice ao P.length cap) ∧
      w'.ownsRow w.heap.size 5 1 (.slice ao P.length cap) P.length (cB P) ∧ Row w' ao P.length cap P ∧ Below w.heap.size w w' := by
  subst hP
  exact (implTlv_any a1 l1 c1 z1 tag a2 l2 c2 z2 w h1 h2 hs).mono fun e w' h => made_of (putTlv_byte _ _ _ h1.byte h2.byte) h

end Go.Proofs.YtamglfhnhjgdjaaGreatDoor
