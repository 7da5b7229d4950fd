/-
  The specification's reader of parts, by contracts: a part, a number, a bind.
  The specification's reader of a bind, by contracts.
  The specification's GetPdu by its contract.
-/
import Derived.Test.YtjkmagpppfnlpaaGreatDoorBunH
import Derived.Test.YtjkmagpppfnlpaaGreatDoorBunD
import Derived.Test.YtjkmagpppfnlpaaGreatDoorBunB
import Derived.Test.YtjkmagpppfnlpaaGreatDoorPduOkS
namespace Go.Proofs.YtjkmagpppfnlpaaGreatDoor
open Go.RowKit

theorem cells3 {w : World} {C : Nat} {t : TypeId} {c0 c1 c2 : Value} (h : w.heap[C]? = some (.cells #[c0, c1, c2] t)) :
    (w.cell? ⟨C, 0, none⟩ = some c0 ∧ w.cell? ⟨C, 1, none⟩ = some c1 ∧ w.cell? ⟨C, 2, none⟩ = some c2) ∧ (w.frozen? ⟨C, 0, none⟩ = false ∧ w.frozen? ⟨C, 1, none⟩ = false ∧ w.frozen? ⟨C, 2, none⟩ = false) := by
  refine ⟨⟨?_, ?_, ?_⟩, ?_, ?_, ?_⟩ <;> simp [World.cell?, World.frozen?, h]
theorem set_block3a {w : World} {b : Nat} {c0 c1 c2 : Value} {t : TypeId} (h : w.heap[b]? = some (.cells #[c0, c1, c2] t)) (u : Value) : (w.setCell ⟨b, 1, none⟩ u).heap[b]? = some (.cells #[c0, u, c2] t) := by
  have := heap_setCell_same w b 1 #[c0, c1, c2] t u h
  simpa using this
theorem set_block3b {w : World} {b : Nat} {c0 c1 c2 : Value} {t : TypeId} (h : w.heap[b]? = some (.cells #[c0, c1, c2] t)) (u : Value) : (w.setCell ⟨b, 2, none⟩ u).heap[b]? = some (.cells #[c0, c1, u] t) := by
  have := heap_setCell_same w b 2 #[c0, c1, c2] t u h
  simpa using this
theorem empty_row' (w : World) (b : Nat) : Row w (some ⟨b, 0, none⟩) 0 0 [] := ⟨rfl, Nat.le_refl _, Nat.zero_le _, (by intro h; cases h), byte_nil, .inl rfl⟩

/-- The specification's reader: its bytes, where it stands, whether it is broken. -/
structure SRd (w : World) (rb : Nat) (ao : Option Addr) (n c : Nat) (zs : List Int) (t : Int) (bad : Bool) : Prop where
  box : w.heap[rb]? = some (.cells #[.slice ao n c, .int .i64 t, .bool bad] 67)
  row : Row w ao n c zs
  small : n ≤ 1048576

theorem SRd.below {w w' : World} {rb : Nat} {ao : Option Addr} {n c : Nat} {zs : List Int} {t : Int} {bad : Bool} (h : SRd w rb ao n c zs t bad) (hb : Below w.heap.size w w') : SRd w' rb ao n c zs t bad :=
  ⟨kept_block h.box hb, h.row.below hb, h.small⟩

theorem SRd.next {w w' : World} {rb : Nat} {ao : Option Addr} {n c : Nat} {zs : List Int} {t t' : Int} {bad bad' : Bool} (h : SRd w rb ao n c zs t bad) (hg : w.grownBy w' (some rb)) (hb : w'.heap[rb]? = some (.cells #[.slice ao n c, .int .i64 t', .bool bad'] 67)) : SRd w' rb ao n c zs t' bad' := by
  refine ⟨hb, ⟨h.row.size, h.row.le, h.row.top, h.row.nil, h.row.byte, ?_⟩, h.small⟩
  rcases h.row.cell with h0 | ⟨b, off, ha, hc⟩
  · exact .inl h0
  · refine .inr ⟨b, off, ha, fun i hi => hg.cell (hc i hi) ?_⟩
    intro e
    simp only [Option.some.injEq] at e
    have hi' := hc i hi
    subst e
    rw [show w.cell? ⟨b, off + i, none⟩ = #[Value.slice ao n c, .int .i64 t, .bool bad][off + i]? by simp [World.cell?, h.box]] at hi'
    match hk : off + i with
    | 0 => rw [hk] at hi'; simp at hi'
    | 1 => rw [hk] at hi'; simp at hi'
    | 2 => rw [hk] at hi'; simp at hi'
    | k + 3 => rw [hk] at hi'; simp at hi'

set_option maxRecDepth 100000 in
set_option maxHeartbeats 1000000 in
theorem spart_good (rb : Nat) (ao : Option Addr) (n c : Nat) (zs : List Int) (t tag : Int) (body : List Int) (nx : Int) (hp : getTlv zs t = (tag, body, nx, true)) (w : World) (h : SRd w rb ao n c zs t false) :
    Calls Tryz.prog 42 #[.pointer (some ⟨rb, 0, none⟩), .int .i64 tag] w fun e w' => ∃ bo bc, e = .returned (.slice bo body.length bc) ∧ Row w' bo body.length bc body ∧ SRd w' rb ao n c zs nx false ∧ w.grownBy w' (some rb) ∧ w'.ownsRow w.heap.size 5 1 (.slice bo body.length bc) body.length (cB body) := by
  obtain ⟨⟨c0, c1, c2⟩, f0, f1, f2⟩ := cells3 h.box
  have hlt : rb < w.heap.size := (Array.getElem?_eq_some_iff.1 h.box).1
  have HG := hide hp
  have hr := h.row
  have hs := h.small
  have HH := hide h
  clear hp h
  go_enter Tryz.func42, Tryz.ntmps42
  go_wp2_with fail
  go_region_held3 (fun W => W.cell? ⟨rb, 0, none⟩ = some (.slice ao n c) ∧ W.cell? ⟨rb, 1, none⟩ = some (.int .i64 t) ∧ W.cell? ⟨rb, 2, none⟩ = some (.bool false)) (first | assumption | go_keep) (first
    | (go_at_call 40; refine (specGet_made _ _ _ zs t tag nx true body HG.out _ (hr.below (below_drewN (Below.refl _ _) _)) (by omega)).mono ?_; rintro e w1 ⟨ao1, cp1, rfl, ho1, r1, hb1⟩; have u1 : Below w.heap.size w w1 := undrew hb1; have k1 := kept_block HH.out.box u1; have hS1 := (cells3 k1).1))
  clear c0 c1 c2 f0 f1 f2 hS1
  obtain ⟨⟨c0, c1, c2⟩, f0, f1, f2⟩ := cells3 k1
  have hg0 := grownTr (grownOf u1) (grown_set (w := w1) (rb := rb) 1 (.int .i64 nx))
  have HG2 := hide hg0
  have HN := hide (HH.out.next hg0 (set_block3a k1 (.int .i64 nx)))
  have ho1 := own_lt ho1 (base' := w.heap.size) (by simp)
  have HR := hide (row_own (own_set ho1 (g := rb) (j := 1) (u := .int .i64 nx) hlt) r1.byte)
  have HO := hide (own_set ho1 (g := rb) (j := 1) (u := .int .i64 nx) hlt)
  clear hb1 u1 k1 hr hg0 ho1 r1
  go_wp2
  go_ret
  exact ⟨_, _, rfl, HR.out, HN.out, HG2.out, HO.out⟩

set_option maxRecDepth 100000 in
set_option maxHeartbeats 1000000 in
theorem spart_bad (rb : Nat) (ao : Option Addr) (n c : Nat) (zs : List Int) (t tag : Int) (bad : Bool) (hp : bad = true ∨ partM zs t tag = none) (w : World) (h : SRd w rb ao n c zs t bad) :
    Calls Tryz.prog 42 #[.pointer (some ⟨rb, 0, none⟩), .int .i64 tag] w fun e w' => ∃ bo bc, e = .returned (.slice bo 0 bc) ∧ Row w' bo 0 bc [] ∧ SRd w' rb ao n c zs t true ∧ w.grownBy w' (some rb) := by
  obtain ⟨⟨c0, c1, c2⟩, f0, f1, f2⟩ := cells3 h.box
  have hr := h.row
  have hs := h.small
  have HH := hide h
  rcases hG : getTlv zs t with ⟨kk, body, nx, ok⟩
  have hno : bad = true ∨ (bad = false ∧ ok = false) ∨ (bad = false ∧ ok = true ∧ (kk != tag) = true) := by
    cases bad
    · refine .inr ?_
      rcases hp with hp | hp
      · cases hp
      · unfold partM at hp
        rw [hG] at hp
        cases ok
        · exact .inl ⟨rfl, rfl⟩
        · refine .inr ⟨rfl, rfl, ?_⟩
          by_cases e : kk = tag
          · simp [e] at hp
          · simp [e]
    · exact .inl rfl
  have HG := hide hG
  clear hp h hG
  rcases hno with rfl | ⟨rfl, rfl⟩ | ⟨rfl, rfl, hkt⟩
  · go_enter Tryz.func42, Tryz.ntmps42
    go_wp2_with fail
    go_region_held3 (fun W => W.cell? ⟨rb, 0, none⟩ = some (.slice ao n c) ∧ W.cell? ⟨rb, 1, none⟩ = some (.int .i64 t) ∧ W.cell? ⟨rb, 2, none⟩ = some (.bool true)) (first | assumption | go_keep) (first
      | (go_at_call 40; refine (specGet_made _ _ _ zs t kk nx ok body HG.out _ (hr.below (below_drewN (Below.refl _ _) _)) (by omega)).mono ?_; rintro e w1 ⟨ao1, cp1, rfl, ho1, r1, hb1⟩; have u1 : Below w.heap.size w w1 := undrew hb1; have k1 := kept_block HH.out.box u1; have hS1 := (cells3 k1).1))
    clear c0 c1 c2 f0 f1 f2 hS1
    obtain ⟨⟨c0, c1, c2⟩, f0, f1, f2⟩ := cells3 k1
    have q1 := below_one (w1.setCell ⟨rb, 2, none⟩ (.bool true)) (.cells #[] 5)
    have hg0 := grownTr (grownOf u1) (grown_set (w := w1) (rb := rb) 2 (.bool true))
    have HG2 := hide (grownTr hg0 (grownOf q1))
    have HN := hide ((HH.out.next hg0 (set_block3b k1 (.bool true))).below q1)
    clear hb1 u1 k1 hr hg0 q1 ho1 r1
    go_wp2
    go_ret
    exact ⟨_, _, rfl, empty_row' _ _, HN.out, HG2.out⟩
  · go_enter Tryz.func42, Tryz.ntmps42
    go_wp2_with fail
    go_region_held3 (fun W => W.cell? ⟨rb, 0, none⟩ = some (.slice ao n c) ∧ W.cell? ⟨rb, 1, none⟩ = some (.int .i64 t) ∧ W.cell? ⟨rb, 2, none⟩ = some (.bool false)) (first | assumption | go_keep) (first
      | (go_at_call 40; refine (specGet_made _ _ _ zs t kk nx false body HG.out _ (hr.below (below_drewN (Below.refl _ _) _)) (by omega)).mono ?_; rintro e w1 ⟨ao1, cp1, rfl, ho1, r1, hb1⟩; have u1 : Below w.heap.size w w1 := undrew hb1; have k1 := kept_block HH.out.box u1; have hS1 := (cells3 k1).1))
    clear c0 c1 c2 f0 f1 f2 hS1
    obtain ⟨⟨c0, c1, c2⟩, f0, f1, f2⟩ := cells3 k1
    have q1 := below_one (w1.setCell ⟨rb, 2, none⟩ (.bool true)) (.cells #[] 5)
    have hg0 := grownTr (grownOf u1) (grown_set (w := w1) (rb := rb) 2 (.bool true))
    have HG2 := hide (grownTr hg0 (grownOf q1))
    have HN := hide ((HH.out.next hg0 (set_block3b k1 (.bool true))).below q1)
    clear hb1 u1 k1 hr hg0 q1 ho1 r1
    go_wp2
    go_ret
    exact ⟨_, _, rfl, empty_row' _ _, HN.out, HG2.out⟩
  · go_enter Tryz.func42, Tryz.ntmps42
    go_wp2_with fail
    go_region_held3 (fun W => W.cell? ⟨rb, 0, none⟩ = some (.slice ao n c) ∧ W.cell? ⟨rb, 1, none⟩ = some (.int .i64 t) ∧ W.cell? ⟨rb, 2, none⟩ = some (.bool false)) (first | assumption | go_keep) (first
      | (go_at_call 40; refine (specGet_made _ _ _ zs t kk nx true body HG.out _ (hr.below (below_drewN (Below.refl _ _) _)) (by omega)).mono ?_; rintro e w1 ⟨ao1, cp1, rfl, ho1, r1, hb1⟩; have u1 : Below w.heap.size w w1 := undrew hb1; have k1 := kept_block HH.out.box u1; have hS1 := (cells3 k1).1))
    clear c0 c1 c2 f0 f1 f2 hS1
    obtain ⟨⟨c0, c1, c2⟩, f0, f1, f2⟩ := cells3 k1
    have q1 := below_one (w1.setCell ⟨rb, 2, none⟩ (.bool true)) (.cells #[] 5)
    have hg0 := grownTr (grownOf u1) (grown_set (w := w1) (rb := rb) 2 (.bool true))
    have HG2 := hide (grownTr hg0 (grownOf q1))
    have HN := hide ((HH.out.next hg0 (set_block3b k1 (.bool true))).below q1)
    clear hb1 u1 k1 hr hg0 q1 ho1 r1
    go_wp2
    go_ret
    exact ⟨_, _, rfl, empty_row' _ _, HN.out, HG2.out⟩

set_option maxRecDepth 100000 in
set_option maxHeartbeats 1000000 in
theorem snum_good (rb : Nat) (ao : Option Addr) (n c : Nat) (zs : List Int) (t m nx : Int) (hp : numM zs t = some (m, nx)) (w : World) (h : SRd w rb ao n c zs t false) :
    Calls Tryz.prog 41 #[.pointer (some ⟨rb, 0, none⟩)] w fun e w' => e = .returned (.int .i64 m) ∧ SRd w' rb ao n c zs nx false ∧ w.grownBy w' (some rb) := by
  obtain ⟨b, hb, hi⟩ := numM_some hp
  have hbl := tlv_short h.row.byte hb
  have HB := hide hb
  have HI := hide hi
  clear hp hb hi
  go_enter Tryz.func41, Tryz.ntmps41
  go_wp2_with fail
  refine (spart_good rb ao n c zs t 2 b nx HB.out _ h).mono ?_
  rintro e w1 ⟨bo, bc, rfl, r1, h1, g1, -⟩
  go_wp2_with fail
  refine (specGetInt_any _ _ _ b _ r1 (by omega)).mono ?_
  rintro e w2 ⟨rfl, hb2⟩
  rw [HI.out]
  have h2 := h1.below hb2
  have g2 := grownTr g1 (grownOf hb2)
  obtain ⟨⟨c0, c1, c2⟩, f0, f1, f2⟩ := cells3 h2.box
  have hg0 := grownTr g2 (grown_set (w := w2) (rb := rb) 2 (.bool false))
  have HG := hide hg0
  have HN := hide (h2.next (grown_set (w := w2) (rb := rb) 2 (.bool false)) (set_block3b h2.box (.bool false)))
  clear h1 g1 hb2 g2 hg0 h2
  go_wp2
  go_ret
  exact ⟨rfl, HN.out, HG.out⟩

theorem getInt_nil : (getInt []).2 = false := by decide

set_option maxRecDepth 100000 in
set_option maxHeartbeats 1000000 in
theorem snum_bad (rb : Nat) (ao : Option Addr) (n c : Nat) (zs : List Int) (t : Int) (bad : Bool) (hp : bad = true ∨ numM zs t = none) (w : World) (h : SRd w rb ao n c zs t bad) :
    Calls Tryz.prog 41 #[.pointer (some ⟨rb, 0, none⟩)] w fun e w' => ∃ m t', e = .returned (.int .i64 m) ∧ SRd w' rb ao n c zs t' true ∧ w.grownBy w' (some rb) := by
  have hways : (bad = true ∨ partM zs t 2 = none) ∨ (bad = false ∧ ∃ b nx m, getTlv zs t = (2, b, nx, true) ∧ getInt b = (m, false)) := by
    cases bad
    · rcases hp with hp | hp
      · cases hp
      · rcases numM_none hp with h | h
        · exact .inl (.inr h)
        · exact .inr ⟨rfl, h⟩
    · exact .inl (.inl rfl)
  clear hp
  rcases hways with hno | ⟨rfl, b, nx, m, hb, hi⟩
  · have HNO := hide hno
    clear hno
    go_enter Tryz.func41, Tryz.ntmps41
    go_wp2_with fail
    refine (spart_bad rb ao n c zs t 2 bad HNO.out _ h).mono ?_
    rintro e w1 ⟨bo, bc, rfl, r1, h1, g1⟩
    go_wp2_with fail
    refine (specGetInt_any _ _ _ [] _ r1 (by omega)).mono ?_
    rintro e w2 ⟨rfl, hb2⟩
    rw [getInt_nil]
    have h2 := h1.below hb2
    have g2 := grownTr g1 (grownOf hb2)
    obtain ⟨⟨c0, c1, c2⟩, f0, f1, f2⟩ := cells3 h2.box
    have hg0 := grownTr g2 (grown_set (w := w2) (rb := rb) 2 (.bool true))
    have HG := hide hg0
    have HN := hide (h2.next (grown_set (w := w2) (rb := rb) 2 (.bool true)) (set_block3b h2.box (.bool true)))
    clear h1 g1 hb2 g2 hg0 h2
    go_wp2
    go_ret
    exact ⟨_, _, rfl, HN.out, HG.out⟩
  · have hbl := tlv_short h.row.byte hb
    have HB := hide hb
    have HI := hide hi
    clear hb hi
    go_enter Tryz.func41, Tryz.ntmps41
    go_wp2_with fail
    refine (spart_good rb ao n c zs t 2 b nx HB.out _ h).mono ?_
    rintro e w1 ⟨bo, bc, rfl, r1, h1, g1, -⟩
    go_wp2_with fail
    refine (specGetInt_any _ _ _ b _ r1 (by omega)).mono ?_
    rintro e w2 ⟨rfl, hb2⟩
    rw [HI.out]
    have h2 := h1.below hb2
    have g2 := grownTr g1 (grownOf hb2)
    obtain ⟨⟨c0, c1, c2⟩, f0, f1, f2⟩ := cells3 h2.box
    have hg0 := grownTr g2 (grown_set (w := w2) (rb := rb) 2 (.bool true))
    have HG := hide hg0
    have HN := hide (h2.next (grown_set (w := w2) (rb := rb) 2 (.bool true)) (set_block3b h2.box (.bool true)))
    clear h1 g1 hb2 g2 hg0 h2
    go_wp2
    go_ret
    exact ⟨_, _, rfl, HN.out, HG.out⟩

theorem part_byt {zs : List Int} (hz : Byt zs) {t k nx : Int} {b : List Int} (h : getTlv zs t = (k, b, nx, true)) : b.length ≤ 250 ∧ Byt b := ⟨tlv_short hz h, byt_of_part hz h⟩

theorem spart_any (rb : Nat) (ao : Option Addr) (n c : Nat) (zs : List Int) (t tag : Int) (bad : Bool) (w : World) (h : SRd w rb ao n c zs t bad) :
    Calls Tryz.prog 42 #[.pointer (some ⟨rb, 0, none⟩), .int .i64 tag] w fun e w' => ∃ bo b bc t' bad', e = .returned (.slice bo b.length bc) ∧ Row w' bo b.length bc b ∧ SRd w' rb ao n c zs t' bad' ∧ w.grownBy w' (some rb) ∧ b.length ≤ 250 ∧ Byt b ∧
      ((bad' = false ∧ bad = false ∧ getTlv zs t = (tag, b, t', true) ∧ w'.ownsRow w.heap.size 5 1 (.slice bo b.length bc) b.length (cB b)) ∨ (bad' = true ∧ b = [] ∧ (bad = true ∨ partM zs t tag = none))) := by
  cases bad with
  | true =>
    refine (spart_bad rb ao n c zs t tag true (.inl rfl) w h).mono ?_
    rintro e w1 ⟨bo, bc, rfl, r1, h1, g1⟩
    exact ⟨bo, [], bc, t, true, rfl, r1, h1, g1, Nat.zero_le _, byte_nil, .inr ⟨rfl, rfl, .inl rfl⟩⟩
  | false =>
    cases hm : partM zs t tag with
    | none =>
      refine (spart_bad rb ao n c zs t tag false (.inr hm) w h).mono ?_
      rintro e w1 ⟨bo, bc, rfl, r1, h1, g1⟩
      exact ⟨bo, [], bc, t, true, rfl, r1, h1, g1, Nat.zero_le _, byte_nil, .inr ⟨rfl, rfl, .inr rfl⟩⟩
    | some bn =>
      obtain ⟨b, nx⟩ := bn
      have hT := part_some hm
      obtain ⟨hl, hb⟩ := part_byt h.row.byte hT
      refine (spart_good rb ao n c zs t tag b nx hT w h).mono ?_
      rintro e w1 ⟨bo, bc, rfl, r1, h1, g1, o1⟩
      exact ⟨bo, b, bc, nx, false, rfl, r1, h1, g1, hl, hb, .inl ⟨rfl, rfl, hT, o1⟩⟩

theorem snum_any (rb : Nat) (ao : Option Addr) (n c : Nat) (zs : List Int) (t : Int) (bad : Bool) (w : World) (h : SRd w rb ao n c zs t bad) :
    Calls Tryz.prog 41 #[.pointer (some ⟨rb, 0, none⟩)] w fun e w' => ∃ m t' bad', e = .returned (.int .i64 m) ∧ SRd w' rb ao n c zs t' bad' ∧ w.grownBy w' (some rb) ∧ ((bad' = false ∧ bad = false ∧ numM zs t = some (m, t')) ∨ (bad' = true ∧ (bad = true ∨ numM zs t = none))) := by
  cases bad with
  | true =>
    refine (snum_bad rb ao n c zs t true (.inl rfl) w h).mono ?_
    rintro e w1 ⟨m, t', rfl, h1, g1⟩
    exact ⟨m, t', true, rfl, h1, g1, .inr ⟨rfl, .inl rfl⟩⟩
  | false =>
    cases hm : numM zs t with
    | none =>
      refine (snum_bad rb ao n c zs t false (.inr hm) w h).mono ?_
      rintro e w1 ⟨m, t', rfl, h1, g1⟩
      exact ⟨m, t', true, rfl, h1, g1, .inr ⟨rfl, .inr rfl⟩⟩
    | some mn =>
      obtain ⟨m, nx⟩ := mn
      refine (snum_good rb ao n c zs t m nx hm w h).mono ?_
      rintro e w1 ⟨rfl, h1, g1⟩
      exact ⟨m, nx, false, rfl, h1, g1, .inl ⟨rfl, rfl, rfl⟩⟩

theorem srd_new (w : World) (ao : Option Addr) (n c : Nat) (zs : List Int) (hr : Row w ao n c zs) (hs : n ≤ 1048576) (o : Obj) : SRd ((w.alloc o).alloc (.cells #[.slice ao n c, .int .i64 0, .bool false] 67)) (w.heap.size + 1) ao n c zs 0 false :=
  ⟨by have := block_last (w.alloc o) (.cells #[.slice ao n c, .int .i64 0, .bool false] 67); simpa using this, hr.below (below_two _ _ _), hs⟩

set_option maxRecDepth 100000 in
set_option maxHeartbeats 2000000 in
theorem sbind_yes (ao : Option Addr) (n c : Nat) (zs : List Int) (x : BD) (hx : getB zs = some x) (w : World) (hr : Row w ao n c zs) (hs : n ≤ 1048576) :
    Calls Tryz.prog 73 #[.slice ao n c] w fun e w' => ∃ y : BI, e = .returned (.tuple #[.agg #[.slice y.oa y.on y.oc, .int .i64 y.K, .int .i64 y.N, .string y.S, .slice y.za y.zn y.zc], .bool true]) ∧ y.d = x ∧ BNew w' w.heap.size y ∧ Below w.heap.size w w' := by
  obtain ⟨ob, nx, hT, ho, hv⟩ := getB_some hx
  have hzl := hr.size
  have hbl := tlv_short hr.byte hT
  have hfit := getV_fits hr.byte hv
  obtain ⟨o, K, N, S, z⟩ := x
  simp only at ho hv hfit
  rw [hzl] at hv
  have HT := hide hT
  have HO1 := hide (show (getO ob).getD [] = o by rw [ho]; rfl)
  have HO2 := hide (show (getO ob).isSome = true by rw [ho]; rfl)
  have HV := hide hv
  have hR := srd_new w ao n c zs hr hs (.cells #[.slice none 0 0, .int .i64 0, .int .i64 0, .string ⟨#[]⟩, .slice none 0 0] 84)
  have q0 := below_two w (.cells #[.slice none 0 0, .int .i64 0, .int .i64 0, .string ⟨#[]⟩, .slice none 0 0] 84) (.cells #[.slice ao n c, .int .i64 0, .bool false] 67)
  have HKZ : Hid (((w.alloc (.cells #[.slice none 0 0, .int .i64 0, .int .i64 0, .string ⟨#[]⟩, .slice none 0 0] 84)).alloc (.cells #[.slice ao n c, .int .i64 0, .bool false] 67)).heap[w.heap.size]? = some (.cells #[.slice none 0 0, .int .i64 0, .int .i64 0, .string ⟨#[]⟩, .slice none 0 0] 84)) := hide (kept_block (block_last w _) (below_one _ _))
  clear hx hT ho hv
  go_enter Tryz.func73, Tryz.ntmps73
  go_wp2_with fail
  generalize hwb : ((w.alloc (.cells #[.slice none 0 0, .int .i64 0, .int .i64 0, .string ⟨#[]⟩, .slice none 0 0] 84)).alloc (.cells #[.slice ao n c, .int .i64 0, .bool false] 67)) = wb at *
  have hwbs : wb.heap.size = w.heap.size + 2 := by rw [← hwb]; simp
  have HWBS := hide hwbs
  clear hwb hwbs
  refine (spart_good (w.heap.size + 1) ao n c zs 0 6 ob nx HT.out _ hR).mono ?_
  rintro e w1 ⟨bo, bc, rfl, r1, h1, g1, -⟩
  have hn1 := g1.size
  have kz1 := kept_grown HKZ.out g1 (fun k hk => by cases hk; omega)
  have u1 := belowGr q0 g1 (by omega)
  go_wp2_with fail
  refine (specGet_row _ _ _ ob o true HO1.out HO2.out _ r1 (by omega)).mono ?_
  rintro e w2 ⟨ao2, cp2, rfl, o2, r2, hb2⟩
  have kz2 := kept_block kz1 hb2
  have h2 := h1.below hb2
  have u2 := u1.trans (hb2.mono u1.size)
  have hn2 := hb2.size
  obtain ⟨⟨c0, c1, c2⟩, f0, f1, f2⟩ := cells3 h2.box
  clear hR g1 kz1 u1 h1 hb2 r1
  go_wp2_with fail
  refine (specGetVal_made _ _ _ zs nx K N S z _ true HV.out _ (hr.below u2) (by omega)).mono ?_
  rintro e w3 ⟨ao3, cp3, rfl, o3, r3, hb3⟩
  have q3 := below_one w3 (.cells #[.int .i64 K, .int .i64 N, .string S, .slice ao3 z.length cp3] 81)
  have t3 := hb3.trans (q3.mono hb3.size)
  have kz3 := kept_block kz2 t3
  have h3 := h2.below t3
  have u3 := u2.trans (t3.mono u2.size)
  clear c0 c1 c2 f0 f1 f2
  obtain ⟨⟨c0, c1, c2⟩, f0, f1, f2⟩ := cells3 h3.box
  obtain ⟨⟨d0, d1, d2, d3, d4⟩, e0', e1, e2, e3, e4⟩ := cells5 kz3
  obtain ⟨⟨i0, i1, i2, i3⟩, -⟩ := cells4 (block_last w3 (.cells #[.int .i64 K, .int .i64 N, .string S, .slice ao3 z.length cp3] 81))
  have hs3 := hb3.size
  have hwb2 := HWBS.out
  have O2 := hide (own_lt (own_below o2 t3) (base' := w.heap.size + 1) (by omega))
  have O3 := hide (own_lt (own_below o3 q3) (base' := w.heap.size + 1) (by omega))
  have HND := hide (blks_new (x := ⟨ao2, o.length, cp2, o, K, N, S, ao3, z.length, cp3, z⟩) o2 o3 (Nat.le_refl _))
  have hb2' := r2.byte
  have hb3' := r3.byte
  have HU := hide u3
  have m1 : ¬ w3.heap.size = w.heap.size := by omega
  clear hb3 t3 kz3 h3 u3 kz2 h2 u2 o3 r3 o2 r2 hwb2
  go_wp2_with fail
  generalize (w3.alloc (.cells #[.int .i64 K, .int .i64 N, .string S, .slice ao3 z.length cp3] 81)) = w3a at *
  generalize w3.heap.size = nb at *
  go_wp2
  refine bodyPost_ret (v := .tuple #[.agg #[.slice ao2 o.length cp2, .int .i64 K, .int .i64 N, .string S, .slice ao3 z.length cp3], .bool true]) (by simp [results, Tryz.results73, go_sem, *]) rfl ⟨⟨ao2, o.length, cp2, o, K, N, S, ao3, z.length, cp3, z⟩, rfl, rfl, ⟨⟨?_, ?_, hb2', hb3', hfit.1⟩, HND.out⟩, ?_⟩
  · refine own_lt (base := w.heap.size + 1) ?_ (by omega)
    repeat (refine own_set ?_ (by omega))
    exact O2.out
  · refine own_lt (base := w.heap.size + 1) ?_ (by omega)
    repeat (refine own_set ?_ (by omega))
    exact O3.out
  · repeat (refine below_set ?_ (Nat.le_refl _) _ _)
    exact HU.out

set_option maxRecDepth 100000 in
set_option maxHeartbeats 2000000 in
theorem sbind_no (ao : Option Addr) (n c : Nat) (zs : List Int) (hx : getB zs = none) (w : World) (hr : Row w ao n c zs) (hs : n ≤ 1048576) :
    Calls Tryz.prog 73 #[.slice ao n c] w fun e w' => e = .returned (.tuple #[.agg #[.slice none 0 0, .int .i64 0, .int .i64 0, .string ⟨#[]⟩, .slice none 0 0], .bool false]) ∧ Below w.heap.size w w' := by
  have hzl := hr.size
  have hby := hr.byte
  have hR := srd_new w ao n c zs hr hs (.cells #[.slice none 0 0, .int .i64 0, .int .i64 0, .string ⟨#[]⟩, .slice none 0 0] 84)
  have q0 := below_two w (.cells #[.slice none 0 0, .int .i64 0, .int .i64 0, .string ⟨#[]⟩, .slice none 0 0] 84) (.cells #[.slice ao n c, .int .i64 0, .bool false] 67)
  have HKZ : Hid (((w.alloc (.cells #[.slice none 0 0, .int .i64 0, .int .i64 0, .string ⟨#[]⟩, .slice none 0 0] 84)).alloc (.cells #[.slice ao n c, .int .i64 0, .bool false] 67)).heap[w.heap.size]? = some (.cells #[.slice none 0 0, .int .i64 0, .int .i64 0, .string ⟨#[]⟩, .slice none 0 0] 84)) := hide (kept_block (block_last w _) (below_one _ _))
  rcases getB_none hx with (hno | ⟨ob, nx, hT, ho⟩) | ⟨ob, nx, o, K, N, S, z, e0, ok, hT, ho, hv, hbad⟩
  · have HNO := hide hno
    obtain ⟨O0, hO0⟩ : ∃ O, (getO []).getD [] = O := ⟨_, rfl⟩
    obtain ⟨b0, hb0⟩ : ∃ b, (getO []).isSome = b := ⟨_, rfl⟩
    have HO1 := hide hO0
    have HO2 := hide hb0
    clear hO0 hb0
    rcases hv : getV zs 0 with ⟨K, N, S, z, e0, ok⟩
    have HV := hide hv
    clear hx hno hv
    go_enter Tryz.func73, Tryz.ntmps73
    go_wp2_with fail
    generalize hwb : ((w.alloc (.cells #[.slice none 0 0, .int .i64 0, .int .i64 0, .string ⟨#[]⟩, .slice none 0 0] 84)).alloc (.cells #[.slice ao n c, .int .i64 0, .bool false] 67)) = wb at *
    have hwbs : wb.heap.size = w.heap.size + 2 := by rw [← hwb]; simp
    have HWBS := hide hwbs
    clear hwb hwbs
    refine (spart_bad (w.heap.size + 1) ao n c zs 0 6 false (.inr HNO.out) _ hR).mono ?_
    rintro e w1 ⟨bo, bc, rfl, r1, h1, g1⟩
    have hn1 := g1.size
    have kz1 := kept_grown HKZ.out g1 (fun k hk => by cases hk; omega)
    have u1 := belowGr q0 g1 (by omega)
    go_wp2_with fail
    refine (specGet_row _ _ _ [] O0 b0 HO1.out HO2.out _ r1 (by omega)).mono ?_
    rintro e w2 ⟨ao2, cp2, rfl, o2, r2, hb2⟩
    have kz2 := kept_block kz1 hb2
    have h2 := h1.below hb2
    have u2 := u1.trans (hb2.mono u1.size)
    have hn2 := hb2.size
    obtain ⟨⟨c0, c1, c2⟩, f0, f1, f2⟩ := cells3 h2.box
    clear hR g1 kz1 u1 h1 hb2 r1
    go_wp2_with fail
    refine (specGetVal_made _ _ _ zs 0 K N S z e0 ok HV.out _ (hr.below u2) (by omega)).mono ?_
    rintro e w3 ⟨ao3, cp3, rfl, o3, r3, hb3⟩
    have q3 := below_one w3 (.cells #[.int .i64 K, .int .i64 N, .string S, .slice ao3 z.length cp3] 81)
    have t3 := hb3.trans (q3.mono hb3.size)
    have kz3 := kept_block kz2 t3
    have h3 := h2.below t3
    have u3 := u2.trans (t3.mono u2.size)
    clear c0 c1 c2 f0 f1 f2
    obtain ⟨⟨c0, c1, c2⟩, f0, f1, f2⟩ := cells3 h3.box
    obtain ⟨⟨d0, d1, d2, d3, d4⟩, e0', e1, e2, e3, e4⟩ := cells5 kz3
    have HU := hide u3
    clear hb3 t3 kz3 h3 u3 kz2 h2 u2 o3 r3 o2 r2
    go_wp2_with fail
    generalize (w3.alloc (.cells #[.int .i64 K, .int .i64 N, .string S, .slice ao3 z.length cp3] 81)) = w3a at *
    go_wp2
    refine bodyPost_ret (v := .tuple #[.agg #[.slice none 0 0, .int .i64 0, .int .i64 0, .string ⟨#[]⟩, .slice none 0 0], .bool false]) (by simp [results, Tryz.results73, go_sem, *]) rfl ⟨rfl, ?_⟩
    repeat (refine below_set ?_ (Nat.le_refl _) _ _)
    exact HU.out
  · have hbl := tlv_short hby hT
    have HT := hide hT
    have HO1 := hide (show (getO ob).getD [] = [] by rw [ho]; rfl)
    have HO2 := hide (show (getO ob).isSome = false by rw [ho]; rfl)
    rcases hv : getV zs nx with ⟨K, N, S, z, e0, ok⟩
    have HV := hide hv
    clear hx hT ho hv
    go_enter Tryz.func73, Tryz.ntmps73
    go_wp2_with fail
    generalize hwb : ((w.alloc (.cells #[.slice none 0 0, .int .i64 0, .int .i64 0, .string ⟨#[]⟩, .slice none 0 0] 84)).alloc (.cells #[.slice ao n c, .int .i64 0, .bool false] 67)) = wb at *
    have hwbs : wb.heap.size = w.heap.size + 2 := by rw [← hwb]; simp
    have HWBS := hide hwbs
    clear hwb hwbs
    refine (spart_good (w.heap.size + 1) ao n c zs 0 6 ob nx HT.out _ hR).mono ?_
    rintro e w1 ⟨bo, bc, rfl, r1, h1, g1, -⟩
    have hn1 := g1.size
    have kz1 := kept_grown HKZ.out g1 (fun k hk => by cases hk; omega)
    have u1 := belowGr q0 g1 (by omega)
    go_wp2_with fail
    refine (specGet_row _ _ _ ob [] false HO1.out HO2.out _ r1 (by omega)).mono ?_
    rintro e w2 ⟨ao2, cp2, rfl, o2, r2, hb2⟩
    have kz2 := kept_block kz1 hb2
    have h2 := h1.below hb2
    have u2 := u1.trans (hb2.mono u1.size)
    have hn2 := hb2.size
    obtain ⟨⟨c0, c1, c2⟩, f0, f1, f2⟩ := cells3 h2.box
    clear hR g1 kz1 u1 h1 hb2 r1
    go_wp2_with fail
    refine (specGetVal_made _ _ _ zs nx K N S z e0 ok HV.out _ (hr.below u2) (by omega)).mono ?_
    rintro e w3 ⟨ao3, cp3, rfl, o3, r3, hb3⟩
    have q3 := below_one w3 (.cells #[.int .i64 K, .int .i64 N, .string S, .slice ao3 z.length cp3] 81)
    have t3 := hb3.trans (q3.mono hb3.size)
    have kz3 := kept_block kz2 t3
    have h3 := h2.below t3
    have u3 := u2.trans (t3.mono u2.size)
    clear c0 c1 c2 f0 f1 f2
    obtain ⟨⟨c0, c1, c2⟩, f0, f1, f2⟩ := cells3 h3.box
    obtain ⟨⟨d0, d1, d2, d3, d4⟩, e0', e1, e2, e3, e4⟩ := cells5 kz3
    have HU := hide u3
    clear hb3 t3 kz3 h3 u3 kz2 h2 u2 o3 r3 o2 r2
    go_wp2_with fail
    generalize (w3.alloc (.cells #[.int .i64 K, .int .i64 N, .string S, .slice ao3 z.length cp3] 81)) = w3a at *
    go_wp2
    refine bodyPost_ret (v := .tuple #[.agg #[.slice none 0 0, .int .i64 0, .int .i64 0, .string ⟨#[]⟩, .slice none 0 0], .bool false]) (by simp [results, Tryz.results73, go_sem, *]) rfl ⟨rfl, ?_⟩
    repeat (refine below_set ?_ (Nat.le_refl _) _ _)
    exact HU.out
  · have hbl := tlv_short hby hT
    have HT := hide hT
    have HO1 := hide (show (getO ob).getD [] = o by rw [ho]; rfl)
    have HO2 := hide (show (getO ob).isSome = true by rw [ho]; rfl)
    have HV := hide hv
    have hbad' : ok = false ∨ (ok = true ∧ (e0 != (n : Int)) = true) := by
      cases ok
      · exact .inl rfl
      · rcases hbad with h | h
        · cases h
        · exact .inr ⟨rfl, by rw [← hzl]; simpa using h⟩
    clear hx hT ho hv hbad
    rcases hbad' with rfl | ⟨rfl, hne0⟩
    all_goals
      go_enter Tryz.func73, Tryz.ntmps73
      go_wp2_with fail
      generalize hwb : ((w.alloc (.cells #[.slice none 0 0, .int .i64 0, .int .i64 0, .string ⟨#[]⟩, .slice none 0 0] 84)).alloc (.cells #[.slice ao n c, .int .i64 0, .bool false] 67)) = wb at *
      have hwbs : wb.heap.size = w.heap.size + 2 := by rw [← hwb]; simp
      have HWBS := hide hwbs
      clear hwb hwbs
      refine (spart_good (w.heap.size + 1) ao n c zs 0 6 ob nx HT.out _ hR).mono ?_
      rintro e w1 ⟨bo, bc, rfl, r1, h1, g1, -⟩
      have hn1 := g1.size
      have kz1 := kept_grown HKZ.out g1 (fun k hk => by cases hk; omega)
      have u1 := belowGr q0 g1 (by omega)
      go_wp2_with fail
      refine (specGet_row _ _ _ ob o true HO1.out HO2.out _ r1 (by omega)).mono ?_
      rintro e w2 ⟨ao2, cp2, rfl, o2, r2, hb2⟩
      have kz2 := kept_block kz1 hb2
      have h2 := h1.below hb2
      have u2 := u1.trans (hb2.mono u1.size)
      have hn2 := hb2.size
      obtain ⟨⟨c0, c1, c2⟩, f0, f1, f2⟩ := cells3 h2.box
      clear hR g1 kz1 u1 h1 hb2 r1
      go_wp2_with fail
      refine (specGetVal_made _ _ _ zs nx K N S z e0 _ HV.out _ (hr.below u2) (by omega)).mono ?_
      rintro e w3 ⟨ao3, cp3, rfl, o3, r3, hb3⟩
      have q3 := below_one w3 (.cells #[.int .i64 K, .int .i64 N, .string S, .slice ao3 z.length cp3] 81)
      have t3 := hb3.trans (q3.mono hb3.size)
      have kz3 := kept_block kz2 t3
      have h3 := h2.below t3
      have u3 := u2.trans (t3.mono u2.size)
      clear c0 c1 c2 f0 f1 f2
      obtain ⟨⟨c0, c1, c2⟩, f0, f1, f2⟩ := cells3 h3.box
      obtain ⟨⟨d0, d1, d2, d3, d4⟩, e0', e1, e2, e3, e4⟩ := cells5 kz3
      have HU := hide u3
      clear hb3 t3 kz3 h3 u3 kz2 h2 u2 o3 r3 o2 r2
      go_wp2_with fail
      generalize (w3.alloc (.cells #[.int .i64 K, .int .i64 N, .string S, .slice ao3 z.length cp3] 81)) = w3a at *
      go_wp2
      refine bodyPost_ret (v := .tuple #[.agg #[.slice none 0 0, .int .i64 0, .int .i64 0, .string ⟨#[]⟩, .slice none 0 0], .bool false]) (by simp [results, Tryz.results73, go_sem, *]) rfl ⟨rfl, ?_⟩
      repeat (refine below_set ?_ (Nat.le_refl _) _ _)
      exact HU.out

/-- Where a request's reading stands: the specification's reader, the request's box. -/
structure SPt (w1 wr : World) (rb pb : Nat) (bo : Option Addr) (bl bc : Nat) (t : Int) (bad : Bool) (k a1 a2 a3 : Int) (v4 : Value) : Prop where
  rbox : wr.heap[rb]? = some (.cells #[.slice bo bl bc, .int .i64 t, .bool bad] 67)
  pbox : wr.heap[pb]? = some (.cells #[.int .i64 k, .int .i64 a1, .int .i64 a2, .int .i64 a3, v4] 26)
  low : Below w1.heap.size w1 wr
  rlow : w1.heap.size ≤ rb
  plow : w1.heap.size ≤ pb
  ne : rb ≠ pb

section
variable {w1 wr w' : World} {rb pb : Nat} {bo : Option Addr} {bl bc : Nat} {t k a1 a2 a3 : Int} {bad : Bool} {v4 : Value}

theorem SPt.rdr (h : SPt w1 wr rb pb bo bl bc t bad k a1 a2 a3 v4) {zs : List Int} (hr : Row w1 bo bl bc zs) (hs : bl ≤ 1048576) : SRd wr rb bo bl bc zs t bad := ⟨h.rbox, hr.below h.low, hs⟩
theorem SPt.next (h : SPt w1 wr rb pb bo bl bc t bad k a1 a2 a3 v4) {zs : List Int} {t' : Int} {bad' : Bool} (hg : wr.grownBy w' (some rb)) (hR : SRd w' rb bo bl bc zs t' bad') : SPt w1 w' rb pb bo bl bc t' bad' k a1 a2 a3 v4 :=
  ⟨hR.box, kept_grown h.pbox hg (fun j hj => by cases hj; exact h.ne), h.low.grown hg h.low.size (fun j hj => by cases hj; exact h.rlow), h.rlow, h.plow, h.ne⟩
theorem SPt.below (h : SPt w1 wr rb pb bo bl bc t bad k a1 a2 a3 v4) (hb : Below wr.heap.size wr w') : SPt w1 w' rb pb bo bl bc t bad k a1 a2 a3 v4 :=
  ⟨kept_block h.rbox hb, kept_block h.pbox hb, h.low.trans (hb.mono h.low.size), h.rlow, h.plow, h.ne⟩
theorem SPt.set1 (h : SPt w1 wr rb pb bo bl bc t bad k a1 a2 a3 v4) (x : Int) : SPt w1 (wr.setCell ⟨pb, 1, none⟩ (.int .i64 x)) rb pb bo bl bc t bad k x a2 a3 v4 :=
  ⟨kept_set h.rbox h.ne, (by have := heap_setCell_same wr pb 1 _ _ (.int .i64 x) h.pbox; simpa using this), below_set h.low h.plow _ _, h.rlow, h.plow, h.ne⟩
theorem SPt.set2 (h : SPt w1 wr rb pb bo bl bc t bad k a1 a2 a3 v4) (x : Int) : SPt w1 (wr.setCell ⟨pb, 2, none⟩ (.int .i64 x)) rb pb bo bl bc t bad k a1 x a3 v4 :=
  ⟨kept_set h.rbox h.ne, (by have := heap_setCell_same wr pb 2 _ _ (.int .i64 x) h.pbox; simpa using this), below_set h.low h.plow _ _, h.rlow, h.plow, h.ne⟩
theorem SPt.set3 (h : SPt w1 wr rb pb bo bl bc t bad k a1 a2 a3 v4) (x : Int) : SPt w1 (wr.setCell ⟨pb, 3, none⟩ (.int .i64 x)) rb pb bo bl bc t bad k a1 a2 x v4 :=
  ⟨kept_set h.rbox h.ne, (by have := heap_setCell_same wr pb 3 _ _ (.int .i64 x) h.pbox; simpa using this), below_set h.low h.plow _ _, h.rlow, h.plow, h.ne⟩
end

theorem spt_new (w1 : World) (bo : Option Addr) (bl bc : Nat) (k : Int) : SPt w1 ((w1.alloc (.cells #[.slice bo bl bc, .int .i64 0, .bool false] 67)).alloc (.cells #[.int .i64 k, .int .i64 0, .int .i64 0, .int .i64 0, .slice none 0 0] 26)) w1.heap.size (w1.heap.size + 1) bo bl bc 0 false k 0 0 0 (.slice none 0 0) :=
  ⟨kept_block (block_last w1 _) (below_one _ _), (by have := block_last (w1.alloc (.cells #[.slice bo bl bc, .int .i64 0, .bool false] 67)) (.cells #[.int .i64 k, .int .i64 0, .int .i64 0, .int .i64 0, .slice none 0 0] 26); simpa using this), below_two _ _ _, Nat.le_refl _, by omega, by omega⟩

theorem getTlv_bad {z : List Int} {t k nx : Int} {b : List Int} (h : getTlv z t = (k, b, nx, false)) : b = [] := by
  unfold getTlv at h
  split at h
  · simp only [Prod.mk.injEq] at h; exact h.2.1.symm
  · split at h
    · simp at h
    · simp only [Prod.mk.injEq] at h; exact h.2.1.symm

theorem numM_nil (t : Int) : numM [] t = none := by
  have hp : partM [] t 2 = none := by
    unfold partM
    rw [if_neg]
    rintro ⟨h1, -⟩
    unfold getTlv at h1
    rw [if_pos (by simp; omega)] at h1
    cases h1
  unfold numM
  rw [hp]
theorem getB_nil : getB [] = none := by
  have hp : partM [] 0 6 = none := by
    unfold partM
    rw [if_neg]
    rintro ⟨h1, -⟩
    unfold getTlv at h1
    rw [if_pos (by simp)] at h1
    cases h1
  unfold getB
  rw [hp]

theorem Only.grown_new {bs : List Nat} {a b c : World} {row : Option Nat} (h : Only bs a b) (hg : b.grownBy c row) (hr : ∀ k, row = some k → a.heap.size ≤ k) : Only bs a c :=
  ⟨hg.os.trans h.os, hg.tape.trans h.tape, hg.output.trans h.output, Nat.le_trans h.size hg.size, fun k hk hn => (hg.block k (Nat.lt_of_lt_of_le hk h.size) (fun e => by have := hr k e.symm; omega)).trans (h.block k hk hn)⟩

def lenOf : Value → Nat
  | .slice _ n _ => n
  | _ => 0

/-- The reading of binds, in the specification's loop. -/
structure SLoop (z : List Int) (wq wr : World) (rb pb qb : Nat) (bo : Option Addr) (bl bc : Nat) (rt : Int) (qo : Option Addr) (qc : Nat) (zs : List Int) (k id a b : Int) (rbad : Bool) (qt : Int) (qbad : Bool) (ys : List BI) (lo : Option Addr) (cap : Nat) : Prop where
  rbox : wr.heap[rb]? = some (.cells #[.slice bo bl bc, .int .i64 rt, .bool rbad] 67)
  qbox : wr.heap[qb]? = some (.cells #[.slice qo zs.length qc, .int .i64 qt, .bool qbad] 67)
  pbox : wr.heap[pb]? = some (.cells #[.int .i64 k, .int .i64 id, .int .i64 a, .int .i64 b, .slice lo ys.length cap] 26)
  bo : BOwns wr wq.heap.size lo ys.length cap ys
  only : Only [rb, pb, qb] wq wr
  st : (rbad = true ∧ getP z = none) ∨ (rbad = false ∧ qbad = false ∧ Reads zs.length zs qt ys)

theorem Reads.long {zs : List Int} {t : Int} {ys : List BI} (h : Reads zs.length zs t ys) (hz : Byt zs) (hl : 10 < ys.length) : getBs 10 zs 0 = none := by
  obtain ⟨p, -, -, f, -, he, -⟩ := h.t
  rw [getBs_ten hz, he]
  cases getBs f zs t with
  | none => rfl
  | some l =>
    simp only [Option.map_some]
    rw [if_neg (by simp; omega)]

set_option maxRecDepth 100000 in
set_option maxHeartbeats 8000000 in
theorem specGetPdu_any (ao : Option Addr) (n c : Nat) (z : List Int) (r : Option PD) (hr0 : getP z = r) (w : World) (hr : Row w ao n c z) (hs : n ≤ 1048576) :
    Calls Tryz.prog 43 #[.slice ao n c] w fun e w' => GotP r w e w' ∧ Below w.heap.size w w' := by
  obtain ⟨i0, hi, hz0, hz1, hz2⟩ := info_parts Tryz.infoBind'
  have hzl := hr.size
  have hby := hr.byte
  have q0 := below_one w (.cells #[.int .i64 0, .int .i64 0, .int .i64 0, .int .i64 0, .slice none 0 0] 26)
  have HR0 := hide hr0
  have HKZ := hide (block_last w (.cells #[.int .i64 0, .int .i64 0, .int .i64 0, .int .i64 0, .slice none 0 0] 26))
  have rw0 := hr.below q0
  rcases hT : getTlv z 0 with ⟨k, body, nx, ok⟩
  have hbl : body.length ≤ 250 := by
    cases ok
    · rw [getTlv_bad hT]; exact Nat.zero_le _
    · exact tlv_short hby hT
  have hbb := byt_of_part hby hT
  have HT := hide hT
  clear hr0 hT
  go_enter Tryz.func43, Tryz.ntmps43
  go_wp2_with fail
  generalize hwb : (w.alloc (.cells #[.int .i64 0, .int .i64 0, .int .i64 0, .int .i64 0, .slice none 0 0] 26)) = wb at *
  have hwbs : wb.heap.size = w.heap.size + 1 := by rw [← hwb]; simp
  have HWBS := hide hwbs
  clear hwb hwbs
  refine (specGet_made _ _ _ z 0 k nx ok body HT.out _ rw0 (by omega)).mono ?_
  rintro e w1 ⟨bo, bc, rfl, -, r1, u1⟩
  have HKZ1 := hide (kept_block HKZ.out u1)
  have hw1 : w.heap.size + 1 ≤ w1.heap.size := by have := u1.size; have := HWBS.out; omega
  have UW := hide (q0.trans (u1.mono q0.size))
  clear u1 HWBS HKZ rw0
  have P0 := spt_new w1 bo body.length bc k
  obtain ⟨⟨p0, p1, p2, p3, p4⟩, f0, f1, f2, f3, f4⟩ := cells5 P0.pbox
  have hsm : body.length ≤ 1048576 := by omega
  have R0 := P0.rdr r1 hsm
  have HP0 := hide P0
  clear P0
  go_wp2_with fail
  generalize ((w1.alloc (.cells #[.slice bo body.length bc, .int .i64 0, .bool false] 67)).alloc (.cells #[.int .i64 k, .int .i64 0, .int .i64 0, .int .i64 0, .slice none 0 0] 26)) = wc at *
  refine (snum_any w1.heap.size bo body.length bc body 0 false _ R0).mono ?_
  rintro e w3 ⟨id, t1, bad1, rfl, h3, g3, hst1⟩
  have P1 := HP0.out.next g3 h3
  have S1 := hide hst1
  clear p0 p1 p2 p3 p4 f0 f1 f2 f3 f4 HP0 R0 h3 g3 hst1
  obtain ⟨⟨p0, p1, p2, p3, p4⟩, f0, f1, f2, f3, f4⟩ := cells5 P1.pbox
  have HP1 := hide (P1.set1 id)
  have R1 := (P1.set1 id).rdr r1 hsm
  clear P1
  go_wp2_with fail
  generalize (w3.setCell ⟨w1.heap.size + 1, 1, none⟩ (.int .i64 id)) = w3a at *
  refine (snum_any w1.heap.size bo body.length bc body t1 bad1 _ R1).mono ?_
  rintro e w4 ⟨a, t2, bad2, rfl, h4, g4, hst2⟩
  have P2 := HP1.out.next g4 h4
  have S2 := hide hst2
  clear p0 p1 p2 p3 p4 f0 f1 f2 f3 f4 HP1 R1 h4 g4 hst2
  obtain ⟨⟨p0, p1, p2, p3, p4⟩, f0, f1, f2, f3, f4⟩ := cells5 P2.pbox
  have HP2 := hide (P2.set2 a)
  have R2 := (P2.set2 a).rdr r1 hsm
  clear P2
  go_wp2_with fail
  generalize (w4.setCell ⟨w1.heap.size + 1, 2, none⟩ (.int .i64 a)) = w4a at *
  refine (snum_any w1.heap.size bo body.length bc body t2 bad2 _ R2).mono ?_
  rintro e w5 ⟨b, t3, bad3, rfl, h5, g5, hst3⟩
  have P3 := HP2.out.next g5 h5
  have S3 := hide hst3
  clear p0 p1 p2 p3 p4 f0 f1 f2 f3 f4 HP2 R2 h5 g5 hst3
  obtain ⟨⟨p0, p1, p2, p3, p4⟩, f0, f1, f2, f3, f4⟩ := cells5 P3.pbox
  have HP3 := hide (P3.set3 b)
  have R3 := (P3.set3 b).rdr r1 hsm
  have hpb5 : w1.heap.size + 1 < (w5.setCell ⟨w1.heap.size + 1, 3, none⟩ (.int .i64 b)).heap.size := (Array.getElem?_eq_some_iff.1 (P3.set3 b).pbox).1
  clear P3
  go_wp2_with fail
  generalize (w5.setCell ⟨w1.heap.size + 1, 3, none⟩ (.int .i64 b)) = w5a at *
  refine (spart_any w1.heap.size bo body.length bc body t3 48 bad3 _ R3).mono ?_
  rintro e w6 ⟨qo, zs, qc, rt, rbad, rfl, r6, h6, g6, hzs, hzb, hst4⟩
  have P4 := HP3.out.next g6 h6
  have hrow : ∀ wr, Only [w1.heap.size, w1.heap.size + 1, w6.heap.size] (w6.alloc (.cells #[.slice qo zs.length qc, .int .i64 0, .bool false] 67)) wr → Row wr qo zs.length qc zs := by
    intro wr hon
    rcases hst4 with ⟨-, -, -, own⟩ | ⟨-, rfl, -⟩
    · have own' := own_below own (below_one w6 (.cells #[.slice qo zs.length qc, .int .i64 0, .bool false] 67))
      refine row_own (hon.own own' (fun j hj hc => ?_)) hzb
      have h1 := (own.lt j hj)
      have h2 := g6.size
      simp only [List.mem_cons, List.not_mem_nil, or_false] at hc
      omega
    · exact ⟨rfl, r6.le, r6.top, r6.nil, byte_nil, .inl rfl⟩
  have hfacts : (rbad = true ∧ getP z = none) ∨ (rbad = false ∧ ok = true ∧ numM body 0 = some (id, t1) ∧ numM body t1 = some (a, t2) ∧ numM body t2 = some (b, t3) ∧ partM body t3 48 = some (zs, rt)) := by
    have bad : getTail body = none → getP z = none := by
      intro h
      cases ok
      · exact getP_no HT.out (.inl rfl)
      · by_cases hnx : nx = z.length
        · subst hnx; exact getP_tail0 HT.out h
        · exact getP_no HT.out (.inr hnx)
    rcases S1.out with ⟨rfl, -, e1⟩ | ⟨rfl, e1⟩
    · rcases S2.out with ⟨rfl, -, e2⟩ | ⟨rfl, e2⟩
      · rcases S3.out with ⟨rfl, -, e3⟩ | ⟨rfl, e3⟩
        · rcases hst4 with ⟨rfl, -, e4, -⟩ | ⟨rfl, -, e4⟩
          · refine .inr ⟨rfl, ?_, e1, e2, e3, part_of e4⟩
            cases ok
            · rw [getTlv_bad HT.out, numM_nil] at e1; cases e1
            · rfl
          · rcases e4 with h | h
            · cases h
            · exact .inl ⟨rfl, bad (tail_no4 e1 e2 e3 h)⟩
        · have e3' : numM body t2 = none := by rcases e3 with h | h; (cases h); exact h
          rcases hst4 with ⟨-, h, -, -⟩ | ⟨rfl, -, -⟩
          · cases h
          · exact .inl ⟨rfl, bad (tail_no3 e1 e2 e3')⟩
      · have e2' : numM body t1 = none := by rcases e2 with h | h; (cases h); exact h
        rcases S3.out with ⟨-, h, -⟩ | ⟨rfl, -⟩
        · cases h
        · rcases hst4 with ⟨-, h, -, -⟩ | ⟨rfl, -, -⟩
          · cases h
          · exact .inl ⟨rfl, bad (tail_no2 e1 e2')⟩
    · have e1' : numM body 0 = none := by rcases e1 with h | h; (cases h); exact h
      rcases S2.out with ⟨-, h, -⟩ | ⟨rfl, -⟩
      · cases h
      · rcases S3.out with ⟨-, h, -⟩ | ⟨rfl, -⟩
        · cases h
        · rcases hst4 with ⟨-, h, -, -⟩ | ⟨rfl, -, -⟩
          · cases h
          · exact .inl ⟨rfl, bad (tail_no1 e1')⟩
  have n6 := g6.size
  have hq1 := below_one w6 (.cells #[.slice qo zs.length qc, .int .i64 0, .bool false] 67)
  have P5 := P4.below hq1
  have hstart : SLoop z (w6.alloc (.cells #[.slice qo zs.length qc, .int .i64 0, .bool false] 67)) (w6.alloc (.cells #[.slice qo zs.length qc, .int .i64 0, .bool false] 67)) w1.heap.size (w1.heap.size + 1) w6.heap.size bo body.length bc rt qo qc zs k id a b rbad 0 false [] none 0 :=
    ⟨P5.rbox, block_last w6 _, P5.pbox, bowns_nil _ _, Only.refl _ _, by
      rcases hfacts with ⟨h1, h2⟩ | ⟨h1, -⟩
      · exact .inl ⟨h1, h2⟩
      · exact .inr ⟨h1, rfl, reads_start zs⟩⟩
  have HF := hide hfacts
  have HROW := hide hrow
  have LOW := hide P5.low
  have HW1 : Hid (Below w.heap.size w (w6.alloc (.cells #[.slice qo zs.length qc, .int .i64 0, .bool false] 67))) := hide (UW.out.trans (P5.low.mono (by omega)))
  have KZ := hide (kept_block HKZ1.out P5.low)
  have hqs : (w6.alloc (.cells #[.slice qo zs.length qc, .int .i64 0, .bool false] 67)).heap.size = w6.heap.size + 1 := by simp
  have HQS := hide hqs
  clear p0 p1 p2 p3 p4 f0 f1 f2 f3 f4 HP3 R3 h6 g6 hst4 S1 S2 S3 hfacts hrow P4 P5 hqs hq1 r6 UW HKZ1
  go_wp2_with fail
  generalize hwq : (w6.alloc (.cells #[.slice qo zs.length qc, .int .i64 0, .bool false] 67)) = wq at *
  clear hwq
  generalize hqb : w6.heap.size = qb at *
  clear hqb
  have hwqs := HQS.out
  clear HQS
  have HWQS := hide hwqs
  clear hwqs
  go_loopw [12] (fun _ wr => ∃ rbad' qt qbad ys lo cap, SLoop z wq wr w1.heap.size (w1.heap.size + 1) qb bo body.length bc rt qo qc zs k id a b rbad' qt qbad ys lo cap ∧ (rbad' = false → rbad = false)) (fun _ wr => 12 - lenOf ((wr.cell? ⟨w1.heap.size + 1, 4, none⟩).getD (.slice none 0 0)))
  case atStart => exact ⟨rbad, 0, false, [], none, 0, hstart, fun h => h⟩
  case round =>
    obtain ⟨rbad', qt, qbad, ys, lo, cap, LP, hrr⟩ := hrel
    clear hstart
    have hwq2 := HWQS.out
    have hbw : Below w.heap.size w wr := HW1.out.trans (LP.only.below (by omega) (fun b hb => by simp only [List.mem_cons, List.not_mem_nil, or_false] at hb; omega))
    have HBW := hide hbw
    have kzr := LP.only.kept KZ.out (by simp only [List.mem_cons, List.not_mem_nil, or_false]; omega)
    obtain ⟨⟨x0, x1, x2⟩, xf0, xf1, xf2⟩ := cells3 LP.rbox
    obtain ⟨⟨v0, v1, v2⟩, vf0, vf1, vf2⟩ := cells3 LP.qbox
    obtain ⟨⟨p0, p1, p2, p3, p4⟩, f0, f1, f2, f3, f4⟩ := cells5 LP.pbox
    obtain ⟨⟨d0, d1, d2, d3, d4⟩, e0, e1, e2, e3, e4⟩ := cells5 kzr
    have HKZR := hide kzr
    have HLP := hide LP
    have hst := LP.st
    have m1 : ¬ w1.heap.size = w.heap.size := by omega
    have m2 : ¬ w1.heap.size + 1 = w.heap.size := by omega
    have m3 : ¬ qb = w.heap.size := by omega
    clear kzr LP hbw hwq2
    rcases hst with ⟨rfl, hnone⟩ | ⟨rfl, hqb, hrd⟩
    · have HNO := hide hnone
      clear hnone
      go_wp2_with fail
      go_quiet (fail)
      cases ok
      · have HN : Hid (r = none) := hide (HR0.out.symm.trans (HNO.out))
        go_wp2_with fail
        go_quiet (fail)
        go_wp2
        refine bodyPost_ret (v := .tuple #[.agg #[.int .i64 0, .int .i64 0, .int .i64 0, .int .i64 0, .slice none 0 0], .bool false]) (by simp [results, Tryz.results43, go_sem, *]) rfl ⟨by rw [HN.out]; exact ⟨0, 0, 0, 0, [], none, 0, rfl, bowns_nil _ _, rfl⟩, ?_⟩
        repeat (refine below_set ?_ (Nat.le_refl _) _ _)
        exact below_drewN HBW.out _
      · by_cases hnx : nx = n
        · subst hnx
          have HN : Hid (r = none) := hide (HR0.out.symm.trans (HNO.out))
          go_wp2_with fail
          go_quiet (fail)
          go_wp2
          refine bodyPost_ret (v := .tuple #[.agg #[.int .i64 0, .int .i64 0, .int .i64 0, .int .i64 0, .slice none 0 0], .bool false]) (by simp [results, Tryz.results43, go_sem, *]) rfl ⟨by rw [HN.out]; exact ⟨0, 0, 0, 0, [], none, 0, rfl, bowns_nil _ _, rfl⟩, ?_⟩
          repeat (refine below_set ?_ (Nat.le_refl _) _ _)
          exact below_drewN HBW.out _
        · have hnn : (nx != (n : Int)) = true := by simpa using hnx
          have HN : Hid (r = none) := hide (HR0.out.symm.trans (HNO.out))
          go_wp2_with fail
          go_quiet (fail)
          go_wp2
          refine bodyPost_ret (v := .tuple #[.agg #[.int .i64 0, .int .i64 0, .int .i64 0, .int .i64 0, .slice none 0 0], .bool false]) (by simp [results, Tryz.results43, go_sem, *]) rfl ⟨by rw [HN.out]; exact ⟨0, 0, 0, 0, [], none, 0, rfl, bowns_nil _ _, rfl⟩, ?_⟩
          repeat (refine below_set ?_ (Nat.le_refl _) _ _)
          exact below_drewN HBW.out _
    · have hrr := hrr rfl
      subst hrr
      subst hqb
      have hqle : qt ≤ zs.length := by obtain ⟨qp, hqp, hqpl, -⟩ := hrd.at; omega
      rcases HF.out with ⟨hf, -⟩ | ⟨-, hok, g1, g2, g3, g4⟩
      · cases hf
      · subst hok
        have HTL := hide (tail_is g1 g2 g3 g4)
        have HRD := hide hrd
        clear hrd g1 g2 g3 g4 HF
        by_cases hql : qt < zs.length
        · by_cases hyl : (ys.length : Int) ≤ 10
          · have hne : ¬ qt = zs.length := by omega
            have hwq2 := HWQS.out
            have HSR : Hid (SRd wr qb qo zs.length qc zs qt false) := hide ⟨HLP.out.qbox, HROW.out wr HLP.out.only, by omega⟩
            rcases HRD.out.step hzb hne with ⟨hno, hnone⟩ | ⟨b', nx', hT', hrest⟩
            · have HNO := hide hno
              have HNP : Hid (getP z = none) := hide (by
                by_cases hnx : nx = z.length
                · subst hnx; exact getP_tail0 HT.out (by rw [HTL.out, getBs_ten hzb, hnone]; simp)
                · exact getP_no HT.out (.inr hnx))
              clear hno hnone hwq2
              go_wp2_with fail
              go_quiet (fail)
              go_wp2_with fail
              refine (spart_bad qb qo zs.length qc zs qt 48 false (.inr HNO.out) _ (HSR.out.below (below_drewN (Below.refl _ _) _))).mono ?_
              rintro e w2 ⟨bo2, bc2, rfl, r2, h2, g2⟩
              have g2' : wr.grownBy w2 (some qb) := ⟨g2.os, g2.tape, g2.output, g2.size, g2.block⟩
              clear g2
              go_wp2_with fail
              refine (sbind_no _ _ _ [] getB_nil _ r2 (by omega)).mono ?_
              rintro e w3 ⟨rfl, hb3⟩
              obtain ⟨y, hy⟩ : ∃ y : BI, y = BI.zero := ⟨_, rfl⟩
              have hy3 : BOwn w3 wq.heap.size y := by rw [hy]; exact zero_own _ _
              have HND : Hid y.blks.Nodup := hide (by rw [hy]; exact List.nodup_nil)
              have HAP : Hid (∀ z ∈ ys, ∀ b ∈ z.blks, b ∉ y.blks) := hide (by rw [hy]; intro _ _ _ _ hc; cases hc)
              rw [show (Value.agg #[.slice none 0 0, .int .i64 0, .int .i64 0, .string ⟨#[]⟩, .slice none 0 0]) = .agg #[.slice y.oa y.on y.oc, .int .i64 y.K, .int .i64 y.N, .string y.S, .slice y.za y.zn y.zc] by rw [hy]; rfl]
              clear hy
              have kr := kept_block (kept_grown HLP.out.rbox g2' (fun j hj => by cases hj; omega)) hb3
              have kq := kept_block h2.box hb3
              have kp := kept_block (kept_grown HLP.out.pbox g2' (fun j hj => by cases hj; omega)) hb3
              have bo3 := (HLP.out.bo.only (Only.of_grown (ao := some ⟨qb, 0, none⟩) (n := 0) (c := 0) g2') (fun j hj hc => by have h0 := HWQS.out; have := (HLP.out.bo.blk j hj).1; simp [blkL] at hc; omega)).below hb3
              have on3 : Only [w1.heap.size, w1.heap.size + 1, qb] wq w3 := (HLP.out.only.trans ((Only.of_grown (ao := some ⟨qb, 0, none⟩) (n := 0) (c := 0) g2').wider (fun j hj => by simp [blkL] at hj; simp [hj]))).trans (Only.of_below hb3)
              have yo := hy3
              have hxs : qb < w3.heap.size := by have h1 := (Array.getElem?_eq_some_iff.1 h2.box).1; have h2 := hb3.size; omega
              have hxr : w1.heap.size + 1 < w3.heap.size := by have h1 := (Array.getElem?_eq_some_iff.1 HLP.out.pbox).1; have h2 := g2'.size; have h3 := hb3.size; omega
              clear x0 x1 x2 xf0 xf1 xf2 v0 v1 v2 vf0 vf1 vf2 p0 p1 p2 p3 p4 f0 f1 f2 f3 f4 d0 d1 d2 d3 d4 e0 e1 e2 e3 e4 hb3 h2 g2' hy3
              obtain ⟨⟨x0, x1, x2⟩, xf0, xf1, xf2⟩ := cells3 kr
              obtain ⟨⟨v0, v1, v2⟩, vf0, vf1, vf2⟩ := cells3 kq
              obtain ⟨⟨p0, p1, p2, p3, p4⟩, f0, f1, f2, f3, f4⟩ := cells5 kp
              have m4 : ¬ w3.heap.size = w1.heap.size := by omega
              have m5 : ¬ w3.heap.size = w1.heap.size + 1 := by omega
              have m6 : ¬ qb = w1.heap.size := by have := HWQS.out; omega
              have m7 : ¬ w1.heap.size = qb := by have := HWQS.out; omega
              have m8 : ¬ w1.heap.size = w3.heap.size := by omega
              have m9 : ¬ w1.heap.size + 1 = w3.heap.size := by omega
              -- the reader's mark, and one bind more
              have q3 := below_one w3 (.cells #[.slice y.oa y.on y.oc, .int .i64 y.K, .int .i64 y.N, .string y.S, .slice y.za y.zn y.zc] 84)
              have kr4 := set_block3b (kept_block kr q3) (.bool true)
              have kq4 := kept_set (j := 2) (u := .bool true) (kept_block kq q3) (show qb ≠ w1.heap.size from m6)
              have kp4 := kept_set (b := w1.heap.size) (j := 2) (u := .bool true) (kept_block kp q3) (by omega)
              have hwq4 : w1.heap.size + 1 < wq.heap.size ∧ qb < wq.heap.size := by have := HWQS.out; omega
              have bo4 := (bo3.below q3).set_below (g := w1.heap.size) (j := 2) (u := .bool true) (by omega)
              have on4 := (on3.trans (Only.of_below q3)).trans ((Only.set (w3.alloc (.cells #[.slice y.oa y.on y.oc, .int .i64 y.K, .int .i64 y.N, .string y.S, .slice y.za y.zn y.zc] 84)) w1.heap.size 2 (.bool true)).wider (fun j hj => by simp only [List.mem_singleton] at hj; simp [hj]))
              have yo4 := (yo.below q3).only (Only.set (w3.alloc (.cells #[.slice y.oa y.on y.oc, .int .i64 y.K, .int .i64 y.N, .string y.S, .slice y.za y.zn y.zc] 84)) w1.heap.size 2 (.bool true)) (fun j hj hc => by have := (yo.blk j hj).1; simp only [List.mem_singleton] at hc; omega)
              have q4 := below_one ((w3.alloc (.cells #[.slice y.oa y.on y.oc, .int .i64 y.K, .int .i64 y.N, .string y.S, .slice y.za y.zn y.zc] 84)).setCell ⟨w1.heap.size, 2, none⟩ (.bool true)) (.cells #[.slice y.oa y.on y.oc, .int .i64 y.K, .int .i64 y.N, .string y.S, .slice y.za y.zn y.zc] 84)
              have HKR := hide (kept_block kr4 q4)
              have HKQ := hide (kept_block kq4 q4)
              have HKP := hide (kept_block kp4 q4)
              have HBO4 := hide (bo4.below q4)
              have HON4 := hide (on4.trans (Only.of_below q4))
              have HYO4 := hide (yo4.below q4)
              have hrow4 := (bo4.below q4).row
              have hsz4 : wq.heap.size ≤ (((w3.alloc (.cells #[.slice y.oa y.on y.oc, .int .i64 y.K, .int .i64 y.N, .string y.S, .slice y.za y.zn y.zc] 84)).setCell ⟨w1.heap.size, 2, none⟩ (.bool true)).alloc (.cells #[.slice y.oa y.on y.oc, .int .i64 y.K, .int .i64 y.N, .string y.S, .slice y.za y.zn y.zc] 84)).heap.size := by have := on4.size; simp at this; simp; omega
              have HBN4 : Hid (∀ (j : Nat) (u : Value), y.cs[j]? = some u → (((w3.alloc (.cells #[.slice y.oa y.on y.oc, .int .i64 y.K, .int .i64 y.N, .string y.S, .slice y.za y.zn y.zc] 84)).setCell ⟨w1.heap.size, 2, none⟩ (.bool true)).alloc (.cells #[.slice y.oa y.on y.oc, .int .i64 y.K, .int .i64 y.N, .string y.S, .slice y.za y.zn y.zc] 84)).cell? ((⟨w3.heap.size + 1, 0, none⟩ : Addr).add j) = some u) := hide (by have h := bind_news ((w3.alloc (.cells #[.slice y.oa y.on y.oc, .int .i64 y.K, .int .i64 y.N, .string y.S, .slice y.za y.zn y.zc] 84)).setCell ⟨w1.heap.size, 2, none⟩ (.bool true)) y; rw [show ((w3.alloc (.cells #[.slice y.oa y.on y.oc, .int .i64 y.K, .int .i64 y.N, .string y.S, .slice y.za y.zn y.zc] 84)).setCell ⟨w1.heap.size, 2, none⟩ (.bool true)).heap.size = w3.heap.size + 1 by simp] at h; exact h)
              obtain ⟨⟨xa0, xa1, xa2⟩, xg0, xg1, xg2⟩ := cells3 (kept_block kr q3)
              obtain ⟨⟨va0, va1, va2⟩, -⟩ := cells3 (kept_block kq q3)
              obtain ⟨⟨pa0, pa1, pa2, pa3, pa4⟩, -⟩ := cells5 (kept_block kp q3)
              clear kr kq kp bo3 on3 yo kr4 kq4 kp4 bo4 on4 yo4 q4 q3
              go_wp2_with (at_builtin; refine wpList_append_own _ rfl _ _ 24 rfl wq.heap.size 84 i0 (.agg #[.slice none 0 0, .int .i64 0, .int .i64 0, .string ⟨#[]⟩, .slice none 0 0]) 5 80 Tryz.underlying24 hi hz0 hz1 hz2 rfl (by decide) _ ys.length (cBs ys) rfl hrow4 ⟨w3.heap.size + 1, 0, none⟩ 1 1 y.cs rfl rfl HBN4.out (cs_oneCell y) ?c1 ?c2 ?c3 ?_)
              case c1 => unfold maxLen; omega
              case c2 => omega
              case c3 => exact hsz4
              intro v' w5 how hgr _
              obtain ⟨lo', cap', rfl⟩ := own_slice how
              have bo5 := HBO4.out.push HYO4.out HND.out HAP.out hgr how
              have hlo : ∀ j, j < wq.heap.size → j ∉ blkL lo := fun j hj hc => by have := (HBO4.out.row.lt j (mem_blkL.2 hc)).1; omega
              have O5 := Only.of_grown hgr
              have kr5 := O5.kept HKR.out (hlo _ (by omega))
              have kq5 := O5.kept HKQ.out (hlo _ (by omega))
              have kp5 := O5.kept HKP.out (hlo _ (by omega))
              have on5 := HON4.out.grown_new hgr (fun j hj => (HBO4.out.row.lt j hj).1)
              clear x0 x1 x2 xf0 xf1 xf2 v0 v1 v2 vf0 vf1 vf2 p0 p1 p2 p3 p4 f0 f1 f2 f3 f4 xa0 xa1 xa2 xg0 xg1 xg2 va0 va1 va2 pa0 pa1 pa2 pa3 pa4
              obtain ⟨⟨p0, p1, p2, p3, p4⟩, f0, f1, f2, f3, f4⟩ := cells5 kp5
              have hend : SLoop z wq (w5.setCell ⟨w1.heap.size + 1, 4, none⟩ (.slice lo' (ys.length + 1) cap')) w1.heap.size (w1.heap.size + 1) qb bo body.length bc rt qo qc zs k id a b true qt true (ys ++ [y]) lo' cap' :=
                ⟨kept_set kr5 (by omega), kept_set kq5 (by omega), (by have := heap_setCell_same w5 (w1.heap.size + 1) 4 _ _ (.slice lo' (ys.length + 1) cap') kp5; simpa using this), (by simpa using bo5.set_below (g := w1.heap.size + 1) (j := 4) (u := .slice lo' (ys.length + 1) cap') (by omega)), on5.trans ((Only.set w5 (w1.heap.size + 1) 4 (.slice lo' (ys.length + 1) cap')).wider (fun j hj => by simp only [List.mem_singleton] at hj; simp [hj])), .inl ⟨rfl, HNP.out⟩⟩
              have HEND := hide hend
              have HC5 := hide (cells5 hend.pbox).1.2.2.2.2
              have HC0 := hide (cells5 HLP.out.pbox).1.2.2.2.2
              clear hend kr5 kq5 kp5 bo5 on5 O5 how hgr hlo HKR HKQ HKP HBO4 HON4 HYO4 hrow4 hsz4 m4 m5 m6 m7 m8 m9
              go_wp2
              go_roundw
              case rel => exact ⟨true, qt, true, ys ++ [y], lo', cap', HEND.out, fun h => by cases h⟩
              case measure =>
                rw [HC5.out, HC0.out]
                simp only [Option.getD_some, lenOf, List.length_append, List.length_cons, List.length_nil]
                omega
            · have hbl' := tlv_short hzb hT'
              have HT' := hide hT'
              clear hT'
              rcases hrest with ⟨hbn, hnone⟩ | ⟨x, hbx, q, hq, htq, hql2, hnext⟩
              · have HBN := hide hbn
                have HNP : Hid (getP z = none) := hide (by
                  by_cases hnx : nx = z.length
                  · subst hnx; exact getP_tail0 HT.out (by rw [HTL.out, getBs_ten hzb, hnone]; simp)
                  · exact getP_no HT.out (.inr hnx))
                clear hbn hnone hwq2
                go_wp2_with fail
                go_quiet (fail)
                go_wp2_with fail
                refine (spart_good qb qo zs.length qc zs qt 48 b' nx' HT'.out _ (HSR.out.below (below_drewN (Below.refl _ _) _))).mono ?_
                rintro e w2 ⟨bo2, bc2, rfl, r2, h2, g2, -⟩
                have g2' : wr.grownBy w2 (some qb) := ⟨g2.os, g2.tape, g2.output, g2.size, g2.block⟩
                clear g2
                go_wp2_with fail
                refine (sbind_no _ _ _ b' HBN.out _ r2 (by omega)).mono ?_
                rintro e w3 ⟨rfl, hb3⟩
                obtain ⟨y, hy⟩ : ∃ y : BI, y = BI.zero := ⟨_, rfl⟩
                have hy3 : BOwn w3 wq.heap.size y := by rw [hy]; exact zero_own _ _
                have HND : Hid y.blks.Nodup := hide (by rw [hy]; exact List.nodup_nil)
                have HAP : Hid (∀ z ∈ ys, ∀ b ∈ z.blks, b ∉ y.blks) := hide (by rw [hy]; intro _ _ _ _ hc; cases hc)
                rw [show (Value.agg #[.slice none 0 0, .int .i64 0, .int .i64 0, .string ⟨#[]⟩, .slice none 0 0]) = .agg #[.slice y.oa y.on y.oc, .int .i64 y.K, .int .i64 y.N, .string y.S, .slice y.za y.zn y.zc] by rw [hy]; rfl]
                clear hy
                have kr := kept_block (kept_grown HLP.out.rbox g2' (fun j hj => by cases hj; omega)) hb3
                have kq := kept_block h2.box hb3
                have kp := kept_block (kept_grown HLP.out.pbox g2' (fun j hj => by cases hj; omega)) hb3
                have bo3 := (HLP.out.bo.only (Only.of_grown (ao := some ⟨qb, 0, none⟩) (n := 0) (c := 0) g2') (fun j hj hc => by have h0 := HWQS.out; have := (HLP.out.bo.blk j hj).1; simp [blkL] at hc; omega)).below hb3
                have on3 : Only [w1.heap.size, w1.heap.size + 1, qb] wq w3 := (HLP.out.only.trans ((Only.of_grown (ao := some ⟨qb, 0, none⟩) (n := 0) (c := 0) g2').wider (fun j hj => by simp [blkL] at hj; simp [hj]))).trans (Only.of_below hb3)
                have yo := hy3
                have hxs : qb < w3.heap.size := by have h1 := (Array.getElem?_eq_some_iff.1 h2.box).1; have h2 := hb3.size; omega
                have hxr : w1.heap.size + 1 < w3.heap.size := by have h1 := (Array.getElem?_eq_some_iff.1 HLP.out.pbox).1; have h2 := g2'.size; have h3 := hb3.size; omega
                clear x0 x1 x2 xf0 xf1 xf2 v0 v1 v2 vf0 vf1 vf2 p0 p1 p2 p3 p4 f0 f1 f2 f3 f4 d0 d1 d2 d3 d4 e0 e1 e2 e3 e4 hb3 h2 g2' hy3
                obtain ⟨⟨x0, x1, x2⟩, xf0, xf1, xf2⟩ := cells3 kr
                obtain ⟨⟨v0, v1, v2⟩, vf0, vf1, vf2⟩ := cells3 kq
                obtain ⟨⟨p0, p1, p2, p3, p4⟩, f0, f1, f2, f3, f4⟩ := cells5 kp
                have m4 : ¬ w3.heap.size = w1.heap.size := by omega
                have m5 : ¬ w3.heap.size = w1.heap.size + 1 := by omega
                have m6 : ¬ qb = w1.heap.size := by have := HWQS.out; omega
                have m7 : ¬ w1.heap.size = qb := by have := HWQS.out; omega
                have m8 : ¬ w1.heap.size = w3.heap.size := by omega
                have m9 : ¬ w1.heap.size + 1 = w3.heap.size := by omega
                -- the reader's mark, and one bind more
                have q3 := below_one w3 (.cells #[.slice y.oa y.on y.oc, .int .i64 y.K, .int .i64 y.N, .string y.S, .slice y.za y.zn y.zc] 84)
                have kr4 := set_block3b (kept_block kr q3) (.bool true)
                have kq4 := kept_set (j := 2) (u := .bool true) (kept_block kq q3) (show qb ≠ w1.heap.size from m6)
                have kp4 := kept_set (b := w1.heap.size) (j := 2) (u := .bool true) (kept_block kp q3) (by omega)
                have hwq4 : w1.heap.size + 1 < wq.heap.size ∧ qb < wq.heap.size := by have := HWQS.out; omega
                have bo4 := (bo3.below q3).set_below (g := w1.heap.size) (j := 2) (u := .bool true) (by omega)
                have on4 := (on3.trans (Only.of_below q3)).trans ((Only.set (w3.alloc (.cells #[.slice y.oa y.on y.oc, .int .i64 y.K, .int .i64 y.N, .string y.S, .slice y.za y.zn y.zc] 84)) w1.heap.size 2 (.bool true)).wider (fun j hj => by simp only [List.mem_singleton] at hj; simp [hj]))
                have yo4 := (yo.below q3).only (Only.set (w3.alloc (.cells #[.slice y.oa y.on y.oc, .int .i64 y.K, .int .i64 y.N, .string y.S, .slice y.za y.zn y.zc] 84)) w1.heap.size 2 (.bool true)) (fun j hj hc => by have := (yo.blk j hj).1; simp only [List.mem_singleton] at hc; omega)
                have q4 := below_one ((w3.alloc (.cells #[.slice y.oa y.on y.oc, .int .i64 y.K, .int .i64 y.N, .string y.S, .slice y.za y.zn y.zc] 84)).setCell ⟨w1.heap.size, 2, none⟩ (.bool true)) (.cells #[.slice y.oa y.on y.oc, .int .i64 y.K, .int .i64 y.N, .string y.S, .slice y.za y.zn y.zc] 84)
                have HKR := hide (kept_block kr4 q4)
                have HKQ := hide (kept_block kq4 q4)
                have HKP := hide (kept_block kp4 q4)
                have HBO4 := hide (bo4.below q4)
                have HON4 := hide (on4.trans (Only.of_below q4))
                have HYO4 := hide (yo4.below q4)
                have hrow4 := (bo4.below q4).row
                have hsz4 : wq.heap.size ≤ (((w3.alloc (.cells #[.slice y.oa y.on y.oc, .int .i64 y.K, .int .i64 y.N, .string y.S, .slice y.za y.zn y.zc] 84)).setCell ⟨w1.heap.size, 2, none⟩ (.bool true)).alloc (.cells #[.slice y.oa y.on y.oc, .int .i64 y.K, .int .i64 y.N, .string y.S, .slice y.za y.zn y.zc] 84)).heap.size := by have := on4.size; simp at this; simp; omega
                have HBN4 : Hid (∀ (j : Nat) (u : Value), y.cs[j]? = some u → (((w3.alloc (.cells #[.slice y.oa y.on y.oc, .int .i64 y.K, .int .i64 y.N, .string y.S, .slice y.za y.zn y.zc] 84)).setCell ⟨w1.heap.size, 2, none⟩ (.bool true)).alloc (.cells #[.slice y.oa y.on y.oc, .int .i64 y.K, .int .i64 y.N, .string y.S, .slice y.za y.zn y.zc] 84)).cell? ((⟨w3.heap.size + 1, 0, none⟩ : Addr).add j) = some u) := hide (by have h := bind_news ((w3.alloc (.cells #[.slice y.oa y.on y.oc, .int .i64 y.K, .int .i64 y.N, .string y.S, .slice y.za y.zn y.zc] 84)).setCell ⟨w1.heap.size, 2, none⟩ (.bool true)) y; rw [show ((w3.alloc (.cells #[.slice y.oa y.on y.oc, .int .i64 y.K, .int .i64 y.N, .string y.S, .slice y.za y.zn y.zc] 84)).setCell ⟨w1.heap.size, 2, none⟩ (.bool true)).heap.size = w3.heap.size + 1 by simp] at h; exact h)
                obtain ⟨⟨xa0, xa1, xa2⟩, xg0, xg1, xg2⟩ := cells3 (kept_block kr q3)
                obtain ⟨⟨va0, va1, va2⟩, -⟩ := cells3 (kept_block kq q3)
                obtain ⟨⟨pa0, pa1, pa2, pa3, pa4⟩, -⟩ := cells5 (kept_block kp q3)
                clear kr kq kp bo3 on3 yo kr4 kq4 kp4 bo4 on4 yo4 q4 q3
                go_wp2_with (at_builtin; refine wpList_append_own _ rfl _ _ 24 rfl wq.heap.size 84 i0 (.agg #[.slice none 0 0, .int .i64 0, .int .i64 0, .string ⟨#[]⟩, .slice none 0 0]) 5 80 Tryz.underlying24 hi hz0 hz1 hz2 rfl (by decide) _ ys.length (cBs ys) rfl hrow4 ⟨w3.heap.size + 1, 0, none⟩ 1 1 y.cs rfl rfl HBN4.out (cs_oneCell y) ?c1 ?c2 ?c3 ?_)
                case c1 => unfold maxLen; omega
                case c2 => omega
                case c3 => exact hsz4
                intro v' w5 how hgr _
                obtain ⟨lo', cap', rfl⟩ := own_slice how
                have bo5 := HBO4.out.push HYO4.out HND.out HAP.out hgr how
                have hlo : ∀ j, j < wq.heap.size → j ∉ blkL lo := fun j hj hc => by have := (HBO4.out.row.lt j (mem_blkL.2 hc)).1; omega
                have O5 := Only.of_grown hgr
                have kr5 := O5.kept HKR.out (hlo _ (by omega))
                have kq5 := O5.kept HKQ.out (hlo _ (by omega))
                have kp5 := O5.kept HKP.out (hlo _ (by omega))
                have on5 := HON4.out.grown_new hgr (fun j hj => (HBO4.out.row.lt j hj).1)
                clear x0 x1 x2 xf0 xf1 xf2 v0 v1 v2 vf0 vf1 vf2 p0 p1 p2 p3 p4 f0 f1 f2 f3 f4 xa0 xa1 xa2 xg0 xg1 xg2 va0 va1 va2 pa0 pa1 pa2 pa3 pa4
                obtain ⟨⟨p0, p1, p2, p3, p4⟩, f0, f1, f2, f3, f4⟩ := cells5 kp5
                have hend : SLoop z wq (w5.setCell ⟨w1.heap.size + 1, 4, none⟩ (.slice lo' (ys.length + 1) cap')) w1.heap.size (w1.heap.size + 1) qb bo body.length bc rt qo qc zs k id a b true nx' false (ys ++ [y]) lo' cap' :=
                  ⟨kept_set kr5 (by omega), kept_set kq5 (by omega), (by have := heap_setCell_same w5 (w1.heap.size + 1) 4 _ _ (.slice lo' (ys.length + 1) cap') kp5; simpa using this), (by simpa using bo5.set_below (g := w1.heap.size + 1) (j := 4) (u := .slice lo' (ys.length + 1) cap') (by omega)), on5.trans ((Only.set w5 (w1.heap.size + 1) 4 (.slice lo' (ys.length + 1) cap')).wider (fun j hj => by simp only [List.mem_singleton] at hj; simp [hj])), .inl ⟨rfl, HNP.out⟩⟩
                have HEND := hide hend
                have HC5 := hide (cells5 hend.pbox).1.2.2.2.2
                have HC0 := hide (cells5 HLP.out.pbox).1.2.2.2.2
                clear hend kr5 kq5 kp5 bo5 on5 O5 how hgr hlo HKR HKQ HKP HBO4 HON4 HYO4 hrow4 hsz4 m4 m5 m6 m7 m8 m9
                go_wp2
                go_roundw
                case rel => exact ⟨true, nx', false, ys ++ [y], lo', cap', HEND.out, fun h => by cases h⟩
                case measure =>
                  rw [HC5.out, HC0.out]
                  simp only [Option.getD_some, lenOf, List.length_append, List.length_cons, List.length_nil]
                  omega
              · have HBX := hide hbx
                have HNEXT := hide hnext
                clear hbx hnext hwq2
                go_wp2_with fail
                go_quiet (fail)
                go_wp2_with fail
                refine (spart_good qb qo zs.length qc zs qt 48 b' nx' HT'.out _ (HSR.out.below (below_drewN (Below.refl _ _) _))).mono ?_
                rintro e w2 ⟨bo2, bc2, rfl, r2, h2, g2, -⟩
                have g2' : wr.grownBy w2 (some qb) := ⟨g2.os, g2.tape, g2.output, g2.size, g2.block⟩
                clear g2
                go_wp2_with fail
                refine (sbind_yes _ _ _ b' x HBX.out _ r2 (by omega)).mono ?_
                rintro e w3 ⟨y, rfl, hyd, hnew, hb3⟩
                have HYD := hide hyd
                have hon2 := HLP.out.only.size
                have hg2s := g2'.size
                have hy3 : BOwn w3 wq.heap.size y := hnew.own.lt (by omega)
                have HND := hide hnew.nd
                have HAP : Hid (∀ z ∈ ys, ∀ b ∈ z.blks, b ∉ y.blks) := hide (fun z hz b hb hc => by have h1 := ((HLP.out.bo.item z hz).blk b hb).2; have h2 := (hnew.own.blk b hc).1; omega)
                clear hyd hnew hon2 hg2s
                have kr := kept_block (kept_grown HLP.out.rbox g2' (fun j hj => by cases hj; omega)) hb3
                have kq := kept_block h2.box hb3
                have kp := kept_block (kept_grown HLP.out.pbox g2' (fun j hj => by cases hj; omega)) hb3
                have bo3 := (HLP.out.bo.only (Only.of_grown (ao := some ⟨qb, 0, none⟩) (n := 0) (c := 0) g2') (fun j hj hc => by have h0 := HWQS.out; have := (HLP.out.bo.blk j hj).1; simp [blkL] at hc; omega)).below hb3
                have on3 : Only [w1.heap.size, w1.heap.size + 1, qb] wq w3 := (HLP.out.only.trans ((Only.of_grown (ao := some ⟨qb, 0, none⟩) (n := 0) (c := 0) g2').wider (fun j hj => by simp [blkL] at hj; simp [hj]))).trans (Only.of_below hb3)
                have yo := hy3
                have hxs : qb < w3.heap.size := by have h1 := (Array.getElem?_eq_some_iff.1 h2.box).1; have h2 := hb3.size; omega
                have hxr : w1.heap.size + 1 < w3.heap.size := by have h1 := (Array.getElem?_eq_some_iff.1 HLP.out.pbox).1; have h2 := g2'.size; have h3 := hb3.size; omega
                clear x0 x1 x2 xf0 xf1 xf2 v0 v1 v2 vf0 vf1 vf2 p0 p1 p2 p3 p4 f0 f1 f2 f3 f4 d0 d1 d2 d3 d4 e0 e1 e2 e3 e4 hb3 h2 g2' hy3
                obtain ⟨⟨x0, x1, x2⟩, xf0, xf1, xf2⟩ := cells3 kr
                obtain ⟨⟨v0, v1, v2⟩, vf0, vf1, vf2⟩ := cells3 kq
                obtain ⟨⟨p0, p1, p2, p3, p4⟩, f0, f1, f2, f3, f4⟩ := cells5 kp
                have m4 : ¬ w3.heap.size = w1.heap.size := by omega
                have m5 : ¬ w3.heap.size = w1.heap.size + 1 := by omega
                have m6 : ¬ qb = w1.heap.size := by have := HWQS.out; omega
                have m7 : ¬ w1.heap.size = qb := by have := HWQS.out; omega
                have m8 : ¬ w1.heap.size = w3.heap.size := by omega
                have m9 : ¬ w1.heap.size + 1 = w3.heap.size := by omega
                -- the reader's mark, and one bind more
                have q3 := below_one w3 (.cells #[.slice y.oa y.on y.oc, .int .i64 y.K, .int .i64 y.N, .string y.S, .slice y.za y.zn y.zc] 84)
                have kr4 := set_block3b (kept_block kr q3) (.bool false)
                have kq4 := kept_set (j := 2) (u := .bool false) (kept_block kq q3) (show qb ≠ w1.heap.size from m6)
                have kp4 := kept_set (b := w1.heap.size) (j := 2) (u := .bool false) (kept_block kp q3) (by omega)
                have hwq4 : w1.heap.size + 1 < wq.heap.size ∧ qb < wq.heap.size := by have := HWQS.out; omega
                have bo4 := (bo3.below q3).set_below (g := w1.heap.size) (j := 2) (u := .bool false) (by omega)
                have on4 := (on3.trans (Only.of_below q3)).trans ((Only.set (w3.alloc (.cells #[.slice y.oa y.on y.oc, .int .i64 y.K, .int .i64 y.N, .string y.S, .slice y.za y.zn y.zc] 84)) w1.heap.size 2 (.bool false)).wider (fun j hj => by simp only [List.mem_singleton] at hj; simp [hj]))
                have yo4 := (yo.below q3).only (Only.set (w3.alloc (.cells #[.slice y.oa y.on y.oc, .int .i64 y.K, .int .i64 y.N, .string y.S, .slice y.za y.zn y.zc] 84)) w1.heap.size 2 (.bool false)) (fun j hj hc => by have := (yo.blk j hj).1; simp only [List.mem_singleton] at hc; omega)
                have q4 := below_one ((w3.alloc (.cells #[.slice y.oa y.on y.oc, .int .i64 y.K, .int .i64 y.N, .string y.S, .slice y.za y.zn y.zc] 84)).setCell ⟨w1.heap.size, 2, none⟩ (.bool false)) (.cells #[.slice y.oa y.on y.oc, .int .i64 y.K, .int .i64 y.N, .string y.S, .slice y.za y.zn y.zc] 84)
                have HKR := hide (kept_block kr4 q4)
                have HKQ := hide (kept_block kq4 q4)
                have HKP := hide (kept_block kp4 q4)
                have HBO4 := hide (bo4.below q4)
                have HON4 := hide (on4.trans (Only.of_below q4))
                have HYO4 := hide (yo4.below q4)
                have hrow4 := (bo4.below q4).row
                have hsz4 : wq.heap.size ≤ (((w3.alloc (.cells #[.slice y.oa y.on y.oc, .int .i64 y.K, .int .i64 y.N, .string y.S, .slice y.za y.zn y.zc] 84)).setCell ⟨w1.heap.size, 2, none⟩ (.bool false)).alloc (.cells #[.slice y.oa y.on y.oc, .int .i64 y.K, .int .i64 y.N, .string y.S, .slice y.za y.zn y.zc] 84)).heap.size := by have := on4.size; simp at this; simp; omega
                have HBN4 : Hid (∀ (j : Nat) (u : Value), y.cs[j]? = some u → (((w3.alloc (.cells #[.slice y.oa y.on y.oc, .int .i64 y.K, .int .i64 y.N, .string y.S, .slice y.za y.zn y.zc] 84)).setCell ⟨w1.heap.size, 2, none⟩ (.bool false)).alloc (.cells #[.slice y.oa y.on y.oc, .int .i64 y.K, .int .i64 y.N, .string y.S, .slice y.za y.zn y.zc] 84)).cell? ((⟨w3.heap.size + 1, 0, none⟩ : Addr).add j) = some u) := hide (by have h := bind_news ((w3.alloc (.cells #[.slice y.oa y.on y.oc, .int .i64 y.K, .int .i64 y.N, .string y.S, .slice y.za y.zn y.zc] 84)).setCell ⟨w1.heap.size, 2, none⟩ (.bool false)) y; rw [show ((w3.alloc (.cells #[.slice y.oa y.on y.oc, .int .i64 y.K, .int .i64 y.N, .string y.S, .slice y.za y.zn y.zc] 84)).setCell ⟨w1.heap.size, 2, none⟩ (.bool false)).heap.size = w3.heap.size + 1 by simp] at h; exact h)
                obtain ⟨⟨xa0, xa1, xa2⟩, xg0, xg1, xg2⟩ := cells3 (kept_block kr q3)
                obtain ⟨⟨va0, va1, va2⟩, -⟩ := cells3 (kept_block kq q3)
                obtain ⟨⟨pa0, pa1, pa2, pa3, pa4⟩, -⟩ := cells5 (kept_block kp q3)
                clear kr kq kp bo3 on3 yo kr4 kq4 kp4 bo4 on4 yo4 q4 q3
                go_wp2_with (at_builtin; refine wpList_append_own _ rfl _ _ 24 rfl wq.heap.size 84 i0 (.agg #[.slice none 0 0, .int .i64 0, .int .i64 0, .string ⟨#[]⟩, .slice none 0 0]) 5 80 Tryz.underlying24 hi hz0 hz1 hz2 rfl (by decide) _ ys.length (cBs ys) rfl hrow4 ⟨w3.heap.size + 1, 0, none⟩ 1 1 y.cs rfl rfl HBN4.out (cs_oneCell y) ?c1 ?c2 ?c3 ?_)
                case c1 => unfold maxLen; omega
                case c2 => omega
                case c3 => exact hsz4
                intro v' w5 how hgr _
                obtain ⟨lo', cap', rfl⟩ := own_slice how
                have bo5 := HBO4.out.push HYO4.out HND.out HAP.out hgr how
                have hlo : ∀ j, j < wq.heap.size → j ∉ blkL lo := fun j hj hc => by have := (HBO4.out.row.lt j (mem_blkL.2 hc)).1; omega
                have O5 := Only.of_grown hgr
                have kr5 := O5.kept HKR.out (hlo _ (by omega))
                have kq5 := O5.kept HKQ.out (hlo _ (by omega))
                have kp5 := O5.kept HKP.out (hlo _ (by omega))
                have on5 := HON4.out.grown_new hgr (fun j hj => (HBO4.out.row.lt j hj).1)
                clear x0 x1 x2 xf0 xf1 xf2 v0 v1 v2 vf0 vf1 vf2 p0 p1 p2 p3 p4 f0 f1 f2 f3 f4 xa0 xa1 xa2 xg0 xg1 xg2 va0 va1 va2 pa0 pa1 pa2 pa3 pa4
                obtain ⟨⟨p0, p1, p2, p3, p4⟩, f0, f1, f2, f3, f4⟩ := cells5 kp5
                have hend : SLoop z wq (w5.setCell ⟨w1.heap.size + 1, 4, none⟩ (.slice lo' (ys.length + 1) cap')) w1.heap.size (w1.heap.size + 1) qb bo body.length bc rt qo qc zs k id a b false nx' false (ys ++ [y]) lo' cap' :=
                  ⟨kept_set kr5 (by omega), kept_set kq5 (by omega), (by have := heap_setCell_same w5 (w1.heap.size + 1) 4 _ _ (.slice lo' (ys.length + 1) cap') kp5; simpa using this), (by simpa using bo5.set_below (g := w1.heap.size + 1) (j := 4) (u := .slice lo' (ys.length + 1) cap') (by omega)), on5.trans ((Only.set w5 (w1.heap.size + 1) 4 (.slice lo' (ys.length + 1) cap')).wider (fun j hj => by simp only [List.mem_singleton] at hj; simp [hj])), .inr ⟨rfl, rfl, HNEXT.out y HYD.out⟩⟩
                have HEND := hide hend
                have HC5 := hide (cells5 hend.pbox).1.2.2.2.2
                have HC0 := hide (cells5 HLP.out.pbox).1.2.2.2.2
                clear hend kr5 kq5 kp5 bo5 on5 O5 how hgr hlo HKR HKQ HKP HBO4 HON4 HYO4 hrow4 hsz4 m4 m5 m6 m7 m8 m9
                go_wp2
                go_roundw
                case rel => exact ⟨false, nx', false, ys ++ [y], lo', cap', HEND.out, by simp⟩
                case measure =>
                  rw [HC5.out, HC0.out]
                  simp only [Option.getD_some, lenOf, List.length_append, List.length_cons, List.length_nil]
                  omega
          · have HBS : Hid (getBs 10 zs 0 = none) := hide (HRD.out.long hzb (by omega))
            go_wp2_with fail
            go_quiet (fail)
            by_cases hnx : nx = n
            · subst hnx
              by_cases hrt : rt = body.length
              · have hqn : (qt != (zs.length : Int)) = true := by simp; omega
                have hrt' : (rt != (body.length : Int)) = false := by simpa using hrt
                have HN : Hid (r = none) := hide (HR0.out.symm.trans (getP_tail0 (by rw [hzl]; exact HT.out) (by rw [HTL.out, HBS.out]; simp)))
                go_wp2_with fail
                go_quiet (fail)
                go_wp2
                refine bodyPost_ret (v := .tuple #[.agg #[.int .i64 0, .int .i64 0, .int .i64 0, .int .i64 0, .slice none 0 0], .bool false]) (by simp [results, Tryz.results43, go_sem, *]) rfl ⟨by rw [HN.out]; exact ⟨0, 0, 0, 0, [], none, 0, rfl, bowns_nil _ _, rfl⟩, ?_⟩
                repeat (refine below_set ?_ (Nat.le_refl _) _ _)
                exact below_drewN HBW.out _
              · have hrt' : (rt != (body.length : Int)) = true := by simpa using hrt
                have HN : Hid (r = none) := hide (HR0.out.symm.trans (getP_tail0 (by rw [hzl]; exact HT.out) (by rw [HTL.out, if_neg hrt])))
                go_wp2_with fail
                go_quiet (fail)
                go_wp2
                refine bodyPost_ret (v := .tuple #[.agg #[.int .i64 0, .int .i64 0, .int .i64 0, .int .i64 0, .slice none 0 0], .bool false]) (by simp [results, Tryz.results43, go_sem, *]) rfl ⟨by rw [HN.out]; exact ⟨0, 0, 0, 0, [], none, 0, rfl, bowns_nil _ _, rfl⟩, ?_⟩
                repeat (refine below_set ?_ (Nat.le_refl _) _ _)
                exact below_drewN HBW.out _
            · have hnn : (nx != (n : Int)) = true := by simpa using hnx
              have HN : Hid (r = none) := hide (HR0.out.symm.trans (getP_no HT.out (.inr (by omega))))
              go_wp2_with fail
              go_quiet (fail)
              go_wp2
              refine bodyPost_ret (v := .tuple #[.agg #[.int .i64 0, .int .i64 0, .int .i64 0, .int .i64 0, .slice none 0 0], .bool false]) (by simp [results, Tryz.results43, go_sem, *]) rfl ⟨by rw [HN.out]; exact ⟨0, 0, 0, 0, [], none, 0, rfl, bowns_nil _ _, rfl⟩, ?_⟩
              repeat (refine below_set ?_ (Nat.le_refl _) _ _)
              exact below_drewN HBW.out _
        · have hqe : qt = zs.length := by omega
          subst hqe
          have HBS := hide HRD.out.done
          go_wp2_with fail
          go_quiet (fail)
          by_cases hnx : nx = n
          · subst hnx
            by_cases hrt : rt = body.length
            · have hrt' : (rt != (body.length : Int)) = false := by simpa using hrt
              have CELLS : Hid (∀ W, Below wr.heap.size wr W → (W.cell? ⟨w1.heap.size, 0, none⟩ = some (.slice bo body.length bc) ∧ W.cell? ⟨w1.heap.size, 1, none⟩ = some (.int .i64 rt) ∧ W.cell? ⟨w1.heap.size, 2, none⟩ = some (.bool false)) ∧ (W.cell? ⟨qb, 0, none⟩ = some (.slice qo zs.length qc) ∧ W.cell? ⟨qb, 1, none⟩ = some (.int .i64 (zs.length : Int)) ∧ W.cell? ⟨qb, 2, none⟩ = some (.bool false)) ∧ (W.cell? ⟨w1.heap.size + 1, 0, none⟩ = some (.int .i64 k) ∧ W.cell? ⟨w1.heap.size + 1, 1, none⟩ = some (.int .i64 id) ∧ W.cell? ⟨w1.heap.size + 1, 2, none⟩ = some (.int .i64 a) ∧ W.cell? ⟨w1.heap.size + 1, 3, none⟩ = some (.int .i64 b) ∧ W.cell? ⟨w1.heap.size + 1, 4, none⟩ = some (.slice lo ys.length cap))) := fun W h => ⟨(cells3 (kept_block HLP.out.rbox h)).1, (cells3 (kept_block HLP.out.qbox h)).1, (cells5 (kept_block HLP.out.pbox h)).1⟩
              have BRW := hide HLP.out.bo.brow
              cases hok : okP k id a b (ys.map BI.d)
              · have HOK := hide hok
                have HN : Hid (r = none) := hide (HR0.out.symm.trans (by
                  by_cases hl : (ys.map BI.d).length ≤ 10
                  · rw [getP_tail1 (by rw [hzl]; exact HT.out) (by rw [HTL.out, if_pos hrt, getBs_ten hzb, HBS.out]; simp only [if_pos hl]; rfl), if_neg (by rw [hok]; decide)]
                  · exact getP_tail0 (by rw [hzl]; exact HT.out) (by rw [HTL.out, if_pos hrt, getBs_ten hzb, HBS.out]; simp only [if_neg hl]; rfl)))
                clear hok
                go_wp2_with fail
                go_region_held3 (fun W => (W.cell? ⟨w1.heap.size, 0, none⟩ = some (.slice bo body.length bc) ∧ W.cell? ⟨w1.heap.size, 1, none⟩ = some (.int .i64 rt) ∧ W.cell? ⟨w1.heap.size, 2, none⟩ = some (.bool false)) ∧ (W.cell? ⟨qb, 0, none⟩ = some (.slice qo zs.length qc) ∧ W.cell? ⟨qb, 1, none⟩ = some (.int .i64 (zs.length : Int)) ∧ W.cell? ⟨qb, 2, none⟩ = some (.bool false)) ∧ (W.cell? ⟨w1.heap.size + 1, 0, none⟩ = some (.int .i64 k) ∧ W.cell? ⟨w1.heap.size + 1, 1, none⟩ = some (.int .i64 id) ∧ W.cell? ⟨w1.heap.size + 1, 2, none⟩ = some (.int .i64 a) ∧ W.cell? ⟨w1.heap.size + 1, 3, none⟩ = some (.int .i64 b) ∧ W.cell? ⟨w1.heap.size + 1, 4, none⟩ = some (.slice lo ys.length cap))) (first | assumption | go_keep) (first
                  | (go_at_call 57; refine (specPduOk_any k id a b lo _ cap ys _ (BRW.out.below (below_drewN (Below.refl _ _) _))).mono ?_; rintro e w9 ⟨rfl, hb9⟩; rw [HOK.out]; have u9 : Below wr.heap.size wr w9 := undrew hb9; have hS9 := CELLS.out w9 u9))
                clear x0 x1 x2 xf0 xf1 xf2 v0 v1 v2 vf0 vf1 vf2 p0 p1 p2 p3 p4 f0 f1 f2 f3 f4 d0 d1 d2 d3 d4 e0 e1 e2 e3 e4 hS9
                obtain ⟨⟨d0, d1, d2, d3, d4⟩, e0, e1, e2, e3, e4⟩ := cells5 (kept_block HKZR.out u9)
                have HB9 := hide (HBW.out.trans (u9.mono HBW.out.size))
                clear u9 hb9
                go_wp2
                refine bodyPost_ret (v := .tuple #[.agg #[.int .i64 0, .int .i64 0, .int .i64 0, .int .i64 0, .slice none 0 0], .bool false]) (by simp [results, Tryz.results43, go_sem, *]) rfl ⟨by rw [HN.out]; exact ⟨0, 0, 0, 0, [], none, 0, rfl, bowns_nil _ _, rfl⟩, ?_⟩
                repeat (refine below_set ?_ (Nat.le_refl _) _ _)
                exact HB9.out
              · have HOK := hide hok
                have hl : (ys.map BI.d).length ≤ 10 := (okP_parts hok).2.2.2.2.2.2
                have HN : Hid (r = some ⟨k, id, a, b, ys.map BI.d⟩) := hide (HR0.out.symm.trans (by
                  rw [getP_tail1 (by rw [hzl]; exact HT.out) (by rw [HTL.out, if_pos hrt, getBs_ten hzb, HBS.out]; simp only [if_pos hl]; rfl), if_pos hok]))
                clear hok hl
                go_wp2_with fail
                go_region_held3 (fun W => (W.cell? ⟨w1.heap.size, 0, none⟩ = some (.slice bo body.length bc) ∧ W.cell? ⟨w1.heap.size, 1, none⟩ = some (.int .i64 rt) ∧ W.cell? ⟨w1.heap.size, 2, none⟩ = some (.bool false)) ∧ (W.cell? ⟨qb, 0, none⟩ = some (.slice qo zs.length qc) ∧ W.cell? ⟨qb, 1, none⟩ = some (.int .i64 (zs.length : Int)) ∧ W.cell? ⟨qb, 2, none⟩ = some (.bool false)) ∧ (W.cell? ⟨w1.heap.size + 1, 0, none⟩ = some (.int .i64 k) ∧ W.cell? ⟨w1.heap.size + 1, 1, none⟩ = some (.int .i64 id) ∧ W.cell? ⟨w1.heap.size + 1, 2, none⟩ = some (.int .i64 a) ∧ W.cell? ⟨w1.heap.size + 1, 3, none⟩ = some (.int .i64 b) ∧ W.cell? ⟨w1.heap.size + 1, 4, none⟩ = some (.slice lo ys.length cap))) (first | assumption | go_keep) (first
                  | (go_at_call 57; refine (specPduOk_any k id a b lo _ cap ys _ (BRW.out.below (below_drewN (Below.refl _ _) _))).mono ?_; rintro e w9 ⟨rfl, hb9⟩; rw [HOK.out]; have u9 : Below wr.heap.size wr w9 := undrew hb9; have hS9 := CELLS.out w9 u9))
                clear x0 x1 x2 xf0 xf1 xf2 v0 v1 v2 vf0 vf1 vf2 p0 p1 p2 p3 p4 f0 f1 f2 f3 f4 d0 d1 d2 d3 d4 e0 e1 e2 e3 e4 hS9
                obtain ⟨⟨d0, d1, d2, d3, d4⟩, e0, e1, e2, e3, e4⟩ := cells5 (kept_block HKZR.out u9)
                obtain ⟨⟨p0, p1, p2, p3, p4⟩, f0, f1, f2, f3, f4⟩ := cells5 (kept_block HLP.out.pbox u9)
                have HB9 := hide (HBW.out.trans (u9.mono HBW.out.size))
                have HBO9 := hide (HLP.out.bo.below u9)
                have hwq9 := HWQS.out
                have m9 : w.heap.size < wq.heap.size := by omega
                clear u9 hb9 hwq9
                go_wp2
                refine bodyPost_ret (v := .tuple #[.agg #[.int .i64 k, .int .i64 id, .int .i64 a, .int .i64 b, .slice lo ys.length cap], .bool true]) (by simp [results, Tryz.results43, go_sem, *]) rfl ⟨by rw [HN.out]; refine ⟨k, id, a, b, ys, lo, cap, rfl, BOwns.lt (base := wq.heap.size) ?_ (by omega), rfl⟩; (repeat (refine BOwns.set_below ?_ m9)); exact HBO9.out, ?_⟩
                repeat (refine below_set ?_ (Nat.le_refl _) _ _)
                exact HB9.out
            · have hrt' : (rt != (body.length : Int)) = true := by simpa using hrt
              have HN : Hid (r = none) := hide (HR0.out.symm.trans (getP_tail0 (by rw [hzl]; exact HT.out) (by rw [HTL.out, if_neg hrt])))
              go_wp2_with fail
              go_quiet (fail)
              go_wp2
              refine bodyPost_ret (v := .tuple #[.agg #[.int .i64 0, .int .i64 0, .int .i64 0, .int .i64 0, .slice none 0 0], .bool false]) (by simp [results, Tryz.results43, go_sem, *]) rfl ⟨by rw [HN.out]; exact ⟨0, 0, 0, 0, [], none, 0, rfl, bowns_nil _ _, rfl⟩, ?_⟩
              repeat (refine below_set ?_ (Nat.le_refl _) _ _)
              exact below_drewN HBW.out _
          · have hnn : (nx != (n : Int)) = true := by simpa using hnx
            have HN : Hid (r = none) := hide (HR0.out.symm.trans (getP_no HT.out (.inr (by omega))))
            go_wp2_with fail
            go_quiet (fail)
            go_wp2
            refine bodyPost_ret (v := .tuple #[.agg #[.int .i64 0, .int .i64 0, .int .i64 0, .int .i64 0, .slice none 0 0], .bool false]) (by simp [results, Tryz.results43, go_sem, *]) rfl ⟨by rw [HN.out]; exact ⟨0, 0, 0, 0, [], none, 0, rfl, bowns_nil _ _, rfl⟩, ?_⟩
            repeat (refine below_set ?_ (Nat.le_refl _) _ _)
            exact below_drewN HBW.out _

end Go.Proofs.YtjkmagpppfnlpaaGreatDoor
