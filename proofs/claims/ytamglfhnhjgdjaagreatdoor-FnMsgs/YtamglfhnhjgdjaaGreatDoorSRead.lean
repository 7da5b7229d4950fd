/-
  The specification's reader of parts, by contracts: a part, a number.
-/
import Derived.Test.YtamglfhnhjgdjaaGreatDoorQD
import Derived.Test.YtamglfhnhjgdjaaGreatDoorQA
import Derived.Deep.RegionHeld3
namespace Go.Proofs.YtamglfhnhjgdjaaGreatDoor
open Go.RowKit

/-- The specification's reader: its bytes, where it stands, whether it is broken. -/
structure SRd (w : World) (rb : Nat) (ao : Option Addr) (n c : Nat) (zs : List Int) (t : Int) (bad : Bool) : Prop where
  box : w.heap[rb]? = some (.cells #[.slice ao n c, .int .i64 t, .bool bad] 64)
  row : Row w ao n c zs
  small : n ≤ 1048576

theorem SRd.below {w w' : World} {rb : Nat} {ao : Option Addr} {n c : Nat} {zs : List Int} {t : Int} {bad : Bool} (h : SRd w rb ao n c zs t bad) (hb : Below w.heap.size w w') : SRd w' rb ao n c zs t bad :=
  ⟨kept_block h.box hb, h.row.below hb, h.small⟩

theorem SRd.next {w w' : World} {rb : Nat} {ao : Option Addr} {n c : Nat} {zs : List Int} {t t' : Int} {bad bad' : Bool} (h : SRd w rb ao n c zs t bad) (hg : w.grownBy w' (some rb)) (hb : w'.heap[rb]? = some (.cells #[.slice ao n c, .int .i64 t', .bool bad'] 64)) : SRd w' rb ao n c zs t' bad' := by
  refine ⟨hb, ⟨h.row.size, h.row.le, h.row.top, h.row.nil, h.row.byte, ?_⟩, h.small⟩
  rcases h.row.cell with h0 | ⟨b, off, ha, hc⟩
  · exact .inl h0
  · refine .inr ⟨b, off, ha, fun i hi => hg.cell (hc i hi) ?_⟩
    intro e
    simp only [Option.some.injEq] at e
    have hi' := hc i hi
    subst e
    rw [show w.cell? ⟨b, off + i, none⟩ = #[Value.slice ao n c, .int .i64 t, .bool bad][off + i]? by simp [World.cell?, h.box]] at hi'
    match hk : off + i with
    | 0 => rw [hk] at hi'; simp at hi'
    | 1 => rw [hk] at hi'; simp at hi'
    | 2 => rw [hk] at hi'; simp at hi'
    | k + 3 => rw [hk] at hi'; simp at hi'

set_option maxRecDepth 100000 in
set_option maxHeartbeats 1000000 in
theorem spart_good (rb : Nat) (ao : Option Addr) (n c : Nat) (zs : List Int) (t tag : Int) (body : List Int) (nx : Int) (hp : getTlv zs t = (tag, body, nx, true)) (w : World) (h : SRd w rb ao n c zs t false) :
    Calls Tryz.prog 35 #[.pointer (some ⟨rb, 0, none⟩), .int .i64 tag] w fun e w' => ∃ bo bc, e = .returned (.slice bo body.length bc) ∧ Row w' bo body.length bc body ∧ SRd w' rb ao n c zs nx false ∧ w.grownBy w' (some rb) ∧ w'.ownsRow w.heap.size 5 1 (.slice bo body.length bc) body.length (cB body) := by
  obtain ⟨⟨c0, c1, c2⟩, f0, f1, f2⟩ := cells3 h.box
  have hlt : rb < w.heap.size := (Array.getElem?_eq_some_iff.1 h.box).1
  have HG := hide hp
  have hr := h.row
  have hs := h.small
  have HH := hide h
  clear hp h
  go_enter Tryz.func35, Tryz.ntmps35
  go_wp2_with fail
  go_region_held3 (fun W => W.cell? ⟨rb, 0, none⟩ = some (.slice ao n c) ∧ W.cell? ⟨rb, 1, none⟩ = some (.int .i64 t) ∧ W.cell? ⟨rb, 2, none⟩ = some (.bool false)) (first | assumption | go_keep) (first
    | (go_at_call 33; refine (specGet_made _ _ _ zs t tag nx true body HG.out _ (hr.below (below_drewN (Below.refl _ _) _)) (by omega)).mono ?_; rintro e w1 ⟨ao1, cp1, rfl, ho1, r1, hb1⟩; have u1 : Below w.heap.size w w1 := undrew hb1; have k1 := kept_block HH.out.box u1; have hS1 := (cells3 k1).1))
  clear c0 c1 c2 f0 f1 f2 hS1
  obtain ⟨⟨c0, c1, c2⟩, f0, f1, f2⟩ := cells3 k1
  have hg0 := grownTr (grownOf u1) (grown_set (w := w1) (rb := rb) 1 (.int .i64 nx))
  have HG2 := hide hg0
  have HN := hide (HH.out.next hg0 (set_block3a k1 (.int .i64 nx)))
  have ho1 := own_lt ho1 (base' := w.heap.size) (by simp)
  have HR := hide (row_own (own_set ho1 (g := rb) (j := 1) (u := .int .i64 nx) hlt) r1.byte)
  have HO := hide (own_set ho1 (g := rb) (j := 1) (u := .int .i64 nx) hlt)
  clear hb1 u1 k1 hr hg0 ho1 r1
  go_wp2
  go_ret
  exact ⟨_, _, rfl, HR.out, HN.out, HG2.out, HO.out⟩

set_option maxRecDepth 100000 in
set_option maxHeartbeats 1000000 in
theorem spart_bad (rb : Nat) (ao : Option Addr) (n c : Nat) (zs : List Int) (t tag : Int) (bad : Bool) (hp : bad = true ∨ partM zs t tag = none) (w : World) (h : SRd w rb ao n c zs t bad) :
    Calls Tryz.prog 35 #[.pointer (some ⟨rb, 0, none⟩), .int .i64 tag] w fun e w' => ∃ bo bc, e = .returned (.slice bo 0 bc) ∧ Row w' bo 0 bc [] ∧ SRd w' rb ao n c zs t true ∧ w.grownBy w' (some rb) := by
  obtain ⟨⟨c0, c1, c2⟩, f0, f1, f2⟩ := cells3 h.box
  have hr := h.row
  have hs := h.small
  have HH := hide h
  rcases hG : getTlv zs t with ⟨kk, body, nx, ok⟩
  have hno : bad = true ∨ (bad = false ∧ ok = false) ∨ (bad = false ∧ ok = true ∧ (kk != tag) = true) := by
    cases bad
    · refine .inr ?_
      rcases hp with hp | hp
      · cases hp
      · unfold partM at hp
        rw [hG] at hp
        cases ok
        · exact .inl ⟨rfl, rfl⟩
        · refine .inr ⟨rfl, rfl, ?_⟩
          by_cases e : kk = tag
          · simp [e] at hp
          · simp [e]
    · exact .inl rfl
  have HG := hide hG
  clear hp h hG
  rcases hno with rfl | ⟨rfl, rfl⟩ | ⟨rfl, rfl, hkt⟩
  · go_enter Tryz.func35, Tryz.ntmps35
    go_wp2_with fail
    go_region_held3 (fun W => W.cell? ⟨rb, 0, none⟩ = some (.slice ao n c) ∧ W.cell? ⟨rb, 1, none⟩ = some (.int .i64 t) ∧ W.cell? ⟨rb, 2, none⟩ = some (.bool true)) (first | assumption | go_keep) (first
      | (go_at_call 33; refine (specGet_made _ _ _ zs t kk nx ok body HG.out _ (hr.below (below_drewN (Below.refl _ _) _)) (by omega)).mono ?_; rintro e w1 ⟨ao1, cp1, rfl, ho1, r1, hb1⟩; have u1 : Below w.heap.size w w1 := undrew hb1; have k1 := kept_block HH.out.box u1; have hS1 := (cells3 k1).1))
    clear c0 c1 c2 f0 f1 f2 hS1
    obtain ⟨⟨c0, c1, c2⟩, f0, f1, f2⟩ := cells3 k1
    have q1 := below_one (w1.setCell ⟨rb, 2, none⟩ (.bool true)) (.cells #[] 5)
    have hg0 := grownTr (grownOf u1) (grown_set (w := w1) (rb := rb) 2 (.bool true))
    have HG2 := hide (grownTr hg0 (grownOf q1))
    have HN := hide ((HH.out.next hg0 (set_block3b k1 (.bool true))).below q1)
    clear hb1 u1 k1 hr hg0 q1 ho1 r1
    go_wp2
    go_ret
    exact ⟨_, _, rfl, empty_row' _ _, HN.out, HG2.out⟩
  · go_enter Tryz.func35, Tryz.ntmps35
    go_wp2_with fail
    go_region_held3 (fun W => W.cell? ⟨rb, 0, none⟩ = some (.slice ao n c) ∧ W.cell? ⟨rb, 1, none⟩ = some (.int .i64 t) ∧ W.cell? ⟨rb, 2, none⟩ = some (.bool false)) (first | assumption | go_keep) (first
      | (go_at_call 33; refine (specGet_made _ _ _ zs t kk nx false body HG.out _ (hr.below (below_drewN (Below.refl _ _) _)) (by omega)).mono ?_; rintro e w1 ⟨ao1, cp1, rfl, ho1, r1, hb1⟩; have u1 : Below w.heap.size w w1 := undrew hb1; have k1 := kept_block HH.out.box u1; have hS1 := (cells3 k1).1))
    clear c0 c1 c2 f0 f1 f2 hS1
    obtain ⟨⟨c0, c1, c2⟩, f0, f1, f2⟩ := cells3 k1
    have q1 := below_one (w1.setCell ⟨rb, 2, none⟩ (.bool true)) (.cells #[] 5)
    have hg0 := grownTr (grownOf u1) (grown_set (w := w1) (rb := rb) 2 (.bool true))
    have HG2 := hide (grownTr hg0 (grownOf q1))
    have HN := hide ((HH.out.next hg0 (set_block3b k1 (.bool true))).below q1)
    clear hb1 u1 k1 hr hg0 q1 ho1 r1
    go_wp2
    go_ret
    exact ⟨_, _, rfl, empty_row' _ _, HN.out, HG2.out⟩
  · go_enter Tryz.func35, Tryz.ntmps35
    go_wp2_with fail
    go_region_held3 (fun W => W.cell? ⟨rb, 0, none⟩ = some (.slice ao n c) ∧ W.cell? ⟨rb, 1, none⟩ = some (.int .i64 t) ∧ W.cell? ⟨rb, 2, none⟩ = some (.bool false)) (first | assumption | go_keep) (first
      | (go_at_call 33; refine (specGet_made _ _ _ zs t kk nx true body HG.out _ (hr.below (below_drewN (Below.refl _ _) _)) (by omega)).mono ?_; rintro e w1 ⟨ao1, cp1, rfl, ho1, r1, hb1⟩; have u1 : Below w.heap.size w w1 := undrew hb1; have k1 := kept_block HH.out.box u1; have hS1 := (cells3 k1).1))
    clear c0 c1 c2 f0 f1 f2 hS1
    obtain ⟨⟨c0, c1, c2⟩, f0, f1, f2⟩ := cells3 k1
    have q1 := below_one (w1.setCell ⟨rb, 2, none⟩ (.bool true)) (.cells #[] 5)
    have hg0 := grownTr (grownOf u1) (grown_set (w := w1) (rb := rb) 2 (.bool true))
    have HG2 := hide (grownTr hg0 (grownOf q1))
    have HN := hide ((HH.out.next hg0 (set_block3b k1 (.bool true))).below q1)
    clear hb1 u1 k1 hr hg0 q1 ho1 r1
    go_wp2
    go_ret
    exact ⟨_, _, rfl, empty_row' _ _, HN.out, HG2.out⟩

set_option maxRecDepth 100000 in
set_option maxHeartbeats 1000000 in
theorem snum_good (rb : Nat) (ao : Option Addr) (n c : Nat) (zs : List Int) (t m nx : Int) (hp : numM zs t = some (m, nx)) (w : World) (h : SRd w rb ao n c zs t false) :
    Calls Tryz.prog 34 #[.pointer (some ⟨rb, 0, none⟩)] w fun e w' => e = .returned (.int .i64 m) ∧ SRd w' rb ao n c zs nx false ∧ w.grownBy w' (some rb) := by
  obtain ⟨b, hb, hi⟩ := numM_some hp
  have hbl := tlv_short h.row.byte hb
  have HB := hide hb
  have HI := hide hi
  clear hp hb hi
  go_enter Tryz.func34, Tryz.ntmps34
  go_wp2_with fail
  refine (spart_good rb ao n c zs t 2 b nx HB.out _ h).mono ?_
  rintro e w1 ⟨bo, bc, rfl, r1, h1, g1, -⟩
  go_wp2_with fail
  refine (specGetInt_any _ _ _ b _ r1 (by omega)).mono ?_
  rintro e w2 ⟨rfl, hb2⟩
  rw [HI.out]
  have h2 := h1.below hb2
  have g2 := grownTr g1 (grownOf hb2)
  obtain ⟨⟨c0, c1, c2⟩, f0, f1, f2⟩ := cells3 h2.box
  have hg0 := grownTr g2 (grown_set (w := w2) (rb := rb) 2 (.bool false))
  have HG := hide hg0
  have HN := hide (h2.next (grown_set (w := w2) (rb := rb) 2 (.bool false)) (set_block3b h2.box (.bool false)))
  clear h1 g1 hb2 g2 hg0 h2
  go_wp2
  go_ret
  exact ⟨rfl, HN.out, HG.out⟩

theorem getInt_nil : (getInt []).2 = false := by decide

set_option maxRecDepth 100000 in
set_option maxHeartbeats 1000000 in
theorem snum_bad (rb : Nat) (ao : Option Addr) (n c : Nat) (zs : List Int) (t : Int) (bad : Bool) (hp : bad = true ∨ numM zs t = none) (w : World) (h : SRd w rb ao n c zs t bad) :
    Calls Tryz.prog 34 #[.pointer (some ⟨rb, 0, none⟩)] w fun e w' => ∃ m t', e = .returned (.int .i64 m) ∧ SRd w' rb ao n c zs t' true ∧ w.grownBy w' (some rb) := by
  have hways : (bad = true ∨ partM zs t 2 = none) ∨ (bad = false ∧ ∃ b nx m, getTlv zs t = (2, b, nx, true) ∧ getInt b = (m, false)) := by
    cases bad
    · rcases hp with hp | hp
      · cases hp
      · rcases numM_none hp with h | h
        · exact .inl (.inr h)
        · exact .inr ⟨rfl, h⟩
    · exact .inl (.inl rfl)
  clear hp
  rcases hways with hno | ⟨rfl, b, nx, m, hb, hi⟩
  · have HNO := hide hno
    clear hno
    go_enter Tryz.func34, Tryz.ntmps34
    go_wp2_with fail
    refine (spart_bad rb ao n c zs t 2 bad HNO.out _ h).mono ?_
    rintro e w1 ⟨bo, bc, rfl, r1, h1, g1⟩
    go_wp2_with fail
    refine (specGetInt_any _ _ _ [] _ r1 (by omega)).mono ?_
    rintro e w2 ⟨rfl, hb2⟩
    rw [getInt_nil]
    have h2 := h1.below hb2
    have g2 := grownTr g1 (grownOf hb2)
    obtain ⟨⟨c0, c1, c2⟩, f0, f1, f2⟩ := cells3 h2.box
    have hg0 := grownTr g2 (grown_set (w := w2) (rb := rb) 2 (.bool true))
    have HG := hide hg0
    have HN := hide (h2.next (grown_set (w := w2) (rb := rb) 2 (.bool true)) (set_block3b h2.box (.bool true)))
    clear h1 g1 hb2 g2 hg0 h2
    go_wp2
    go_ret
    exact ⟨_, _, rfl, HN.out, HG.out⟩
  · have hbl := tlv_short h.row.byte hb
    have HB := hide hb
    have HI := hide hi
    clear hb hi
    go_enter Tryz.func34, Tryz.ntmps34
    go_wp2_with fail
    refine (spart_good rb ao n c zs t 2 b nx HB.out _ h).mono ?_
    rintro e w1 ⟨bo, bc, rfl, r1, h1, g1, -⟩
    go_wp2_with fail
    refine (specGetInt_any _ _ _ b _ r1 (by omega)).mono ?_
    rintro e w2 ⟨rfl, hb2⟩
    rw [HI.out]
    have h2 := h1.below hb2
    have g2 := grownTr g1 (grownOf hb2)
    obtain ⟨⟨c0, c1, c2⟩, f0, f1, f2⟩ := cells3 h2.box
    have hg0 := grownTr g2 (grown_set (w := w2) (rb := rb) 2 (.bool true))
    have HG := hide hg0
    have HN := hide (h2.next (grown_set (w := w2) (rb := rb) 2 (.bool true)) (set_block3b h2.box (.bool true)))
    clear h1 g1 hb2 g2 hg0 h2
    go_wp2
    go_ret
    exact ⟨_, _, rfl, HN.out, HG.out⟩

theorem part_byt {zs : List Int} (hz : Byt zs) {t k nx : Int} {b : List Int} (h : getTlv zs t = (k, b, nx, true)) : b.length ≤ 250 ∧ Byt b := ⟨tlv_short hz h, byt_of_part hz h⟩

theorem spart_any (rb : Nat) (ao : Option Addr) (n c : Nat) (zs : List Int) (t tag : Int) (bad : Bool) (w : World) (h : SRd w rb ao n c zs t bad) :
    Calls Tryz.prog 35 #[.pointer (some ⟨rb, 0, none⟩), .int .i64 tag] w fun e w' => ∃ bo b bc t' bad', e = .returned (.slice bo b.length bc) ∧ Row w' bo b.length bc b ∧ SRd w' rb ao n c zs t' bad' ∧ w.grownBy w' (some rb) ∧ b.length ≤ 250 ∧ Byt b ∧
      ((bad' = false ∧ bad = false ∧ getTlv zs t = (tag, b, t', true) ∧ w'.ownsRow w.heap.size 5 1 (.slice bo b.length bc) b.length (cB b)) ∨ (bad' = true ∧ b = [] ∧ (bad = true ∨ partM zs t tag = none))) := by
  cases bad with
  | true =>
    refine (spart_bad rb ao n c zs t tag true (.inl rfl) w h).mono ?_
    rintro e w1 ⟨bo, bc, rfl, r1, h1, g1⟩
    exact ⟨bo, [], bc, t, true, rfl, r1, h1, g1, Nat.zero_le _, byte_nil, .inr ⟨rfl, rfl, .inl rfl⟩⟩
  | false =>
    cases hm : partM zs t tag with
    | none =>
      refine (spart_bad rb ao n c zs t tag false (.inr hm) w h).mono ?_
      rintro e w1 ⟨bo, bc, rfl, r1, h1, g1⟩
      exact ⟨bo, [], bc, t, true, rfl, r1, h1, g1, Nat.zero_le _, byte_nil, .inr ⟨rfl, rfl, .inr rfl⟩⟩
    | some bn =>
      obtain ⟨b, nx⟩ := bn
      have hT := part_some hm
      obtain ⟨hl, hb⟩ := part_byt h.row.byte hT
      refine (spart_good rb ao n c zs t tag b nx hT w h).mono ?_
      rintro e w1 ⟨bo, bc, rfl, r1, h1, g1, o1⟩
      exact ⟨bo, b, bc, nx, false, rfl, r1, h1, g1, hl, hb, .inl ⟨rfl, rfl, hT, o1⟩⟩

theorem snum_any (rb : Nat) (ao : Option Addr) (n c : Nat) (zs : List Int) (t : Int) (bad : Bool) (w : World) (h : SRd w rb ao n c zs t bad) :
    Calls Tryz.prog 34 #[.pointer (some ⟨rb, 0, none⟩)] w fun e w' => ∃ m t' bad', e = .returned (.int .i64 m) ∧ SRd w' rb ao n c zs t' bad' ∧ w.grownBy w' (some rb) ∧ ((bad' = false ∧ bad = false ∧ numM zs t = some (m, t')) ∨ (bad' = true ∧ (bad = true ∨ numM zs t = none))) := by
  cases bad with
  | true =>
    refine (snum_bad rb ao n c zs t true (.inl rfl) w h).mono ?_
    rintro e w1 ⟨m, t', rfl, h1, g1⟩
    exact ⟨m, t', true, rfl, h1, g1, .inr ⟨rfl, .inl rfl⟩⟩
  | false =>
    cases hm : numM zs t with
    | none =>
      refine (snum_bad rb ao n c zs t false (.inr hm) w h).mono ?_
      rintro e w1 ⟨m, t', rfl, h1, g1⟩
      exact ⟨m, t', true, rfl, h1, g1, .inr ⟨rfl, .inr rfl⟩⟩
    | some mn =>
      obtain ⟨m, nx⟩ := mn
      refine (snum_good rb ao n c zs t m nx hm w h).mono ?_
      rintro e w1 ⟨rfl, h1, g1⟩
      exact ⟨m, nx, false, rfl, h1, g1, .inl ⟨rfl, rfl, rfl⟩⟩

theorem srd_new (w : World) (ao : Option Addr) (n c : Nat) (zs : List Int) (hr : Row w ao n c zs) (hs : n ≤ 1048576) (o : Obj) : SRd ((w.alloc o).alloc (.cells #[.slice ao n c, .int .i64 0, .bool false] 64)) (w.heap.size + 1) ao n c zs 0 false :=
  ⟨by have := block_last (w.alloc o) (.cells #[.slice ao n c, .int .i64 0, .bool false] 64); simpa using this, hr.below (below_two _ _ _), hs⟩

end Go.Proofs.YtamglfhnhjgdjaaGreatDoor
