/-
  The program's reader of parts, by contracts: a part, a number, a name, a value; where one is not what it must be it gives up by a panic.
-/
import Derived.Test.YtamglfhnhjgdjaaGreatDoorQG
import Derived.Test.YtamglfhnhjgdjaaGreatDoorQF
import Derived.Test.YtamglfhnhjgdjaaGreatDoorQC
import Derived.Test.YtamglfhnhjgdjaaGreatDoorQD
namespace Go.Proofs.YtamglfhnhjgdjaaGreatDoor
open Go.RowKit

/-- It gave up. -/
def GaveUp (e : Ending) : Prop := ∃ S : ByteArray, e = .panicked [{ v := .iface 9 (.string S), recovered := false }]

set_option maxRecDepth 100000 in
set_option maxHeartbeats 400000 in
theorem giveUp_no (w : World) : Calls Tryz.prog 98 #[.bool true] w fun e w' => e = .returned (.tuple #[]) ∧ w' = w := by
  go_enter Tryz.func98, Tryz.ntmps98
  go_wp2
  first | go_end0 | skip
  exact ⟨rfl, rfl⟩

set_option maxRecDepth 100000 in
set_option maxHeartbeats 400000 in
theorem giveUp_yes (w : World) : Calls Tryz.prog 98 #[.bool false] w fun e w' => GaveUp e ∧ w' = w := by
  go_enter Tryz.func98, Tryz.ntmps98
  go_wp2
  exact ⟨rfl, ⟨_, rfl⟩, rfl⟩

/-- A reader: its bytes, where it stands. -/
structure Rdr (w : World) (rb : Nat) (ao : Option Addr) (n c : Nat) (zs : List Int) (t : Int) : Prop where
  box : w.heap[rb]? = some (.cells #[.slice ao n c, .int .i64 t] 154)
  row : Row w ao n c zs
  small : n ≤ 1048576

theorem Rdr.below {w w' : World} {rb : Nat} {ao : Option Addr} {n c : Nat} {zs : List Int} {t : Int} (h : Rdr w rb ao n c zs t) (hb : Below w.heap.size w w') : Rdr w' rb ao n c zs t :=
  ⟨kept_block h.box hb, h.row.below hb, h.small⟩

/-- Bytes do not lie in a reader's block. -/
theorem Rdr.next {w w' : World} {rb : Nat} {ao : Option Addr} {n c : Nat} {zs : List Int} {t t' : Int} (h : Rdr w rb ao n c zs t) (hg : w.grownBy w' (some rb)) (hb : w'.heap[rb]? = some (.cells #[.slice ao n c, .int .i64 t'] 154)) : Rdr w' rb ao n c zs t' := by
  refine ⟨hb, ⟨h.row.size, h.row.le, h.row.top, h.row.nil, h.row.byte, ?_⟩, h.small⟩
  rcases h.row.cell with h0 | ⟨b, off, ha, hc⟩
  · exact .inl h0
  · refine .inr ⟨b, off, ha, fun i hi => hg.cell (hc i hi) ?_⟩
    intro e
    simp only [Option.some.injEq] at e
    have hi' := hc i hi
    subst e
    rw [show w.cell? ⟨b, off + i, none⟩ = #[Value.slice ao n c, .int .i64 t][off + i]? by simp [World.cell?, h.box]] at hi'
    match hk : off + i with
    | 0 => rw [hk] at hi'; simp at hi'
    | 1 => rw [hk] at hi'; simp at hi'
    | k + 2 => rw [hk] at hi'; simp at hi'

set_option maxRecDepth 100000 in
set_option maxHeartbeats 1000000 in
theorem part_yes (rb : Nat) (ao : Option Addr) (n c : Nat) (zs : List Int) (t tag : Int) (body : List Int) (nx : Int) (hp : getTlv zs t = (tag, body, nx, true)) (w : World) (h : Rdr w rb ao n c zs t) :
    Calls Tryz.prog 101 #[.pointer (some ⟨rb, 0, none⟩), .int .i64 tag] w fun e w' => ∃ bo bc, e = .returned (.slice bo body.length bc) ∧ Row w' bo body.length bc body ∧ Rdr w' rb ao n c zs nx ∧ w.grownBy w' (some rb) := by
  obtain ⟨⟨c0, c1⟩, f0, f1⟩ := cells2 h.box
  have HP := hide hp
  have hr := h.row
  have hs := h.small
  have HH := hide h
  clear hp h
  go_enter Tryz.func101, Tryz.ntmps101
  go_wp2_with fail
  go_region_held3 (fun W => W.cell? ⟨rb, 0, none⟩ = some (.slice ao n c) ∧ W.cell? ⟨rb, 1, none⟩ = some (.int .i64 t)) (first | exact (cells2 k1).1 | go_keep) (first
    | (go_at_call 96; refine (implGet_made _ _ _ zs t tag nx true body HP.out _ (hr.below (below_drewN (Below.refl _ _) _)) (by omega)).mono ?_; rintro e w1 ⟨ao1, cp1, rfl, ho1, r1, hb1⟩; have u1 : Below w.heap.size w w1 := undrew hb1; have k1 := kept_block HH.out.box u1))
  clear c0 c1 f0 f1
  obtain ⟨⟨c0, c1⟩, f0, f1⟩ := cells2 k1
  have hlt : rb < w.heap.size := (Array.getElem?_eq_some_iff.1 HH.out.box).1
  have hg := grownTr (grownOf u1) (grown_set (w := w1) (rb := rb) 1 (.int .i64 nx))
  have HG := hide hg
  have HN := hide (HH.out.next hg (set_block2 k1 (.int .i64 nx)))
  have ho1 := own_lt ho1 (base' := w.heap.size) (by simp)
  have HR := hide (row_own (own_set ho1 (g := rb) (j := 1) (u := .int .i64 nx) hlt) r1.byte)
  clear hb1 u1 k1 hr hg ho1
  go_wp2_with fail
  refine (giveUp_no _).mono ?_
  rintro e w2 ⟨rfl, rfl⟩
  go_wp2
  go_ret
  exact ⟨_, _, rfl, HR.out, HN.out, HG.out⟩

set_option maxRecDepth 100000 in
set_option maxHeartbeats 1000000 in
theorem part_no (rb : Nat) (ao : Option Addr) (n c : Nat) (zs : List Int) (t tag : Int) (hp : partM zs t tag = none) (w : World) (h : Rdr w rb ao n c zs t) :
    Calls Tryz.prog 101 #[.pointer (some ⟨rb, 0, none⟩), .int .i64 tag] w fun e w' => GaveUp e ∧ w.grownBy w' (some rb) := by
  obtain ⟨⟨c0, c1⟩, f0, f1⟩ := cells2 h.box
  have hr := h.row
  have hs := h.small
  have HH := hide h
  rcases hG : getTlv zs t with ⟨kk, body, nx, ok⟩
  have hno : (ok = false) ∨ (ok = true ∧ (kk == tag) = false) := by
    unfold partM at hp
    rw [hG] at hp
    cases ok
    · exact .inl rfl
    · refine .inr ⟨rfl, ?_⟩
      by_cases e : kk = tag
      · simp [e] at hp
      · simp [e]
  have HG := hide hG
  clear hp h hG
  rcases hno with rfl | ⟨rfl, hkt⟩
  all_goals
    go_enter Tryz.func101, Tryz.ntmps101
    go_wp2_with fail
    go_region_held3 (fun W => W.cell? ⟨rb, 0, none⟩ = some (.slice ao n c) ∧ W.cell? ⟨rb, 1, none⟩ = some (.int .i64 t)) (first | exact (cells2 k1).1 | go_keep) (first
      | (go_at_call 96; refine (implGet_made _ _ _ zs t kk nx _ body HG.out _ (hr.below (below_drewN (Below.refl _ _) _)) (by omega)).mono ?_; rintro e w1 ⟨ao1, cp1, rfl, ho1, r1, hb1⟩; have u1 : Below w.heap.size w w1 := undrew hb1; have k1 := kept_block HH.out.box u1))
    have HU := hide u1
    clear c0 c1 f0 f1 hb1 u1 k1 hr ho1 r1
    go_wp2_with fail
    refine (giveUp_yes _).mono ?_
    rintro e w2 ⟨⟨S, rfl⟩, rfl⟩
    go_wp2
    exact ⟨rfl, ⟨_, rfl⟩, grownOf HU.out⟩

set_option maxRecDepth 100000 in
set_option maxHeartbeats 1000000 in
theorem number_yes (rb : Nat) (ao : Option Addr) (n c : Nat) (zs : List Int) (t m nx : Int) (hp : numM zs t = some (m, nx)) (w : World) (h : Rdr w rb ao n c zs t) :
    Calls Tryz.prog 99 #[.pointer (some ⟨rb, 0, none⟩)] w fun e w' => e = .returned (.int .i64 m) ∧ Rdr w' rb ao n c zs nx ∧ w.grownBy w' (some rb) := by
  obtain ⟨b, hb, hi⟩ := numM_some hp
  have hbl : b.length ≤ 1000 := by have := (tlv_lies h.row.byte hb); obtain ⟨_, _, _, _, _, _, hT, _⟩ := this; unfold TlvOk at hT; omega
  have HB := hide hb
  have HI := hide hi
  clear hp hb hi
  go_enter Tryz.func99, Tryz.ntmps99
  go_wp2_with fail
  refine (part_yes rb ao n c zs t 2 b nx HB.out _ h).mono ?_
  rintro e w1 ⟨bo, bc, rfl, r1, h1, g1⟩
  go_wp2_with fail
  refine (implGetInt_any _ _ _ b _ r1 (by omega)).mono ?_
  rintro e w2 ⟨rfl, rfl⟩
  rw [HI.out]
  go_wp2_with fail
  refine (giveUp_no _).mono ?_
  rintro e w3 ⟨rfl, rfl⟩
  go_wp2
  go_ret
  exact ⟨rfl, h1, g1⟩

set_option maxRecDepth 100000 in
set_option maxHeartbeats 1000000 in
theorem number_no (rb : Nat) (ao : Option Addr) (n c : Nat) (zs : List Int) (t : Int) (hp : numM zs t = none) (w : World) (h : Rdr w rb ao n c zs t) :
    Calls Tryz.prog 99 #[.pointer (some ⟨rb, 0, none⟩)] w fun e w' => GaveUp e ∧ w.grownBy w' (some rb) := by
  rcases numM_none hp with hno | ⟨b, nx, m, hb, hi⟩
  · have HN := hide hno
    clear hp hno
    go_enter Tryz.func99, Tryz.ntmps99
    go_wp2_with fail
    refine (part_no rb ao n c zs t 2 HN.out _ h).mono ?_
    rintro e w1 ⟨⟨S, rfl⟩, g1⟩
    go_wp2
    exact ⟨rfl, ⟨_, rfl⟩, g1⟩
  · have hbl : b.length ≤ 1000 := by have := (tlv_lies h.row.byte hb); obtain ⟨_, _, _, _, _, _, hT, _⟩ := this; unfold TlvOk at hT; omega
    have HB := hide hb
    have HI := hide hi
    clear hp hb hi
    go_enter Tryz.func99, Tryz.ntmps99
    go_wp2_with fail
    refine (part_yes rb ao n c zs t 2 b nx HB.out _ h).mono ?_
    rintro e w1 ⟨bo, bc, rfl, r1, h1, g1⟩
    go_wp2_with fail
    refine (implGetInt_any _ _ _ b _ r1 (by omega)).mono ?_
    rintro e w2 ⟨rfl, rfl⟩
    rw [HI.out]
    go_wp2_with fail
    refine (giveUp_yes _).mono ?_
    rintro e w3 ⟨⟨S, rfl⟩, rfl⟩
    go_wp2
    exact ⟨rfl, ⟨_, rfl⟩, g1⟩

set_option maxRecDepth 100000 in
set_option maxHeartbeats 400000 in
theorem more_any (rb : Nat) (ao : Option Addr) (n c : Nat) (zs : List Int) (t : Int) (w : World) (h : Rdr w rb ao n c zs t) :
    Calls Tryz.prog 102 #[.pointer (some ⟨rb, 0, none⟩)] w fun e w' => e = .returned (.bool (decide (t < n))) ∧ Below w.heap.size w w' := by
  obtain ⟨⟨c0, c1⟩, -⟩ := cells2 h.box
  go_enter Tryz.func102, Tryz.ntmps102
  go_wp2
  go_quiet (fail)
  go_wp2
  go_ret
  exact ⟨rfl, below_drewN (Below.refl _ _) _⟩

end Go.Proofs.YtamglfhnhjgdjaaGreatDoor
