/-
  The program's reader of parts, by contracts: a part, a number, a name, a value; where one is not what it must be it gives up by a panic.
-/
import Derived.Test.YtgfkpgdkkmgjkaaGreatDoorPduHelp
import Derived.Test.YtgfkpgdkkmgjkaaGreatDoorBunD
import Derived.Test.YtgfkpgdkkmgjkaaGreatDoorBunB
import Derived.Test.YtgfkpgdkkmgjkaaGreatDoorBunA
namespace Go.Proofs.YtgfkpgdkkmgjkaaGreatDoor
open Go.RowKit

/-- It gave up. -/
def GaveUp (e : Ending) : Prop := ∃ S : ByteArray, e = .panicked [{ v := .iface 9 (.string S), recovered := false }]

set_option maxRecDepth 100000 in
set_option maxHeartbeats 400000 in
theorem giveUp_no (w : World) : Calls Tryz.prog 114 #[.bool true] w fun e w' => e = .returned (.tuple #[]) ∧ w' = w := by
  go_enter Tryz.func114, Tryz.ntmps114
  go_wp2
  first | go_end0 | skip
  exact ⟨rfl, rfl⟩

set_option maxRecDepth 100000 in
set_option maxHeartbeats 400000 in
theorem giveUp_yes (w : World) : Calls Tryz.prog 114 #[.bool false] w fun e w' => GaveUp e ∧ w' = w := by
  go_enter Tryz.func114, Tryz.ntmps114
  go_wp2
  exact ⟨rfl, ⟨_, rfl⟩, rfl⟩

theorem cells2 {w : World} {C : Nat} {t : TypeId} {c0 c1 : Value} (h : w.heap[C]? = some (.cells #[c0, c1] t)) :
    (w.cell? ⟨C, 0, none⟩ = some c0 ∧ w.cell? ⟨C, 1, none⟩ = some c1) ∧ (w.frozen? ⟨C, 0, none⟩ = false ∧ w.frozen? ⟨C, 1, none⟩ = false) := by
  refine ⟨⟨?_, ?_⟩, ?_, ?_⟩ <;> simp [World.cell?, World.frozen?, h]

theorem set_block2 {w : World} {b : Nat} {c0 c1 : Value} {t : TypeId} (h : w.heap[b]? = some (.cells #[c0, c1] t)) (u : Value) : (w.setCell ⟨b, 1, none⟩ u).heap[b]? = some (.cells #[c0, u] t) := by
  have := heap_setCell_same w b 1 #[c0, c1] t u h
  simpa using this

/-- A reader: its bytes, where it stands. -/
structure Rdr (w : World) (rb : Nat) (ao : Option Addr) (n c : Nat) (zs : List Int) (t : Int) : Prop where
  box : w.heap[rb]? = some (.cells #[.slice ao n c, .int .i64 t] 161)
  row : Row w ao n c zs
  small : n ≤ 1048576

theorem Rdr.below {w w' : World} {rb : Nat} {ao : Option Addr} {n c : Nat} {zs : List Int} {t : Int} (h : Rdr w rb ao n c zs t) (hb : Below w.heap.size w w') : Rdr w' rb ao n c zs t :=
  ⟨kept_block h.box hb, h.row.below hb, h.small⟩

/-- Bytes do not lie in a reader's block. -/
theorem Rdr.next {w w' : World} {rb : Nat} {ao : Option Addr} {n c : Nat} {zs : List Int} {t t' : Int} (h : Rdr w rb ao n c zs t) (hg : w.grownBy w' (some rb)) (hb : w'.heap[rb]? = some (.cells #[.slice ao n c, .int .i64 t'] 161)) : Rdr w' rb ao n c zs t' := by
  refine ⟨hb, ⟨h.row.size, h.row.le, h.row.top, h.row.nil, h.row.byte, ?_⟩, h.small⟩
  rcases h.row.cell with h0 | ⟨b, off, ha, hc⟩
  · exact .inl h0
  · refine .inr ⟨b, off, ha, fun i hi => hg.cell (hc i hi) ?_⟩
    intro e
    simp only [Option.some.injEq] at e
    have hi' := hc i hi
    subst e
    rw [show w.cell? ⟨b, off + i, none⟩ = #[Value.slice ao n c, .int .i64 t][off + i]? by simp [World.cell?, h.box]] at hi'
    match hk : off + i with
    | 0 => rw [hk] at hi'; simp at hi'
    | 1 => rw [hk] at hi'; simp at hi'
    | k + 2 => rw [hk] at hi'; simp at hi'

theorem below_grown_in {w w' : World} {rb : Nat} (hg : w.grownBy w' (some rb)) {B : Nat} (h1 : B ≤ rb) (h2 : B ≤ w.heap.size) : Below B w w' := (Below.refl B w).grown hg h2 (by intro k hk; cases hk; exact h1)

theorem grownTr {a b c : World} {row : Option Nat} (h : a.grownBy b row) (k : b.grownBy c row) : a.grownBy c row :=
  ⟨k.os.trans h.os, k.tape.trans h.tape, k.output.trans h.output, Nat.le_trans h.size k.size, fun i hi hn => (k.block i (Nat.lt_of_lt_of_le hi h.size) hn).trans (h.block i hi hn)⟩
theorem grownOf {a b : World} {row : Option Nat} (h : Below a.heap.size a b) : a.grownBy b row := ⟨h.os, h.tape, h.output, h.size, fun k hk _ => h.block k hk⟩
theorem grown_set {w : World} {rb : Nat} (j : Nat) (u : Value) : w.grownBy (w.setCell ⟨rb, j, none⟩ u) (some rb) := grown_setCell (World.grownBy.refl _ _) j u

set_option maxRecDepth 100000 in
set_option maxHeartbeats 1000000 in
theorem part_yes (rb : Nat) (ao : Option Addr) (n c : Nat) (zs : List Int) (t tag : Int) (body : List Int) (nx : Int) (hp : getTlv zs t = (tag, body, nx, true)) (w : World) (h : Rdr w rb ao n c zs t) :
    Calls Tryz.prog 117 #[.pointer (some ⟨rb, 0, none⟩), .int .i64 tag] w fun e w' => ∃ bo bc, e = .returned (.slice bo body.length bc) ∧ Row w' bo body.length bc body ∧ Rdr w' rb ao n c zs nx ∧ w.grownBy w' (some rb) := by
  obtain ⟨⟨c0, c1⟩, f0, f1⟩ := cells2 h.box
  have HP := hide hp
  have hr := h.row
  have hs := h.small
  have HH := hide h
  clear hp h
  go_enter Tryz.func117, Tryz.ntmps117
  go_wp2_with fail
  go_region_held3 (fun W => W.cell? ⟨rb, 0, none⟩ = some (.slice ao n c) ∧ W.cell? ⟨rb, 1, none⟩ = some (.int .i64 t)) (first | exact (cells2 k1).1 | go_keep) (first
    | (go_at_call 88; refine (implGet_made _ _ _ zs t tag nx true body HP.out _ (hr.below (below_drewN (Below.refl _ _) _)) (by omega)).mono ?_; rintro e w1 ⟨ao1, cp1, rfl, ho1, r1, hb1⟩; have u1 : Below w.heap.size w w1 := undrew hb1; have k1 := kept_block HH.out.box u1))
  clear c0 c1 f0 f1
  obtain ⟨⟨c0, c1⟩, f0, f1⟩ := cells2 k1
  have hlt : rb < w.heap.size := (Array.getElem?_eq_some_iff.1 HH.out.box).1
  have hg := grownTr (grownOf u1) (grown_set (w := w1) (rb := rb) 1 (.int .i64 nx))
  have HG := hide hg
  have HN := hide (HH.out.next hg (set_block2 k1 (.int .i64 nx)))
  have ho1 := own_lt ho1 (base' := w.heap.size) (by simp)
  have HR := hide (row_own (own_set ho1 (g := rb) (j := 1) (u := .int .i64 nx) hlt) r1.byte)
  clear hb1 u1 k1 hr hg ho1
  go_wp2_with fail
  refine (giveUp_no _).mono ?_
  rintro e w2 ⟨rfl, rfl⟩
  go_wp2
  go_ret
  exact ⟨_, _, rfl, HR.out, HN.out, HG.out⟩

set_option maxRecDepth 100000 in
set_option maxHeartbeats 1000000 in
theorem part_no (rb : Nat) (ao : Option Addr) (n c : Nat) (zs : List Int) (t tag : Int) (hp : partM zs t tag = none) (w : World) (h : Rdr w rb ao n c zs t) :
    Calls Tryz.prog 117 #[.pointer (some ⟨rb, 0, none⟩), .int .i64 tag] w fun e w' => GaveUp e ∧ w.grownBy w' (some rb) := by
  obtain ⟨⟨c0, c1⟩, f0, f1⟩ := cells2 h.box
  have hr := h.row
  have hs := h.small
  have HH := hide h
  rcases hG : getTlv zs t with ⟨kk, body, nx, ok⟩
  have hno : (ok = false) ∨ (ok = true ∧ (kk == tag) = false) := by
    unfold partM at hp
    rw [hG] at hp
    cases ok
    · exact .inl rfl
    · refine .inr ⟨rfl, ?_⟩
      by_cases e : kk = tag
      · simp [e] at hp
      · simp [e]
  have HG := hide hG
  clear hp h hG
  rcases hno with rfl | ⟨rfl, hkt⟩
  all_goals
    go_enter Tryz.func117, Tryz.ntmps117
    go_wp2_with fail
    go_region_held3 (fun W => W.cell? ⟨rb, 0, none⟩ = some (.slice ao n c) ∧ W.cell? ⟨rb, 1, none⟩ = some (.int .i64 t)) (first | exact (cells2 k1).1 | go_keep) (first
      | (go_at_call 88; refine (implGet_made _ _ _ zs t kk nx _ body HG.out _ (hr.below (below_drewN (Below.refl _ _) _)) (by omega)).mono ?_; rintro e w1 ⟨ao1, cp1, rfl, ho1, r1, hb1⟩; have u1 : Below w.heap.size w w1 := undrew hb1; have k1 := kept_block HH.out.box u1))
    have HU := hide u1
    clear c0 c1 f0 f1 hb1 u1 k1 hr ho1 r1
    go_wp2_with fail
    refine (giveUp_yes _).mono ?_
    rintro e w2 ⟨⟨S, rfl⟩, rfl⟩
    go_wp2
    exact ⟨rfl, ⟨_, rfl⟩, grownOf HU.out⟩

theorem numM_some {zs : List Int} {t m nx : Int} (h : numM zs t = some (m, nx)) : ∃ b, getTlv zs t = (2, b, nx, true) ∧ getInt b = (m, true) := by
  unfold numM at h
  split at h
  · rename_i b nx' hp
    split at h
    · rename_i hi
      simp only [Option.some.injEq, Prod.mk.injEq] at h
      obtain ⟨rfl, rfl⟩ := h
      exact ⟨b, part_some hp, Prod.ext rfl hi⟩
    · cases h
  · cases h
theorem numM_none {zs : List Int} {t : Int} (h : numM zs t = none) : partM zs t 2 = none ∨ ∃ b nx m, getTlv zs t = (2, b, nx, true) ∧ getInt b = (m, false) := by
  unfold numM at h
  split at h
  · rename_i b nx' hp
    split at h
    · cases h
    · rename_i hi
      exact .inr ⟨b, nx', (getInt b).1, part_some hp, Prod.ext rfl (by simpa using hi)⟩
  · exact .inl (by assumption)

set_option maxRecDepth 100000 in
set_option maxHeartbeats 1000000 in
theorem number_yes (rb : Nat) (ao : Option Addr) (n c : Nat) (zs : List Int) (t m nx : Int) (hp : numM zs t = some (m, nx)) (w : World) (h : Rdr w rb ao n c zs t) :
    Calls Tryz.prog 115 #[.pointer (some ⟨rb, 0, none⟩)] w fun e w' => e = .returned (.int .i64 m) ∧ Rdr w' rb ao n c zs nx ∧ w.grownBy w' (some rb) := by
  obtain ⟨b, hb, hi⟩ := numM_some hp
  have hbl : b.length ≤ 1000 := by have := (tlv_lies h.row.byte hb); obtain ⟨_, _, _, _, _, _, hT, _⟩ := this; unfold TlvOk at hT; omega
  have HB := hide hb
  have HI := hide hi
  clear hp hb hi
  go_enter Tryz.func115, Tryz.ntmps115
  go_wp2_with fail
  refine (part_yes rb ao n c zs t 2 b nx HB.out _ h).mono ?_
  rintro e w1 ⟨bo, bc, rfl, r1, h1, g1⟩
  go_wp2_with fail
  refine (implGetInt_any _ _ _ b _ r1 (by omega)).mono ?_
  rintro e w2 ⟨rfl, rfl⟩
  rw [HI.out]
  go_wp2_with fail
  refine (giveUp_no _).mono ?_
  rintro e w3 ⟨rfl, rfl⟩
  go_wp2
  go_ret
  exact ⟨rfl, h1, g1⟩

set_option maxRecDepth 100000 in
set_option maxHeartbeats 1000000 in
theorem number_no (rb : Nat) (ao : Option Addr) (n c : Nat) (zs : List Int) (t : Int) (hp : numM zs t = none) (w : World) (h : Rdr w rb ao n c zs t) :
    Calls Tryz.prog 115 #[.pointer (some ⟨rb, 0, none⟩)] w fun e w' => GaveUp e ∧ w.grownBy w' (some rb) := by
  rcases numM_none hp with hno | ⟨b, nx, m, hb, hi⟩
  · have HN := hide hno
    clear hp hno
    go_enter Tryz.func115, Tryz.ntmps115
    go_wp2_with fail
    refine (part_no rb ao n c zs t 2 HN.out _ h).mono ?_
    rintro e w1 ⟨⟨S, rfl⟩, g1⟩
    go_wp2
    exact ⟨rfl, ⟨_, rfl⟩, g1⟩
  · have hbl : b.length ≤ 1000 := by have := (tlv_lies h.row.byte hb); obtain ⟨_, _, _, _, _, _, hT, _⟩ := this; unfold TlvOk at hT; omega
    have HB := hide hb
    have HI := hide hi
    clear hp hb hi
    go_enter Tryz.func115, Tryz.ntmps115
    go_wp2_with fail
    refine (part_yes rb ao n c zs t 2 b nx HB.out _ h).mono ?_
    rintro e w1 ⟨bo, bc, rfl, r1, h1, g1⟩
    go_wp2_with fail
    refine (implGetInt_any _ _ _ b _ r1 (by omega)).mono ?_
    rintro e w2 ⟨rfl, rfl⟩
    rw [HI.out]
    go_wp2_with fail
    refine (giveUp_yes _).mono ?_
    rintro e w3 ⟨⟨S, rfl⟩, rfl⟩
    go_wp2
    exact ⟨rfl, ⟨_, rfl⟩, g1⟩

set_option maxRecDepth 100000 in
set_option maxHeartbeats 400000 in
theorem more_any (rb : Nat) (ao : Option Addr) (n c : Nat) (zs : List Int) (t : Int) (w : World) (h : Rdr w rb ao n c zs t) :
    Calls Tryz.prog 118 #[.pointer (some ⟨rb, 0, none⟩)] w fun e w' => e = .returned (.bool (decide (t < n))) ∧ Below w.heap.size w w' := by
  obtain ⟨⟨c0, c1⟩, -⟩ := cells2 h.box
  go_enter Tryz.func118, Tryz.ntmps118
  go_wp2
  go_quiet (fail)
  go_wp2
  go_ret
  exact ⟨rfl, below_drewN (Below.refl _ _) _⟩

end Go.Proofs.YtgfkpgdkkmgjkaaGreatDoor
