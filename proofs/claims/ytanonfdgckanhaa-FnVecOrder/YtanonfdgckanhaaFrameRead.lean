/-
  The specification's reader, a number of a part of a given tag; what is got of bytes that should hold a frame.
-/
import Derived.Test.YtanonfdgckanhaaSRead
import Derived.Test.YtanonfdgckanhaaFrameMath
namespace Go.Proofs.Ytanonfdgckanhaa
open Go.RowKit

/-- What is answered: the frame that was read, or an empty one. -/
def gotF (z : List Int) : Int × Int × Int × List Int × Bool :=
  match getF z with
  | some x => (x.d, x.s, x.g, x.z, true)
  | none => (0, 0, 0, [], false)
theorem gotF_some {z : List Int} {x : FD} (h : getF z = some x) : gotF z = (x.d, x.s, x.g, x.z, true) := by unfold gotF; rw [h]
theorem gotF_none {z : List Int} (h : getF z = none) : gotF z = (0, 0, 0, [], false) := by unfold gotF; rw [h]
theorem gotF_small {z : List Int} (hz : Byt z) {K N S : Int} {O : List Int} {ok : Bool} (h : gotF z = (K, N, S, O, ok)) : O.length ≤ 20 := by
  rcases hg : getF z with _ | x
  · rw [gotF_none hg] at h
    cases h
    exact Nat.zero_le _
  · rw [gotF_some hg] at h
    cases h
    exact (okF_parts (frame_read hz hg).1).2.2.2

theorem numT_some {zs : List Int} {tag t m nx : Int} (h : numT tag zs t = some (m, nx)) : ∃ b, getTlv zs t = (tag, b, nx, true) ∧ getInt b = (m, true) := by
  unfold numT at h
  split at h
  · rename_i b nx' hp
    split at h
    · rename_i hi
      simp only [Option.some.injEq, Prod.mk.injEq] at h
      obtain ⟨rfl, rfl⟩ := h
      exact ⟨b, part_some hp, Prod.ext rfl hi⟩
    · cases h
  · cases h

theorem numT_none {zs : List Int} {tag t : Int} (h : numT tag zs t = none) : partM zs t tag = none ∨ ∃ b nx m, getTlv zs t = (tag, b, nx, true) ∧ getInt b = (m, false) := by
  unfold numT at h
  split at h
  · rename_i b nx' hp
    split at h
    · cases h
    · rename_i hi
      exact .inr ⟨b, nx', (getInt b).1, part_some hp, Prod.ext rfl (by simpa using hi)⟩
  · exact .inl (by assumption)

set_option maxRecDepth 100000 in
set_option maxHeartbeats 1000000 in
theorem tnum_good (rb : Nat) (ao : Option Addr) (n c : Nat) (zs : List Int) (tag t m nx : Int) (hp : numT tag zs t = some (m, nx)) (w : World) (h : SRd w rb ao n c zs t false) :
    Calls Try.prog 51 #[.pointer (some ⟨rb, 0, none⟩), .int .i64 tag] w fun e w' => e = .returned (.int .i64 m) ∧ SRd w' rb ao n c zs nx false ∧ w.grownBy w' (some rb) := by
  obtain ⟨b, hb, hi⟩ := numT_some hp
  have hbl := tlv_short h.row.byte hb
  have HB := hide hb
  have HI := hide hi
  clear hp hb hi
  go_enter Try.func51, Try.ntmps51
  go_wp2_with fail
  refine (spart_good rb ao n c zs t tag b nx HB.out _ h).mono ?_
  rintro e w1 ⟨bo, bc, rfl, r1, h1, g1, -⟩
  go_wp2_with fail
  refine (specGetInt_any _ _ _ b _ r1 (by omega)).mono ?_
  rintro e w2 ⟨rfl, hb2⟩
  rw [HI.out]
  have h2 := h1.below hb2
  have g2 := grownTr g1 (grownOf hb2)
  obtain ⟨⟨c0, c1, c2⟩, f0, f1, f2⟩ := cells3 h2.box
  have hg0 := grownTr g2 (grown_set (w := w2) (rb := rb) 2 (.bool false))
  have HG := hide hg0
  have HN := hide (h2.next (grown_set (w := w2) (rb := rb) 2 (.bool false)) (set_block3b h2.box (.bool false)))
  clear h1 g1 hb2 g2 hg0 h2
  go_wp2
  go_ret
  exact ⟨rfl, HN.out, HG.out⟩

set_option maxRecDepth 100000 in
set_option maxHeartbeats 1000000 in
theorem tnum_bad (rb : Nat) (ao : Option Addr) (n c : Nat) (zs : List Int) (tag t : Int) (bad : Bool) (hp : bad = true ∨ numT tag zs t = none) (w : World) (h : SRd w rb ao n c zs t bad) :
    Calls Try.prog 51 #[.pointer (some ⟨rb, 0, none⟩), .int .i64 tag] w fun e w' => ∃ m t', e = .returned (.int .i64 m) ∧ SRd w' rb ao n c zs t' true ∧ w.grownBy w' (some rb) := by
  have hways : (bad = true ∨ partM zs t tag = none) ∨ (bad = false ∧ ∃ b nx m, getTlv zs t = (tag, b, nx, true) ∧ getInt b = (m, false)) := by
    cases bad
    · rcases hp with hp | hp
      · cases hp
      · rcases numT_none hp with h | h
        · exact .inl (.inr h)
        · exact .inr ⟨rfl, h⟩
    · exact .inl (.inl rfl)
  clear hp
  rcases hways with hno | ⟨rfl, b, nx, m, hb, hi⟩
  · have HNO := hide hno
    clear hno
    go_enter Try.func51, Try.ntmps51
    go_wp2_with fail
    refine (spart_bad rb ao n c zs t tag bad HNO.out _ h).mono ?_
    rintro e w1 ⟨bo, bc, rfl, r1, h1, g1⟩
    go_wp2_with fail
    refine (specGetInt_any _ _ _ [] _ r1 (by omega)).mono ?_
    rintro e w2 ⟨rfl, hb2⟩
    rw [getInt_nil]
    have h2 := h1.below hb2
    have g2 := grownTr g1 (grownOf hb2)
    obtain ⟨⟨c0, c1, c2⟩, f0, f1, f2⟩ := cells3 h2.box
    have hg0 := grownTr g2 (grown_set (w := w2) (rb := rb) 2 (.bool true))
    have HG := hide hg0
    have HN := hide (h2.next (grown_set (w := w2) (rb := rb) 2 (.bool true)) (set_block3b h2.box (.bool true)))
    clear h1 g1 hb2 g2 hg0 h2
    go_wp2
    go_ret
    exact ⟨_, _, rfl, HN.out, HG.out⟩
  · have hbl := tlv_short h.row.byte hb
    have HB := hide hb
    have HI := hide hi
    clear hb hi
    go_enter Try.func51, Try.ntmps51
    go_wp2_with fail
    refine (spart_good rb ao n c zs t tag b nx HB.out _ h).mono ?_
    rintro e w1 ⟨bo, bc, rfl, r1, h1, g1, -⟩
    go_wp2_with fail
    refine (specGetInt_any _ _ _ b _ r1 (by omega)).mono ?_
    rintro e w2 ⟨rfl, hb2⟩
    rw [HI.out]
    have h2 := h1.below hb2
    have g2 := grownTr g1 (grownOf hb2)
    obtain ⟨⟨c0, c1, c2⟩, f0, f1, f2⟩ := cells3 h2.box
    have hg0 := grownTr g2 (grown_set (w := w2) (rb := rb) 2 (.bool true))
    have HG := hide hg0
    have HN := hide (h2.next (grown_set (w := w2) (rb := rb) 2 (.bool true)) (set_block3b h2.box (.bool true)))
    clear h1 g1 hb2 g2 hg0 h2
    go_wp2
    go_ret
    exact ⟨_, _, rfl, HN.out, HG.out⟩

theorem tnum_any (rb : Nat) (ao : Option Addr) (n c : Nat) (zs : List Int) (tag t : Int) (bad : Bool) (w : World) (h : SRd w rb ao n c zs t bad) :
    Calls Try.prog 51 #[.pointer (some ⟨rb, 0, none⟩), .int .i64 tag] w fun e w' => ∃ m t' bad', e = .returned (.int .i64 m) ∧ SRd w' rb ao n c zs t' bad' ∧ w.grownBy w' (some rb) ∧ ((bad' = false ∧ bad = false ∧ numT tag zs t = some (m, t')) ∨ (bad' = true ∧ (bad = true ∨ numT tag zs t = none))) := by
  cases bad with
  | true =>
    refine (tnum_bad rb ao n c zs tag t true (.inl rfl) w h).mono ?_
    rintro e w1 ⟨m, t', rfl, h1, g1⟩
    exact ⟨m, t', true, rfl, h1, g1, .inr ⟨rfl, .inl rfl⟩⟩
  | false =>
    cases hm : numT tag zs t with
    | none =>
      refine (tnum_bad rb ao n c zs tag t false (.inr hm) w h).mono ?_
      rintro e w1 ⟨m, t', rfl, h1, g1⟩
      exact ⟨m, t', true, rfl, h1, g1, .inr ⟨rfl, .inr rfl⟩⟩
    | some mn =>
      obtain ⟨m, nx⟩ := mn
      refine (tnum_good rb ao n c zs tag t m nx hm w h).mono ?_
      rintro e w1 ⟨rfl, h1, g1⟩
      exact ⟨m, nx, false, rfl, h1, g1, .inl ⟨rfl, rfl, rfl⟩⟩

end Go.Proofs.Ytanonfdgckanhaa
