/-
  The program's cutter of a frame's bytes, by contracts: a part, a number, the network.
-/
import Derived.Test.YtanonfdgckanhaaFrameCut
namespace Go.Proofs.Ytanonfdgckanhaa
open Go.RowKit

/-- A cutter: what is left, whether something was wrong. -/
structure FCut (w : World) (rb : Nat) (ao : Option Addr) (n c : Nat) (z : List Int) (bad : Bool) : Prop where
  box : w.heap[rb]? = some (.cells #[.slice ao n c, .bool bad] 64)
  row : Row w ao n c z
  small : n ≤ 1048576

theorem FCut.below {w w' : World} {rb : Nat} {ao : Option Addr} {n c : Nat} {z : List Int} {bad : Bool} (h : FCut w rb ao n c z bad) (hb : Below w.heap.size w w') : FCut w' rb ao n c z bad :=
  ⟨kept_block h.box hb, h.row.below hb, h.small⟩

/-- Bytes do not lie in a cutter's block. -/
theorem FCut.keep {w w' : World} {rb : Nat} {ao : Option Addr} {n c : Nat} {z : List Int} {bad : Bool} (h : FCut w rb ao n c z bad) (hg : w.grownBy w' (some rb)) {a2 : Option Addr} {n2 c2 : Nat} {z2 : List Int} (r : Row w a2 n2 c2 z2) : Row w' a2 n2 c2 z2 := by
  refine ⟨r.size, r.le, r.top, r.nil, r.byte, ?_⟩
  rcases r.cell with h0 | ⟨b, off, ha, hc⟩
  · exact .inl h0
  · refine .inr ⟨b, off, ha, fun i hi => hg.cell (hc i hi) ?_⟩
    intro e
    simp only [Option.some.injEq] at e
    have hi' := hc i hi
    subst e
    rw [show w.cell? ⟨b, off + i, none⟩ = #[Value.slice ao n c, .bool bad][off + i]? by simp [World.cell?, h.box]] at hi'
    match hk : off + i with
    | 0 => rw [hk] at hi'; simp at hi'
    | 1 => rw [hk] at hi'; simp at hi'
    | k + 2 => rw [hk] at hi'; simp at hi'

theorem FCut.next {w w' : World} {rb : Nat} {ao : Option Addr} {n c : Nat} {z : List Int} {bad : Bool} (h : FCut w rb ao n c z bad) (hg : w.grownBy w' (some rb)) {a2 : Option Addr} {n2 c2 : Nat} {z2 : List Int} {bad' : Bool} (r : Row w a2 n2 c2 z2) (hs : n2 ≤ 1048576) (hb : w'.heap[rb]? = some (.cells #[.slice a2 n2 c2, .bool bad'] 64)) : FCut w' rb a2 n2 c2 z2 bad' :=
  ⟨hb, h.keep hg r, hs⟩

theorem set_block2a {w : World} {b : Nat} {c0 c1 : Value} {t : TypeId} (h : w.heap[b]? = some (.cells #[c0, c1] t)) (u : Value) : (w.setCell ⟨b, 0, none⟩ u).heap[b]? = some (.cells #[u, c1] t) := by
  have := heap_setCell_same w b 0 #[c0, c1] t u h
  simpa using this

/-- What is left behind a cut of three indexes. -/
theorem Row.cut3 {w : World} {b off len cap : Nat} {zs : List Int} (h : Row w (some ⟨b, off, none⟩) len cap zs) (hc : ∀ i, i < len → w.cell? ⟨b, off + i, none⟩ = some (.int .u8 (zs.getD i 0))) (f : Nat) : Row w (some ⟨b, off + f, none⟩) (len - f) (len - f) (zs.drop f) where
  size := by have := h.size; simp; omega
  le := Nat.le_refl _
  top := by have := h.top; have := h.le; omega
  nil := by intro h; cases h
  byte := byt_drop h.byte f
  cell := .inr ⟨b, off + f, rfl, fun i hi => by
    have h2 := hc (f + i) (by omega)
    rw [show off + f + i = off + (f + i) by omega, h2]
    simp [List.getD_eq_getElem?_getD]⟩

theorem row_done {w : World} {b off : Nat} {zs : List Int} (h : zs = []) : Row w (some ⟨b, off, none⟩) 0 0 zs := by
  subst h
  exact ⟨rfl, Nat.le_refl _, Nat.zero_le _, (by intro h; cases h), (fun x hx => by cases hx), .inl rfl⟩

set_option maxRecDepth 100000 in
set_option maxHeartbeats 1000000 in
theorem cpart_bad (rb : Nat) (ao : Option Addr) (n c : Nat) (z : List Int) (tag : Int) (bad : Bool) (hp : partM z 0 tag = none) (w : World) (h : FCut w rb ao n c z bad) :
    Calls Try.prog 50 #[.pointer (some ⟨rb, 0, none⟩), .int .i64 tag] w fun e w' => e = .returned (.slice none 0 0) ∧ FCut w' rb ao n c z true ∧ w.grownBy w' (some rb) := by
  obtain ⟨⟨c0, c1⟩, f0, f1⟩ := cells2 h.box
  have hr := h.row
  have hs := h.small
  have HH := hide h
  rcases hG : getTlv z 0 with ⟨kk, body, nx, ok⟩
  have hno : (ok = false) ∨ (ok = true ∧ (kk != tag) = true) := by
    unfold partM at hp
    rw [hG] at hp
    cases ok
    · exact .inl rfl
    · refine .inr ⟨rfl, ?_⟩
      by_cases e : kk = tag
      · simp [e] at hp
      · simp [e]
  have HG := hide hG
  clear hp h hG
  rcases hno with rfl | ⟨rfl, hkt⟩
  all_goals
    go_enter Try.func50, Try.ntmps50
    go_wp2_with fail
    refine (implGet_made _ _ _ z 0 kk nx _ body HG.out _ hr (by omega)).mono ?_
    rintro e w1 ⟨ao1, cp1, rfl, ho1, r1, hb1⟩
    have k1 := kept_block HH.out.box hb1
    have hg := grownTr (grownOf hb1) (grown_set (w := w1) (rb := rb) 1 (.bool true))
    have HG1 := hide hg
    have HN := hide (HH.out.next hg hr hs (set_block2 k1 (.bool true)))
    clear c0 c1 f0 f1
    obtain ⟨⟨c0, c1⟩, f0, f1⟩ := cells2 k1
    clear hb1 k1 hr ho1 r1 hg
    go_wp2
    go_ret
    exact ⟨rfl, HN.out, HG1.out⟩

set_option maxRecDepth 100000 in
set_option maxHeartbeats 1000000 in
theorem cpart_good (rb : Nat) (ao : Option Addr) (n c : Nat) (z : List Int) (tag : Int) (bad : Bool) (body : List Int) (nx : Int) (hp : getTlv z 0 = (tag, body, nx, true)) (w : World) (h : FCut w rb ao n c z bad) :
    Calls Try.prog 50 #[.pointer (some ⟨rb, 0, none⟩), .int .i64 tag] w fun e w' => ∃ bo bc ao' n' c', e = .returned (.slice bo body.length bc) ∧ Row w' bo body.length bc body ∧ FCut w' rb ao' n' c' (z.drop nx.toNat) bad ∧ w.grownBy w' (some rb) ∧ w'.ownsRow w.heap.size 5 1 (.slice bo body.length bc) body.length (cB body) := by
  obtain ⟨⟨c0, c1⟩, f0, f1⟩ := cells2 h.box
  have hr := h.row
  have hs := h.small
  have hsz := hr.size
  have hle := hr.le
  have htop := hr.top
  unfold maxLen at htop
  obtain ⟨f1', _, q, rfl, hq⟩ := first_byte hr.byte hp
  have hlt : rb < w.heap.size := (Array.getElem?_eq_some_iff.1 h.box).1
  obtain ⟨b, off, rfl, hc⟩ := hr.at (by omega)
  have HH := hide h
  have HP := hide hp
  clear hp h
  go_enter Try.func50, Try.ntmps50
  go_wp2_with fail
  refine (implGet_made _ _ _ z 0 tag q true body HP.out _ hr (by omega)).mono ?_
  rintro e w1 ⟨ao1, cp1, rfl, ho1, r1, hb1⟩
  have k1 := kept_block HH.out.box hb1
  clear c0 c1 f0 f1
  obtain ⟨⟨c0, c1⟩, f0, f1⟩ := cells2 k1
  have HB := hide hb1
  have HK := hide k1
  have HO := hide ho1
  have HR := hide r1
  have HRR := hide hr
  have HC := hide hc
  clear hb1 k1 hr ho1 r1 hc
  go_wp2
  · have hg := grownTr (grownOf HB.out) (grown_set (w := w1) (rb := rb) 0 (.slice (some ⟨b, off, none⟩) 0 0))
    have HN := HH.out.next hg (row_done (zs := z.drop q) (List.drop_eq_nil_of_le (by omega)) (b := b) (off := off)) (by omega) (set_block2a HK.out _)
    have ho := own_set (own_lt HO.out (Nat.le_refl _)) (g := rb) (j := 0) (u := .slice (some ⟨b, off, none⟩) 0 0) hlt
    go_ret
    exact ⟨_, _, rfl, row_own ho HR.out.byte, ⟨_, _, _, HN⟩, hg, ho⟩
  · have hg := grownTr (grownOf HB.out) (grown_set (w := w1) (rb := rb) 0 (.slice (some ⟨b, off + q, none⟩) (n - q) (n - q)))
    have HN := HH.out.next hg (HRR.out.cut3 HC.out q) (by omega) (set_block2a HK.out _)
    have ho := own_set (own_lt HO.out (Nat.le_refl _)) (g := rb) (j := 0) (u := .slice (some ⟨b, off + q, none⟩) (n - q) (n - q)) hlt
    go_ret
    exact ⟨_, _, rfl, row_own ho HR.out.byte, ⟨_, _, _, HN⟩, hg, ho⟩

theorem cpart_any (rb : Nat) (ao : Option Addr) (n c : Nat) (z : List Int) (tag : Int) (bad : Bool) (w : World) (h : FCut w rb ao n c z bad) :
    Calls Try.prog 50 #[.pointer (some ⟨rb, 0, none⟩), .int .i64 tag] w fun e w' => ∃ bo b bc ao' n' c' z' bad', e = .returned (.slice bo b.length bc) ∧ Row w' bo b.length bc b ∧ FCut w' rb ao' n' c' z' bad' ∧ w.grownBy w' (some rb) ∧ w'.ownsRow w.heap.size 5 1 (.slice bo b.length bc) b.length (cB b) ∧ b.length ≤ 250 ∧ CutP tag z bad b z' bad' := by
  cases hm : partM z 0 tag with
  | none =>
    refine (cpart_bad rb ao n c z tag bad hm w h).mono ?_
    rintro e w1 ⟨rfl, h1, g1⟩
    exact ⟨none, [], 0, _, _, _, _, true, rfl, row_nil _, h1, g1, World.ownsRow_nil _ _ _ _, Nat.zero_le _, .inr ⟨rfl, hm⟩⟩
  | some bn =>
    obtain ⟨b, nx⟩ := bn
    have hT := part_some hm
    refine (cpart_good rb ao n c z tag bad b nx hT w h).mono ?_
    rintro e w1 ⟨bo, bc, ao', n', c', rfl, r1, h1, g1, o1⟩
    exact ⟨bo, b, bc, _, _, _, _, bad, rfl, r1, h1, g1, o1, tlv_short h.row.byte hT, .inl ⟨rfl, nx, hT, rfl⟩⟩

set_option maxRecDepth 100000 in
set_option maxHeartbeats 1000000 in
theorem cnum_good (rb : Nat) (ao : Option Addr) (n c : Nat) (z : List Int) (tag : Int) (bad : Bool) (m t : Int) (hp : numT tag z 0 = some (m, t)) (w : World) (h : FCut w rb ao n c z bad) :
    Calls Try.prog 48 #[.pointer (some ⟨rb, 0, none⟩), .int .i64 tag] w fun e w' => ∃ ao' n' c', e = .returned (.int .i64 m) ∧ FCut w' rb ao' n' c' (z.drop t.toNat) bad ∧ w.grownBy w' (some rb) := by
  obtain ⟨b, hb, hi⟩ := numT_some hp
  have hbl := tlv_short h.row.byte hb
  have HB := hide hb
  have HI := hide hi
  clear hp hb hi
  cases bad
  · go_enter Try.func48, Try.ntmps48
    go_wp2_with fail
    refine (cpart_good rb ao n c z tag _ b t HB.out _ h).mono ?_
    rintro e w1 ⟨bo, bc, ao', n', c', rfl, r1, h1, g1, -⟩
    go_wp2_with fail
    refine (implGetInt_any _ _ _ b _ r1 (by omega)).mono ?_
    rintro e w2 ⟨rfl, rfl⟩
    rw [HI.out]
    obtain ⟨⟨c0, c1⟩, f0, f1⟩ := cells2 h1.box
    have HH := hide h1
    have HG := hide g1
    clear h1 g1 r1
    go_wp2
    have hs := grown_set (w := w2) (rb := rb) 1 (Value.bool false)
    have HN := HH.out.next hs HH.out.row HH.out.small (set_block2 HH.out.box _)
    have hg := grownTr HG.out hs
    go_ret
    exact ⟨_, _, _, rfl, HN, hg⟩
  · go_enter Try.func48, Try.ntmps48
    go_wp2_with fail
    refine (cpart_good rb ao n c z tag _ b t HB.out _ h).mono ?_
    rintro e w1 ⟨bo, bc, ao', n', c', rfl, r1, h1, g1, -⟩
    go_wp2_with fail
    refine (implGetInt_any _ _ _ b _ r1 (by omega)).mono ?_
    rintro e w2 ⟨rfl, rfl⟩
    rw [HI.out]
    obtain ⟨⟨c0, c1⟩, f0, f1⟩ := cells2 h1.box
    have HH := hide h1
    have HG := hide g1
    clear h1 g1 r1
    go_wp2
    have hs := grown_set (w := w2) (rb := rb) 1 (Value.bool true)
    have HN := HH.out.next hs HH.out.row HH.out.small (set_block2 HH.out.box _)
    have hg := grownTr HG.out hs
    go_ret
    exact ⟨_, _, _, rfl, HN, hg⟩

set_option maxRecDepth 100000 in
set_option maxHeartbeats 1000000 in
theorem cnum_bad (rb : Nat) (ao : Option Addr) (n c : Nat) (z : List Int) (tag : Int) (bad : Bool) (hp : numT tag z 0 = none) (w : World) (h : FCut w rb ao n c z bad) :
    Calls Try.prog 48 #[.pointer (some ⟨rb, 0, none⟩), .int .i64 tag] w fun e w' => ∃ m ao' n' c' z', e = .returned (.int .i64 m) ∧ FCut w' rb ao' n' c' z' true ∧ w.grownBy w' (some rb) := by
  rcases numT_none hp with hno | ⟨b, nx, m, hb, hi⟩
  · have HNO := hide hno
    clear hp hno
    go_enter Try.func48, Try.ntmps48
    go_wp2_with fail
    refine (cpart_bad rb ao n c z tag bad HNO.out _ h).mono ?_
    rintro e w1 ⟨rfl, h1, g1⟩
    go_wp2_with fail
    refine (implGetInt_any _ _ _ [] _ (row_nil _) (by omega)).mono ?_
    rintro e w2 ⟨rfl, rfl⟩
    obtain ⟨⟨c0, c1⟩, f0, f1⟩ := cells2 h1.box
    have HH := hide h1
    have HG := hide g1
    clear h1 g1
    go_wp2
    have hs := grown_set (w := w2) (rb := rb) 1 (Value.bool true)
    have HN := HH.out.next hs HH.out.row HH.out.small (set_block2 HH.out.box _)
    have hg := grownTr HG.out hs
    go_ret
    exact ⟨_, _, _, _, _, rfl, HN, hg⟩
  · have hbl := tlv_short h.row.byte hb
    have HB := hide hb
    have HI := hide hi
    clear hp hb hi
    cases bad
    all_goals
      go_enter Try.func48, Try.ntmps48
      go_wp2_with fail
      refine (cpart_good rb ao n c z tag _ b nx HB.out _ h).mono ?_
      rintro e w1 ⟨bo, bc, ao', n', c', rfl, r1, h1, g1, -⟩
      go_wp2_with fail
      refine (implGetInt_any _ _ _ b _ r1 (by omega)).mono ?_
      rintro e w2 ⟨rfl, rfl⟩
      rw [HI.out]
      obtain ⟨⟨c0, c1⟩, f0, f1⟩ := cells2 h1.box
      have HH := hide h1
      have HG := hide g1
      clear h1 g1 r1
      go_wp2
      have hs := grown_set (w := w2) (rb := rb) 1 (Value.bool true)
      have HN := HH.out.next hs HH.out.row HH.out.small (set_block2 HH.out.box _)
      have hg := grownTr HG.out hs
      go_ret
      exact ⟨_, _, _, _, _, rfl, HN, hg⟩

theorem cnum_any (rb : Nat) (ao : Option Addr) (n c : Nat) (z : List Int) (tag : Int) (bad : Bool) (w : World) (h : FCut w rb ao n c z bad) :
    Calls Try.prog 48 #[.pointer (some ⟨rb, 0, none⟩), .int .i64 tag] w fun e w' => ∃ m ao' n' c' z' bad', e = .returned (.int .i64 m) ∧ FCut w' rb ao' n' c' z' bad' ∧ w.grownBy w' (some rb) ∧ CutN tag z bad m z' bad' := by
  cases hm : numT tag z 0 with
  | none =>
    refine (cnum_bad rb ao n c z tag bad hm w h).mono ?_
    rintro e w1 ⟨m, ao', n', c', z', rfl, h1, g1⟩
    exact ⟨m, _, _, _, _, true, rfl, h1, g1, .inr ⟨rfl, hm⟩⟩
  | some mn =>
    obtain ⟨m, t⟩ := mn
    refine (cnum_good rb ao n c z tag bad m t hm w h).mono ?_
    rintro e w1 ⟨ao', n', c', rfl, h1, g1⟩
    exact ⟨m, _, _, _, _, bad, rfl, h1, g1, .inl ⟨rfl, t, hm, rfl⟩⟩

theorem cutG_of {z z' : List Int} {bad bad1 bad' : Bool} {m : Int} (h0 : 0 < z.length) (h2 : z.getD 0 0 = 2) (hC : CutN 2 z bad m z' bad1) (hb : bad' = (bad1 || decide (m = 0))) : CutG z bad m z' bad' := by
  rcases hC with ⟨rfl, t, hn, rfl⟩ | ⟨rfl, hn⟩
  · by_cases hm : m = 0
    · subst hm
      exact .inr (.inr ⟨h0, h2, by rw [hb]; simp, .inr ⟨t, hn⟩⟩)
    · exact .inr (.inl ⟨h0, h2, by rw [hb]; simp [hm], hm, t, hn, rfl⟩)
  · exact .inr (.inr ⟨h0, h2, by rw [hb]; rfl, .inl hn⟩)

set_option maxRecDepth 100000 in
set_option maxHeartbeats 1000000 in
theorem cnet_any (rb : Nat) (ao : Option Addr) (n c : Nat) (z : List Int) (bad : Bool) (w : World) (h : FCut w rb ao n c z bad) :
    Calls Try.prog 49 #[.pointer (some ⟨rb, 0, none⟩)] w fun e w' => ∃ g ao' n' c' z' bad', e = .returned (.int .i64 g) ∧ FCut w' rb ao' n' c' z' bad' ∧ w.grownBy w' (some rb) ∧ CutG z bad g z' bad' := by
  obtain ⟨⟨c0, c1⟩, f0, f1⟩ := cells2 h.box
  have hsz := h.row.size
  by_cases hn : n = 0
  · have HH := hide h
    clear h
    have hn' : ((n : Int) == 0) = true := by simpa using hn
    go_enter Try.func49, Try.ntmps49
    go_wp2
    go_ret
    exact ⟨_, _, _, _, _, _, rfl, HH.out, World.grownBy.refl _ _, .inl ⟨.inl (by omega), rfl, rfl, rfl⟩⟩
  obtain ⟨b, off, rfl, hc⟩ := h.row.at (by omega)
  have cx := hc 0 (by omega)
  rw [Nat.add_zero] at cx
  have hs := h.small
  by_cases h2 : z.getD 0 0 = 2
  · rw [h2] at cx
    have HH := hide h
    clear h hc
    go_enter Try.func49, Try.ntmps49
    go_wp2_with fail
    refine (cnum_any rb _ n c z 2 bad _ HH.out).mono ?_
    rintro e w1 ⟨m, ao', n', c', z', bad', rfl, h1, g1, hC⟩
    clear c0 c1 f0 f1 cx
    obtain ⟨⟨c0, c1⟩, f0, f1⟩ := cells2 h1.box
    have HH1 := hide h1
    have HG1 := hide g1
    have HC := hide hC
    clear h1 g1 hC
    by_cases hm : m = 0
    · subst hm
      cases bad'
      · go_wp2
        have hs := grown_set (w := w1) (rb := rb) 1 (Value.bool true)
        have HN := HH1.out.next hs HH1.out.row HH1.out.small (set_block2 HH1.out.box _)
        have hg := grownTr HG1.out hs
        go_ret
        exact ⟨_, _, _, _, _, _, rfl, HN, hg, cutG_of (by omega) h2 HC.out rfl⟩
      · go_wp2
        have hs := grown_set (w := w1) (rb := rb) 1 (Value.bool true)
        have HN := HH1.out.next hs HH1.out.row HH1.out.small (set_block2 HH1.out.box _)
        have hg := grownTr HG1.out hs
        go_ret
        exact ⟨_, _, _, _, _, _, rfl, HN, hg, cutG_of (by omega) h2 HC.out rfl⟩
    · have hm' : (m == 0) = false := by simpa using hm
      cases bad'
      · go_wp2
        have hs := grown_set (w := w1) (rb := rb) 1 (Value.bool false)
        have HN := HH1.out.next hs HH1.out.row HH1.out.small (set_block2 HH1.out.box _)
        have hg := grownTr HG1.out hs
        go_ret
        exact ⟨_, _, _, _, _, _, rfl, HN, hg, cutG_of (by omega) h2 HC.out (by simp [hm])⟩
      · go_wp2
        have hs := grown_set (w := w1) (rb := rb) 1 (Value.bool true)
        have HN := HH1.out.next hs HH1.out.row HH1.out.small (set_block2 HH1.out.box _)
        have hg := grownTr HG1.out hs
        go_ret
        exact ⟨_, _, _, _, _, _, rfl, HN, hg, cutG_of (by omega) h2 HC.out rfl⟩
  · have hne : (z.getD 0 0 != 2) = true := by simpa using h2
    have HH := hide h
    clear h hc
    obtain ⟨y, hy⟩ : ∃ y, y = z.getD 0 0 := ⟨_, rfl⟩
    rw [← hy] at cx hne
    clear hy
    have H2 := hide h2
    clear h2
    go_enter Try.func49, Try.ntmps49
    go_wp2
    go_ret
    exact ⟨_, _, _, _, _, _, rfl, HH.out, World.grownBy.refl _ _, .inl ⟨.inr H2.out, rfl, rfl, rfl⟩⟩

end Go.Proofs.Ytanonfdgckanhaa
