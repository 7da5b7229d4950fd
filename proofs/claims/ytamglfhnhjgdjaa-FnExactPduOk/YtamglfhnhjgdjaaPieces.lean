/-
  putPieces by its contract: it answers new memory that holds the bytes of its first argument and then those of each piece, in order.
-/
import Derived.Test.YtamglfhnhjgdjaaHelp
namespace Go.Proofs.Ytamglfhnhjgdjaa
open Go.RowKit

/-- A piece: where it lies, its length, its capacity, its bytes. -/
structure Piece where
  ao : Option Addr
  len : Nat
  cap : Nat
  zs : List Int

def noPiece : Piece := ⟨none, 0, 0, []⟩

/-- How many bytes the first k pieces have. -/
def tot (ps : List Piece) (k : Nat) : Nat := ((ps.take k).map Piece.len).sum
/-- The bytes of the first k pieces. -/
def flat (ps : List Piece) (k : Nat) : List Int := ((ps.take k).map Piece.zs).flatten

theorem take_snoc (ps : List Piece) (k : Nat) (h : k < ps.length) : ps.take (k + 1) = ps.take k ++ [ps.getD k noPiece] := by
  rw [List.take_succ_eq_append_getElem h]; simp [h]
theorem tot_succ (ps : List Piece) (k : Nat) (h : k < ps.length) : tot ps (k + 1) = tot ps k + (ps.getD k noPiece).len := by
  unfold tot; rw [take_snoc ps k h]; simp
theorem flat_succ (ps : List Piece) (k : Nat) (h : k < ps.length) : flat ps (k + 1) = flat ps k ++ (ps.getD k noPiece).zs := by
  unfold flat; rw [take_snoc ps k h]; simp
theorem tot_le (ps : List Piece) (k : Nat) : tot ps k ≤ tot ps ps.length := by
  unfold tot
  rw [List.take_length]
  have := List.take_append_drop k ps
  conv => rhs; rw [← this, List.map_append, List.sum_append]
  omega

/-- A list of pieces that lie in memory. -/
structure Pieces (w : World) (po : Option Addr) (m c : Nat) (ps : List Piece) : Prop where
  size : ps.length = m
  small : m ≤ 1000
  cell : m = 0 ∨ ∃ b off, po = some ⟨b, off, none⟩ ∧ ∀ i, i < m → w.cell? ⟨b, off + i, none⟩ = some (.slice (ps.getD i noPiece).ao (ps.getD i noPiece).len (ps.getD i noPiece).cap)
  row : ∀ i, i < m → Row w (ps.getD i noPiece).ao (ps.getD i noPiece).len (ps.getD i noPiece).cap (ps.getD i noPiece).zs

set_option maxRecDepth 100000 in
set_option maxHeartbeats 1000000 in
theorem pieces_any (a1 : Option Addr) (l1 c1 : Nat) (z1 : List Int) (po : Option Addr) (m c : Nat) (ps : List Piece) (w : World) (h1 : Row w a1 l1 c1 z1) (hp : Pieces w po m c ps) (hs : l1 + tot ps m ≤ 16777216) :
    Calls Try.prog 41 #[.slice a1 l1 c1, .slice po m c] w fun e w' => e = .returned (.slice (some ⟨w.heap.size, 0, none⟩) (l1 + tot ps m) (l1 + tot ps m)) ∧
      w'.ownsRow w.heap.size 5 1 (.slice (some ⟨w.heap.size, 0, none⟩) (l1 + tot ps m) (l1 + tot ps m)) (l1 + tot ps m) (cB (z1 ++ flat ps m)) ∧ Below w.heap.size w w' := by
  obtain ⟨i0, hi, hz0, hz1, hz2⟩ := info_parts Try.infoU8
  have s1 := h1.size
  have hm := hp.small
  have hps := hp.size
  have htm : ∀ k, tot ps k ≤ tot ps m := fun k => by rw [← hps]; exact tot_le ps k
  have HTM : Hid (∀ k, tot ps k ≤ tot ps m) := htm
  clear htm
  go_enter Try.func41, Try.ntmps41
  go_wp2
  go_loop [5, 15] (fun s i => ∃ k : Nat, k ≤ m ∧ i = .int .i64 k ∧ s = .int .i64 ((l1 + tot ps k : Nat) : Int)) (fun _ i => m - (intOf i).toNat)
  case atStart => exact ⟨0, Nat.zero_le _, rfl, by simp [tot]⟩
  case round =>
    obtain ⟨k, hk, rfl, rfl⟩ := hrel
    by_cases hlt : k < m
    · rcases hp.cell with h0 | ⟨b, off, rfl, hc⟩
      · omega
      have cx := hc k hlt
      have ht := tot_succ ps k (by omega)
      have h2 := HTM.out (k + 1)
      have HT : Hid (tot ps (k + 1) = tot ps k + (ps.getD k noPiece).len) := ht
      rw [ht] at h2
      generalize hx : ps.getD k noPiece = p at cx h2
      have HX : Hid (ps.getD k noPiece = p) := hx
      clear hx ht hc
      go_wp2
      go_round
      case rel => exact ⟨k + 1, by omega, by go_num, by rw [HT.out, HX.out]; go_num⟩
      case measure => simp [intOf]; omega
    · have hk' : k = m := by omega
      subst hk'
      go_wp2_with (at_make; refine wpList_make_own _ rfl _ _ 37 rfl w.heap.size 5 i0 (.int .u8 0) 1 Try.underlying37 hi hz0 hz1 .i64 .i64 _ (l1 + tot ps k) rfl rfl rfl ?c1 ?c2 ?c3 ?_)
      case c1 => omega
      case c2 => unfold maxLen; omega
      intro w1 how1 hgr1
      have hb1 : Below w.heap.size w w1 := (Below.refl _ _).grown hgr1 (Nat.le_refl _) (by intro k hk; cases hk)
      have hr1 := h1.below hb1
      clear hgr1
      go_wp2_with (at_builtin; refine wpList_append_fits_any _ rfl _ _ 37 rfl w.heap.size 5 i0 1 Try.underlying37 hi hz1 w.heap.size 0 (l1 + tot ps k) [] rfl how1 a1 l1 c1 (cB z1) rfl ?d1 ?d2 ?d3 ?d4 ?d5 ?_)
      case d1 => rw [cB_length]; omega
      case d2 => exact hr1.none_zero
      case d3 => exact fun ad ha j u hu => hr1.news ad ha j u hu
      case d4 => exact cB_oneCell z1
      case d5 => omega
      intro w2 how2 hgr2
      have hb2 : Below w.heap.size w w2 := hb1.grown hgr2 (by have := hb1.size; omega) (by intro k hk; cases hk; exact Nat.le_refl _)
      clear how1 hgr2 hb1 hr1
      go_wp2
      go_loopw [8, 30] (fun v i wr => ∃ j : Nat, j ≤ k ∧ i = .int .i64 j ∧ v = .slice (some ⟨w.heap.size, 0, none⟩) (l1 + tot ps j) (l1 + tot ps k) ∧ wr.ownsRow w.heap.size 5 1 (.slice (some ⟨w.heap.size, 0, none⟩) (l1 + tot ps j) (l1 + tot ps k)) (l1 + tot ps j) (cB (z1 ++ flat ps j)) ∧ Below w.heap.size w wr) (fun _ i _ => k - (intOf i).toNat)
      case atStart => exact ⟨0, Nat.zero_le _, rfl, by simp [tot], by simpa [tot, flat] using how2, hb2⟩
      case round =>
        obtain ⟨j, hj, rfl, rfl, how, hb⟩ := hrel
        by_cases hlj : j < k
        · rcases hp.cell with h0 | ⟨b, off, rfl, hc⟩
          · omega
          have cx : wr.cell? ⟨b, off + j, none⟩ = some (.slice (ps.getD j noPiece).ao (ps.getD j noPiece).len (ps.getD j noPiece).cap) := by rw [hb.cell (block_lt (hc j hlj))]; exact hc j hlj
          have rx := (hp.row j hlj).below hb
          have ht := tot_succ ps j (by omega)
          have hf := flat_succ ps j (by omega)
          have h2 := HTM.out (j + 1)
          rw [ht] at h2
          generalize hx : ps.getD j noPiece = p at cx h2 rx ht hf
          have HT : Hid (tot ps (j + 1) = tot ps j + p.len) := ht
          have HF : Hid (flat ps (j + 1) = flat ps j ++ p.zs) := hf
          clear hx ht hc hf
          go_wp2_with (at_builtin; refine wpList_append_fits_any _ rfl _ _ 37 rfl w.heap.size 5 i0 1 Try.underlying37 hi hz1 w.heap.size (l1 + tot ps j) (l1 + tot ps k) _ rfl how p.ao p.len p.cap (cB p.zs) rfl ?e1 ?e2 ?e3 ?e4 ?e5 ?_)
          case e1 => rw [cB_length, rx.size]; omega
          case e2 => exact rx.none_zero
          case e3 => exact fun ad ha j u hu => rx.news ad ha j u hu
          case e4 => exact cB_oneCell _
          case e5 => omega
          intro w3 how3 hgr3
          have hb3 : Below w.heap.size w w3 := hb.grown hgr3 (by have := hb.size; omega) (by intro k hk; cases hk; exact Nat.le_refl _)
          rw [← cB_append, List.append_assoc, ← HF.out, Nat.add_assoc, ← HT.out] at how3
          clear hgr3 how hb
          go_wp2
          go_roundw
          case rel => exact ⟨j + 1, by omega, by go_num, by rw [HT.out, Nat.add_assoc], how3, hb3⟩
          case measure => simp [intOf]; omega
        · have hj' : j = k := by omega
          subst hj'
          go_wp2
          go_ret
          exact ⟨rfl, how, hb⟩

/-- Pieces that a call lays side by side in a new block. -/
theorem pieces_lit (w : World) (B : Nat) (ps : List Piece) (n : Nat) (e : TypeId) (hB : B = w.heap.size) (hn : ps.length = n) (hs : n ≤ 1000) (hr : ∀ i, i < n → Row w (ps.getD i noPiece).ao (ps.getD i noPiece).len (ps.getD i noPiece).cap (ps.getD i noPiece).zs) :
    Pieces (w.alloc (.cells (ps.map fun p => Value.slice p.ao p.len p.cap).toArray e)) (some ⟨B, 0, none⟩) n n ps where
  size := hn
  small := hs
  cell := .inr ⟨B, 0, rfl, fun i hi => by
    subst hB
    have hi' : i < ps.length := by omega
    rw [Nat.zero_add]
    have : (w.alloc (.cells (ps.map fun p => Value.slice p.ao p.len p.cap).toArray e)).cell? ⟨w.heap.size, i, none⟩ = (ps.map fun p => Value.slice p.ao p.len p.cap).toArray[i]? := by simp
    rw [this]
    simp [hi']⟩
  row := fun i hi => (hr i hi).below ((Below.refl _ _).alloc (Nat.le_refl _) _)

end Go.Proofs.Ytamglfhnhjgdjaa
