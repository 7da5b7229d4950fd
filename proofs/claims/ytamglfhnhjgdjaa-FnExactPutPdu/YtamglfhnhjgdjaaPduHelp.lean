/-
  The law file's own helpers on binds and requests by their contracts: their size, a copy, whether two are the same.
-/
import Derived.Test.YtamglfhnhjgdjaaBindOwn
import Derived.Test.YtamglfhnhjgdjaaValOk
import Derived.Deep.RegionHeld3
namespace Go.Proofs.Ytamglfhnhjgdjaa
open Go.RowKit

theorem BI.In.le {w : World} {x : BI} (h : x.In w) : x.on ≤ maxLen ∧ x.zn ≤ maxLen := ⟨Nat.le_trans h.o.le h.o.top, Nat.le_trans h.z.le h.z.top⟩

def BI.wt (x : BI) : Nat := x.on + x.S.size + x.zn
def bulk (l : List BI) : Nat := (l.map BI.wt).sum
theorem bulk_append (a b : List BI) : bulk (a ++ b) = bulk a + bulk b := by simp [bulk]
theorem bulk_cons (x : BI) (l : List BI) : bulk (x :: l) = x.wt + bulk l := by simp [bulk]
theorem bulk_mem {l : List BI} {x : BI} (h : x ∈ l) : x.wt ≤ bulk l := by
  obtain ⟨a, b, rfl⟩ := List.append_of_mem h
  rw [bulk_append, bulk_cons]; omega
theorem take_one {α : Type} {l : List α} {i : Nat} {x : α} (h : l[i]? = some x) : l.take (i + 1) = l.take i ++ [x] := by
  obtain ⟨hl, rfl⟩ := List.getElem?_eq_some_iff.1 h
  rw [List.take_succ_eq_append_getElem hl]
theorem bulk_take (l : List BI) (i : Nat) : bulk (l.take i) ≤ bulk l := by
  conv => rhs; rw [← List.take_append_drop i l, bulk_append]
  omega
theorem bulk_next {l : List BI} {i : Nat} {x : BI} (h : l[i]? = some x) : bulk (l.take (i + 1)) = bulk (l.take i) + x.wt := by
  rw [take_one h, bulk_append]; simp [bulk]

set_option maxRecDepth 100000 in
set_option maxHeartbeats 400000 in
theorem szI_any (ao : Option Addr) (l c : Nat) (left : Int) (w : World) (hl : l ≤ maxLen) (h0 : 0 ≤ left) (h1 : left ≤ 1048576) :
    Calls Try.prog 46 #[.slice ao l c, .int .i64 left] w fun e w' => e = .returned (.int .i64 (if (l : Int) ≤ left then left - l else -1)) ∧ w' = w := by
  unfold maxLen at hl
  go_enter Try.func46, Try.ntmps46
  by_cases h : (l : Int) ≤ left
  · rw [if_pos (by omega)]
    go_wp2
    go_ret
    exact ⟨rfl, rfl⟩
  · rw [if_neg h]
    go_wp2
    go_ret
    exact ⟨rfl, rfl⟩

set_option maxRecDepth 100000 in
set_option maxHeartbeats 1000000 in
theorem szBind_any (x : BI) (left : Int) (w : World) (hx : x.In w) (h0 : 0 ≤ left) (h1 : left ≤ 1048576) :
    Calls Try.prog 30 #[.agg #[.slice x.oa x.on x.oc, .int .i64 x.K, .int .i64 x.N, .string x.S, .slice x.za x.zn x.zc], .int .i64 left] w fun e w' =>
      e = .returned (.int .i64 (if (x.wt : Int) ≤ left then left - x.wt else -1)) ∧ Below w.heap.size w w' := by
  have hle := hx.le
  have hs := hx.s
  have ew : (x.wt : Int) = x.on + x.S.size + x.zn := by unfold BI.wt; omega
  have EW := hide ew
  clear ew
  by_cases h : (x.on : Int) ≤ left
  · by_cases h2 : (x.S.size : Int) + x.zn ≤ left - x.on
    · rw [if_pos (by rw [EW.out]; omega), EW.out]
      go_enter Try.func30, Try.ntmps30
      go_wp2_with fail
      refine (szI_any x.oa x.on x.oc left _ hle.1 h0 h1).mono ?_
      rintro e w1 ⟨rfl, rfl⟩
      rw [if_pos (by omega)]
      go_wp2_with fail
      refine (szVal_any x.K x.N x.S x.za x.zn x.zc (left - x.on) _ hs hle.2 (by omega) (by omega)).mono ?_
      rintro e w1 ⟨rfl, hb⟩
      rw [if_pos (by omega)]
      go_wp2
      go_ret
      exact ⟨ret_int (by omega), (below_one w _).trans (hb.mono (below_one w _).size)⟩
    · rw [if_neg (by rw [EW.out]; omega)]
      go_enter Try.func30, Try.ntmps30
      go_wp2_with fail
      refine (szI_any x.oa x.on x.oc left _ hle.1 h0 h1).mono ?_
      rintro e w1 ⟨rfl, rfl⟩
      rw [if_pos (by omega)]
      go_wp2_with fail
      refine (szVal_any x.K x.N x.S x.za x.zn x.zc (left - x.on) _ hs hle.2 (by omega) (by omega)).mono ?_
      rintro e w1 ⟨rfl, hb⟩
      rw [if_neg (by omega)]
      go_wp2
      go_ret
      exact ⟨rfl, (below_one w _).trans (hb.mono (below_one w _).size)⟩
  · rw [if_neg (by rw [EW.out]; omega)]
    go_enter Try.func30, Try.ntmps30
    go_wp2_with fail
    refine (szI_any x.oa x.on x.oc left _ hle.1 h0 h1).mono ?_
    rintro e w1 ⟨rfl, rfl⟩
    rw [if_neg (by omega)]
    go_wp2
    go_ret
    exact ⟨rfl, below_one w _⟩

set_option maxRecDepth 100000 in
set_option maxHeartbeats 1000000 in
theorem szBinds_any (ao : Option Addr) (n c : Nat) (l : List BI) (left : Int) (w : World) (hl : BRow w ao n c l) (h0 : 0 ≤ left) (h1 : left ≤ 1048576) :
    Calls Try.prog 11 #[.slice ao n c, .int .i64 left] w fun e w' =>
      e = .returned (.int .i64 (if ((n + bulk l : Nat) : Int) ≤ left then left - ((n + bulk l : Nat) : Int) else -1)) ∧ Below w.heap.size w w' := by
  have hs := hl.size
  have htop := Nat.le_trans hl.le hl.top
  unfold maxLen at htop
  generalize hr : (if ((n + bulk l : Nat) : Int) ≤ left then left - ((n + bulk l : Nat) : Int) else -1) = r
  have HR := hide hr
  clear hr
  by_cases hn : (n : Int) ≤ left
  · go_enter Try.func11, Try.ntmps11
    go_wp2
    go_loopw [1, 5] (fun m i wr => ∃ k : Nat, k ≤ n ∧ i = .int .i64 k ∧ ((n + bulk (l.take k) : Nat) : Int) ≤ left ∧ m = .int .i64 (left - ((n + bulk (l.take k) : Nat) : Int)) ∧ Below w.heap.size w wr) (fun _ i _ => n - (intOf i).toNat)
    case atStart => exact ⟨0, Nat.zero_le _, rfl, by simpa [bulk] using hn, by simp [bulk], Below.refl _ _⟩
    case round =>
      obtain ⟨k, hk, rfl, hbk, rfl, hb⟩ := hrel
      by_cases hlt : k < n
      · obtain ⟨x, b, off, hx, rfl, hat, hin⟩ := (hl.below hb).at k hlt
        have en := bulk_next hx
        have eb := bulk_take l (k + 1)
        have EN := hide en
        have EB := hide eb
        have HB := hide hb
        clear en eb hb
        obtain ⟨a0, a1, a2, a3, a4⟩ := hat
        go_wp2_with fail
        refine (szBind_any x (left - ((n + bulk (l.take k) : Nat) : Int)) _ hin (by omega) (by omega)).mono ?_
        rintro e w1 ⟨rfl, hb1⟩
        have b1 := HB.out.trans (hb1.mono HB.out.size)
        by_cases h2 : (x.wt : Int) ≤ left - ((n + bulk (l.take k) : Nat) : Int)
        · rw [if_pos (by omega)]
          have B1 := hide b1
          clear hb1 b1 a0 a1 a2 a3 a4
          go_wp2
          go_roundw
          case rel => exact ⟨k + 1, by omega, by go_num, by rw [EN.out]; omega, by rw [EN.out]; go_num, B1.out⟩
          case measure => simp [intOf]; omega
        · rw [if_neg (by omega)]
          go_wp2
          go_ret
          exact ⟨ret_int (by rw [← HR.out, if_neg (by have := EN.out; have := EB.out; omega)]), b1⟩
      · have hk' : k = n := by omega
        subst hk'
        rw [List.take_of_length_le (by omega)] at hbk ⊢
        go_wp2
        go_ret
        exact ⟨ret_int (by rw [← HR.out, if_pos hbk]), hb⟩
  · go_enter Try.func11, Try.ntmps11
    go_wp2
    go_ret
    exact ⟨ret_int (by rw [← HR.out, if_neg (by omega)]), Below.refl _ _⟩

/-- A bind that was just made: its lists are the call's own, in blocks of their own. -/
structure BNew (w : World) (base : Nat) (x : BI) : Prop where
  own : BOwn w base x
  nd : x.blks.Nodup

theorem blks_new {w1 w2 : World} {base : Nat} {x : BI} {s : Nat} {o z : List Value} (ho : w1.ownsRow base 3 1 (.slice x.oa x.on x.oc) x.on o) (hz : w2.ownsRow s 3 1 (.slice x.za x.zn x.zc) x.zn z) (hs : w1.heap.size ≤ s) : x.blks.Nodup := by
  have one : ∀ ao : Option Addr, (blkL ao).Nodup := by intro ao; cases ao <;> simp [blkL]
  unfold BI.blks
  rw [List.nodup_append]
  refine ⟨one _, one _, ?_⟩
  intro a ha b hb e
  subst e
  have h1 := (ho.lt a (mem_blkL.2 ha)).2
  have h2 := (hz.lt a (mem_blkL.2 hb)).1
  omega

end Go.Proofs.Ytamglfhnhjgdjaa
