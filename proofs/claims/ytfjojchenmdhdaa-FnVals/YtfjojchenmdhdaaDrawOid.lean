/-
  Names that are drawn of a cursor: right ones, and whatever ones.
-/
import Derived.Test.YtfjojchenmdhdaaDrawb
import Derived.Test.YtfjojchenmdhdaaIHelp
namespace Go.Proofs.Ytfjojchenmdhdaa
open Go.RowKit

theorem Went.ownI {a b : World} {C : Nat} {a0 : Option Addr} {l0 c0 : Nat} {z0 : List Int} (h : Went a b C a0 l0 c0 z0) {base : Nat} {v : Value} {n : Nat} {xs : List Value} (ho : a.ownsRow base 3 1 v n xs) (hC : C < base) : b.ownsRow base 3 1 v n xs :=
  own_above ho h.grown (by intro k hk; cases hk; exact hC)

def OkNs (zs : List Int) : Prop := ∀ z ∈ zs, 0 ≤ z ∧ z ≤ 100000

theorem OkNs.i64 {zs : List Int} (h : OkNs zs) : I64s zs := fun z hz => by have := h z hz; omega
theorem OkNs.snoc {zs : List Int} {x : Int} (h : OkNs zs) (hx : 0 ≤ x ∧ x ≤ 100000) : OkNs (zs ++ [x]) := by
  intro z hz
  rcases List.mem_append.1 hz with h1 | h1
  · exact h z h1
  · simp at h1; rw [h1]; exact hx

/-- A list of numbers that was drawn: how long it may be, what it is. -/
def DrawnI (w w' : World) (C : Nat) (a0 : Option Addr) (l0 c0 : Nat) (z0 : List Int) (lo hi : Nat) (p : List Int → Prop) (e : Ending) : Prop :=
  ∃ ao n cap zs, e = .returned (.slice ao n cap) ∧ lo ≤ n ∧ n ≤ hi ∧ zs.length = n ∧ p zs ∧ w'.ownsRow w.heap.size 3 1 (.slice ao n cap) n (cI zs) ∧ Went w w' C a0 l0 c0 z0

set_option maxRecDepth 100000 in
set_option maxHeartbeats 1000000 in
theorem oidDraw_any (C : Nat) (a0 : Option Addr) (l0 c0 : Nat) (z0 : List Int) (w : World) (hc : Cur w C a0 l0 c0 z0) :
    Calls Try.prog 71 #[.pointer (some ⟨C, 0, none⟩)] w fun e w' => DrawnI w w' C a0 l0 c0 z0 1 6 OkNs e := by
  have hlt := hc.lt
  have hst := Went.start hc ((Below.refl w.heap.size w).alloc (Nat.le_refl _) (.cells #[] 3))
  have hown0 : (w.alloc (.cells #[] 3)).ownsRow w.heap.size 3 1 (.slice (some ⟨w.heap.size, 0, none⟩) 0 0) 0 (cI []) := World.ownsRow_lit w #[] 0 (Nat.le_refl _) (Nat.zero_le _) rfl
  go_enter Try.func71, Try.ntmps71
  go_wp2_with fail
  refine (below_any C a0 l0 c0 z0 6 _ hst.cur (by omega)).mono ?_
  rintro e w1 ⟨x, rfl, hx0, hx1, hx2, went1⟩
  have hx6 := hx1 (by omega)
  obtain ⟨m, rfl⟩ : ∃ m : Nat, x = m := ⟨x.toNat, by omega⟩
  have how1 := went1.ownI hown0 hlt
  have wn1 := hst.trans went1
  clear hx1 hx2 hown0 hst went1
  go_wp2
  go_loopw [3, 4] (fun v i wr => ∃ (k j : Nat) (zs : List Int) (ao : Option Addr) (cap : Nat), k + j = 1 + m ∧ i = .int .i64 j ∧ v = .slice ao k cap ∧ zs.length = k ∧ OkNs zs ∧ wr.ownsRow w.heap.size 3 1 (.slice ao k cap) k (cI zs) ∧ Went w wr C a0 l0 c0 z0) (fun _ i _ => (intOf i).toNat)
  case atStart => exact ⟨0, 1 + m, [], _, _, by omega, by simp, rfl, rfl, (by intro z hz; cases hz), how1, wn1⟩
  case round =>
    obtain ⟨k, j, zs, ao, cap, hk, rfl, rfl, hz, hok, how, went⟩ := hrel
    clear how1 wn1
    by_cases hj : 0 < j
    · go_wp2_with fail
      refine (pick_any C a0 l0 c0 z0 [0, 1, 2, 3, 127, 128, 16384, 100000] _ _ wr went.cur rfl rfl (by simp) (by simp)).mono ?_
      rintro e w2 ⟨y, hy, rfl, went2⟩
      have hy' : 0 ≤ y ∧ y ≤ 100000 := by simp at hy; omega
      clear hy
      have how2 := went2.ownI how hlt
      have wn2 := went.trans went2
      have hs2 := wn2.grown.size
      clear how went went2
      go_wp2_with (at_builtin; refine wpList_append_irow _ rfl _ _ 24 rfl w.heap.size Try.underlying24 Try.infoI64 _ k zs rfl (how2.alloc _) hok.i64 _ 1 1 [y] rfl (irow_one w2 y (by omega)) (by omega) (by simp; omega) ?_)
      intro ao3 cp3 w3 how3 row3 hb3
      have wn3 : Went w w3 C a0 l0 c0 z0 := (wn2.made ((Below.refl _ _).alloc (Nat.le_refl _) _)).madeAt hb3 hlt (Nat.le_refl _)
      clear how2 hb3 row3
      go_wp2
      go_roundw
      case rel => exact ⟨k + 1, j - 1, zs ++ [y], ao3, cp3, by omega, by go_num, rfl, by simp; omega, hok.snoc hy', how3, wn3⟩
      case measure => simp [intOf]; omega
    · have hj0 : ¬ (0 : Int) < j := by omega
      go_wp2
      go_ret
      exact ⟨ao, k, cap, zs, rfl, by omega, by omega, hz, hok, how, went⟩

def sliceLen : Value → Nat
  | .slice _ n _ => n
  | _ => 0

theorem lit_own (w : World) (base : Nat) (h : base ≤ w.heap.size) : (w.alloc (.cells #[] 3)).ownsRow base 3 1 (.slice (some ⟨w.heap.size, 0, none⟩) 0 0) 0 (cI []) := World.ownsRow_lit w #[] 0 h (Nat.zero_le _) rfl

theorem i64_snoc {zs : List Int} {x : Int} (h : I64s zs) (hx : -9223372036854775808 ≤ x ∧ x ≤ 9223372036854775807) : I64s (zs ++ [x]) := by
  intro z hz
  rcases List.mem_append.1 hz with h1 | h1
  · exact h z h1
  · simp at h1; rw [h1]; exact hx

theorem i64_set {zs : List Int} {x : Int} (h : I64s zs) (hx : -9223372036854775808 ≤ x ∧ x ≤ 9223372036854775807) : I64s (zs.set 0 x) := by
  intro z hz
  rcases List.mem_or_eq_of_mem_set hz with h1 | h1
  · exact h z h1
  · rw [h1]; exact hx

set_option maxRecDepth 100000 in
set_option maxHeartbeats 1000000 in
theorem oidAny_any (C : Nat) (a0 : Option Addr) (l0 c0 : Nat) (z0 : List Int) (w : World) (hc : Cur w C a0 l0 c0 z0) :
    Calls Try.prog 64 #[.pointer (some ⟨C, 0, none⟩)] w fun e w' => DrawnI w w' C a0 l0 c0 z0 0 11 I64s e := by
  have hlt := hc.lt
  go_enter Try.func64, Try.ntmps64
  go_wp2_with fail
  refine (oidDraw_any C a0 l0 c0 z0 _ hc).mono ?_
  rintro e w1 ⟨ao, n, cap, zs, rfl, hn1, hn6, hz, hok, how1, went1⟩
  have hs1 := went1.grown.size
  go_wp2_with fail
  refine (below_any C a0 l0 c0 z0 10 _ went1.cur (by omega)).mono ?_
  rintro e w2 ⟨x, rfl, hx0, hx1, hx2, went2⟩
  have how2 := went2.ownI how1 hlt
  have wn2 := went1.trans went2
  have hs2 := wn2.grown.size
  clear how1 went1 went2 hx1 hx2
  by_cases e0 : x = 0
  · subst e0
    go_wp2
    go_ret
    exact ⟨_, 0, _, [], rfl, Nat.le_refl _, by omega, rfl, (by intro z hz; cases hz), lit_own w2 _ hs2, wn2.made ((Below.refl _ _).alloc (Nat.le_refl _) _)⟩
  have x0 : (x == 0) = false := by simp [e0]
  by_cases e1 : x = 1
  · subst e1
    go_wp2_with fail
    refine (pick_any C a0 l0 c0 z0 [-1, 100001] _ _ w2 wn2.cur rfl rfl (by simp) (by simp)).mono ?_
    rintro e w3 ⟨y, hy, rfl, went3⟩
    have hy' : -1 ≤ y ∧ y ≤ 100001 := by simp at hy; omega
    clear hy
    have how3 := went3.ownI how2 hlt
    have wn3 := wn2.trans went3
    clear how2 wn2 went3
    obtain ⟨g, rfl, hg⟩ : ∃ g, ao = some ⟨g, 0, none⟩ ∧ w.heap.size ≤ g := by
      rcases how3.2 with ⟨h, h0⟩ | ⟨g, cap', cur, h, hg, _⟩
      · omega
      · cases h; exact ⟨g, rfl, hg⟩
    have cf := how3.frozenAt 0
    obtain ⟨u, cu⟩ : ∃ u, w3.cell? ⟨g, 0, none⟩ = some u := by
      rw [how3.cellAt 0 (by omega)]
      exact ⟨_, List.getElem?_eq_getElem (by rw [cI_length]; omega)⟩
    have R := (how3.stored 0 (.int .i64 y)).1
    have hset : (cI zs).set 0 (.int .i64 y) = cI (zs.set 0 y) := by simp [cI, List.map_set]
    rw [hset] at R
    have hb4 := (Below.refl w.heap.size w3).setCell (p := ⟨g, 0, none⟩) hg (.int .i64 y)
    clear how3 hset
    go_wp2
    go_ret
    exact ⟨_, n, cap, zs.set 0 y, rfl, by omega, by omega, by simp [hz], i64_set hok.i64 (by omega), R, wn3.madeAt hb4 hlt (Nat.le_refl _)⟩
  have x1 : (x == 1) = false := by simp [e1]
  by_cases e2 : x = 2
  · subst e2
    go_wp2
    go_loopw [3] (fun v wr => ∃ (k : Nat) (ys : List Int) (ao : Option Addr) (cap : Nat), k ≤ 11 ∧ v = .slice ao k cap ∧ ys.length = k ∧ I64s ys ∧ wr.ownsRow w.heap.size 3 1 (.slice ao k cap) k (cI ys) ∧ Went w wr C a0 l0 c0 z0) (fun v _ => 11 - sliceLen v)
    case atStart => exact ⟨n, zs, ao, cap, by omega, rfl, hz, hok.i64, how2, wn2⟩
    case round =>
      obtain ⟨k, ys, ao, cap, hk, rfl, hyl, hyi, how, went⟩ := hrel
      clear how2 wn2
      go_wp2_with fail
      refine (below_any C a0 l0 c0 z0 2 _ went.cur (by omega)).mono ?_
      rintro e w3 ⟨y, rfl, hy0, hy1, hy2, went3⟩
      have hy1 := hy1 (by omega)
      have how3 := went3.ownI how hlt
      have wn3 := went.trans went3
      have hs3 := wn3.grown.size
      clear how went went3
      by_cases hky : (k : Int) < 10 + y
      · go_wp2_with (at_builtin; refine wpList_append_irow _ rfl _ _ 24 rfl w.heap.size Try.underlying24 Try.infoI64 _ k ys rfl (how3.alloc _) hyi _ 1 1 [1] rfl (irow_one w3 1 (by omega)) (by omega) (by simp; omega) ?_)
        intro ao4 cp4 w4 how4 row4 hb4
        have wn4 : Went w w4 C a0 l0 c0 z0 := (wn3.made ((Below.refl _ _).alloc (Nat.le_refl _) _)).madeAt hb4 hlt (Nat.le_refl _)
        clear how3 hb4 row4
        go_wp2
        go_roundw
        case rel => exact ⟨k + 1, ys ++ [1], ao4, cp4, by omega, rfl, by simp; omega, i64_snoc hyi (by omega), how4, wn4⟩
        case measure => simp [sliceLen]; omega
      · go_wp2
        go_ret
        exact ⟨ao, k, cap, ys, rfl, by omega, by omega, hyl, hyi, how3, wn3⟩
  · have x2 : (x == 2) = false := by simp [e2]
    go_wp2
    go_ret
    exact ⟨ao, n, cap, zs, rfl, by omega, by omega, hz, hok.i64, how2, wn2⟩

theorem IRow.belowAt {w3 w w' : World} {ao : Option Addr} {len cap : Nat} {zs : List Int} (h : IRow w ao len cap zs) (h3 : IRow w3 ao len cap zs) (hb : Below w3.heap.size w w') : IRow w' ao len cap zs where
  size := h.size
  le := h.le
  top := h.top
  nil := h.nil
  byte := h.byte
  cell := by
    rcases h.cell with h0 | ⟨b, off, ha, hc⟩
    · exact .inl h0
    · refine .inr ⟨b, off, ha, fun i hi => ?_⟩
      rcases h3.cell with h0 | ⟨b', off', ha', hc'⟩
      · omega
      · rw [ha] at ha'
        cases ha'
        have h1 : b < w3.heap.size := block_lt (hc' i hi)
        rw [hb.cell (p := ⟨b, off + i, none⟩) h1]
        exact hc i hi

/-- Two lists that were drawn of the same bytes. -/
def DrawnTwo (w w' : World) (e : Ending) : Prop :=
  ∃ ao1 n1 c1 z1 ao2 n2 c2 z2, e = .returned (.tuple #[.slice ao1 n1 c1, .slice ao2 n2 c2]) ∧ n1 ≤ 12 ∧ n2 ≤ 12 ∧ IRow w' ao1 n1 c1 z1 ∧ IRow w' ao2 n2 c2 z2 ∧ Below w.heap.size w w'

end Go.Proofs.Ytfjojchenmdhdaa
