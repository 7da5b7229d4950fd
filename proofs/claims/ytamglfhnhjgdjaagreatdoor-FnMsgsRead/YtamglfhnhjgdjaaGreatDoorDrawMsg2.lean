/-
  Bytes of a drawn message: the region of DrawGetMsg that draws its order, state by state.
-/
import Derived.Test.YtamglfhnhjgdjaaGreatDoorDrawMsg
import Derived.Test.YtamglfhnhjgdjaaGreatDoorQI
import Derived.Test.YtamglfhnhjgdjaaGreatDoorQL
import Derived.Deep.RegionHeldLaw
namespace Go.Proofs.YtamglfhnhjgdjaaGreatDoor
open Go.RowKit

/-- The operations of the region. -/
def dOps : Array Oper := #[{ dst := some 16, op := Op.move (Operand.tmp 5), type := 9, pos := "l05_msg.go:48", after := #[], guard := none },
  { dst := some 17, op := Op.buildSlice 22 0 #[], type := 22, pos := "l05_msg.go:48", after := #[], guard := none },
  { dst := some 18, op := Op.buildSlice 22 0 #[], type := 22, pos := "l05_msg.go:48", after := #[], guard := none },
  { dst := some 19, op := Op.move (Operand.tmp 4), type := 39, pos := "l05_msg.go:48", after := #[], guard := none },
  { dst := some 20, op := Op.call { callee := Callee.value (Operand.func 31), args := #[Operand.tmp 19, Operand.const (Value.int IntKind.i64 3)], argTypes := #[39, 3] }, type := 3, pos := "l05_msg.go:48", after := #[{ on := 3, ground := Ground.data }], guard := none },
  { dst := some 21, op := Op.call { callee := Callee.value (Operand.func 25), args := #[Operand.tmp 20], argTypes := #[3] }, type := 22, pos := "l05_msg.go:48", after := #[{ on := 4, ground := Ground.data }, { on := 4, ground := Ground.chain }], guard := none },
  { dst := some 22, op := Op.call { callee := Callee.value (Operand.func 24), args := #[Operand.tmp 18, Operand.const (Value.int IntKind.i64 2), Operand.tmp 21], argTypes := #[22, 3, 22] }, type := 22, pos := "l05_msg.go:48", after := #[{ on := 2, ground := Ground.data }, { on := 5, ground := Ground.data }, { on := 5, ground := Ground.chain }], guard := none },
  { dst := some 23, op := Op.buildSlice 22 4 #[(0, Operand.const (Value.int IntKind.u8 121)), (1, Operand.const (Value.int IntKind.u8 97)), (2, Operand.const (Value.int IntKind.u8 114)), (3, Operand.const (Value.int IntKind.u8 100))], type := 22, pos := "l05_msg.go:48", after := #[], guard := none },
  { dst := some 24, op := Op.convert 22 22 (Operand.tmp 23), type := 22, pos := "l05_msg.go:48", after := #[{ on := 7, ground := Ground.data }], guard := none },
  { dst := some 25, op := Op.call { callee := Callee.value (Operand.func 24), args := #[Operand.tmp 22, Operand.const (Value.int IntKind.i64 4), Operand.tmp 24], argTypes := #[22, 3, 22] }, type := 22, pos := "l05_msg.go:48", after := #[{ on := 6, ground := Ground.data }, { on := 8, ground := Ground.data }, { on := 6, ground := Ground.chain }], guard := none },
  { dst := some 26, op := Op.load 26 (Operand.tmp 6), type := 26, pos := "l05_msg.go:48", after := #[], guard := none },
  { dst := some 27, op := Op.call { callee := Callee.value (Operand.func 23), args := #[Operand.tmp 26], argTypes := #[26] }, type := 22, pos := "l05_msg.go:48", after := #[{ on := 10, ground := Ground.data }, { on := 9, ground := Ground.chain }], guard := none },
  { dst := some 28, op := Op.call { callee := Callee.builtin Builtin.append, args := #[Operand.tmp 25, Operand.tmp 27], argTypes := #[22, 22] }, type := 22, pos := "l05_msg.go:48", after := #[{ on := 9, ground := Ground.data }, { on := 11, ground := Ground.data }, { on := 11, ground := Ground.chain }], guard := none },
  { dst := some 29, op := Op.call { callee := Callee.value (Operand.func 24), args := #[Operand.tmp 17, Operand.const (Value.int IntKind.i64 48), Operand.tmp 28], argTypes := #[22, 3, 22] }, type := 22, pos := "l05_msg.go:48", after := #[{ on := 1, ground := Ground.data }, { on := 12, ground := Ground.data }, { on := 12, ground := Ground.chain }], guard := none },
  { dst := some 2, op := Op.assign (Operand.tmp 16), type := 9, pos := "l05_msg.go:48", after := #[{ on := 0, ground := Ground.data }, { on := 13, ground := Ground.chain }, { on := 0, ground := Ground.phase }, { on := 1, ground := Ground.textOnly Departure.lateStores }, { on := 2, ground := Ground.textOnly Departure.lateStores }, { on := 3, ground := Ground.textOnly Departure.lateStores }, { on := 4, ground := Ground.textOnly Departure.lateStoresUnsure }, { on := 5, ground := Ground.textOnly Departure.lateStoresUnsure }, { on := 6, ground := Ground.textOnly Departure.lateStoresUnsure }, { on := 7, ground := Ground.textOnly Departure.lateStores }, { on := 8, ground := Ground.textOnly Departure.lateStores }, { on := 9, ground := Ground.textOnly Departure.lateStoresUnsure }, { on := 10, ground := Ground.textOnly Departure.lateStores }, { on := 11, ground := Ground.textOnly Departure.lateStoresUnsure }, { on := 12, ground := Ground.textOnly Departure.lateStoresUnsure }, { on := 13, ground := Ground.textOnly Departure.lateStoresUnsure }], guard := none },
  { dst := some 3, op := Op.assign (Operand.tmp 29), type := 22, pos := "l05_msg.go:48", after := #[{ on := 13, ground := Ground.data }, { on := 14, ground := Ground.chain }, { on := 0, ground := Ground.phase }, { on := 1, ground := Ground.phase }, { on := 2, ground := Ground.phase }, { on := 3, ground := Ground.phase }, { on := 4, ground := Ground.phase }, { on := 5, ground := Ground.phase }, { on := 6, ground := Ground.phase }, { on := 7, ground := Ground.phase }, { on := 8, ground := Ground.phase }, { on := 9, ground := Ground.phase }, { on := 10, ground := Ground.phase }, { on := 11, ground := Ground.phase }, { on := 12, ground := Ground.phase }, { on := 13, ground := Ground.phase }, { on := 14, ground := Ground.phase }], guard := none }]

/-- What holds while the region goes: the cursor, the drawn request and its box, nothing elder turned. -/
structure DG (w w4 W : World) (C X : Nat) (a0 : Option Addr) (l0 c0 : Nat) (z0 : List Int) (k id a b : Int) (lo : Option Addr) (cap : Nat) (ys : List BI) : Prop where
  box : W.heap[X]? = some (.cells #[.int .i64 k, .int .i64 id, .int .i64 a, .int .i64 b, .slice lo ys.length cap] 26)
  bo : BOwns W (C + 1) lo ys.length cap ys
  wn : Went w4 W C a0 l0 c0 z0
  low : Below C w W
  apart : C < X
  x4 : X < w4.heap.size
  blk : ∀ j ∈ allB lo ys, j < w4.heap.size

variable {w w4 W W' : World} {C X : Nat} {a0 : Option Addr} {l0 c0 : Nat} {z0 : List Int} {k id a b : Int} {lo : Option Addr} {cap : Nat} {ys : List BI}
theorem DG.lt (D : DG w w4 W C X a0 l0 c0 z0 k id a b lo cap ys) : X < W.heap.size := (Array.getElem?_eq_some_iff.1 D.box).1
theorem DG.size (D : DG w w4 W C X a0 l0 c0 z0 k id a b lo cap ys) : C + 1 ≤ W.heap.size := by have := D.lt; have := D.apart; omega
theorem DG.size4 (D : DG w w4 W C X a0 l0 c0 z0 k id a b lo cap ys) : w4.heap.size ≤ W.heap.size := D.wn.grown.size
theorem DG.c4 (D : DG w w4 W C X a0 l0 c0 z0 k id a b lo cap ys) : C < w4.heap.size := by have := D.x4; have := D.apart; omega
theorem DG.below (D : DG w w4 W C X a0 l0 c0 z0 k id a b lo cap ys) (hb : Below W.heap.size W W') : DG w w4 W' C X a0 l0 c0 z0 k id a b lo cap ys :=
  ⟨kept_block D.box hb, D.bo.below hb, D.wn.made hb, D.low.trans (hb.mono (by have := D.size; omega)), D.apart, D.x4, D.blk⟩
theorem DG.went (D : DG w w4 W C X a0 l0 c0 z0 k id a b lo cap ys) (h : Went W W' C a0 l0 c0 z0) : DG w w4 W' C X a0 l0 c0 z0 k id a b lo cap ys :=
  ⟨kept_grown D.box h.grown (fun j hj => by cases hj; have := D.apart; omega),
    D.bo.only (Only.of_grown (ao := some ⟨C, 0, none⟩) (n := 0) (c := 0) h.grown) (by
      intro j hb hc
      have h1 := (D.bo.blk j hb).1
      have h2 : j = C := by simpa [blkL] using hc
      omega),
    D.wn.trans h, D.low.trans (below_of_grown h.grown (Nat.le_refl _) (by have := D.size; omega)), D.apart, D.x4, D.blk⟩
theorem freeze_other (W : World) (g o j : Nat) (h : ¬ j = g) : (W.freeze ⟨g, o, none⟩ 1).heap[j]? = W.heap[j]? := by
  have h1 : ¬ g = j := fun e => h e.symm
  simp [World.freeze, Array.getElem?_modify, h1]
theorem freeze_only (W : World) (g o : Nat) : Only [g] W (W.freeze ⟨g, o, none⟩ 1) := by
  refine ⟨rfl, rfl, rfl, by simp [World.freeze], fun j _ hj => freeze_other W g o j (by simpa using hj)⟩
theorem DG.freeze {bY : Nat} (D : DG w w4 W C X a0 l0 c0 z0 k id a b lo cap ys) (hY : w4.heap.size ≤ bY) : DG w w4 (W.freeze ⟨bY, 4, none⟩ 1) C X a0 l0 c0 z0 k id a b lo cap ys := by
  have hO := freeze_only W bY 4
  have hB : Below w4.heap.size W (W.freeze ⟨bY, 4, none⟩ 1) := hO.below D.size4 (by simpa using hY)
  refine ⟨?_, D.bo.only hO (fun j hj hc => ?_), D.wn.madeAt hB D.c4 (Nat.le_refl _), D.low.trans (hB.mono (Nat.le_of_lt D.c4)), D.apart, D.x4, D.blk⟩
  · rw [freeze_other W bY 4 X (by have := D.x4; omega)]
    exact D.box
  · have h1 := D.blk j hj
    have h2 : j = bY := by simpa using hc
    omega
theorem row_yard {bY : Nat} (h : W.heap[bY]? = some (.cells #[.int .u8 121, .int .u8 97, .int .u8 114, .int .u8 100] 5)) : Row (W.freeze ⟨bY, 4, none⟩ 1) (some ⟨bY, 0, none⟩) 4 4 [121, 97, 114, 100] where
  size := rfl
  le := Nat.le_refl _
  top := by unfold maxLen; omega
  nil := by intro h; cases h
  byte := by intro z hz; simp at hz; omega
  cell := by
    refine .inr ⟨bY, 0, rfl, fun i hi => ?_⟩
    have hh : (W.freeze ⟨bY, 4, none⟩ 1).heap[bY]? = some (.cells #[.int .u8 121, .int .u8 97, .int .u8 114, .int .u8 100] 5 (4, 5)) := by
      simp [World.freeze, Array.getElem?_modify, h]
    simp only [World.cell?, hh]
    match i, hi with
    | 0, _ => rfl
    | 1, _ => rfl
    | 2, _ => rfl
    | 3, _ => rfl
theorem conv_yard {bY : Nat} (h : W.heap[bY]? = some (.cells #[.int .u8 121, .int .u8 97, .int .u8 114, .int .u8 100] 5)) : (convert 22 22 (.slice (some ⟨bY, 0, none⟩) 4 4)).run Tryz.prog W = .ok (.slice (some ⟨bY, 0, none⟩) 4 4) (W.freeze ⟨bY, 4, none⟩ 1) := by
  have hsh : W.shape? bY = some (5, 4) := by simp [World.shape?, h]
  simp [convert, run_underlying Tryz.underlying22, run_underlying Tryz.underlying5, markStringish, hsh, Result.andThen]
theorem row_freeze {ao : Option Addr} {n c : Nat} {zs : List Int} {bY : Nat} (r : Row W ao n c zs) (h : W.heap[bY]? = some (.cells #[.int .u8 121, .int .u8 97, .int .u8 114, .int .u8 100] 5)) : Row (W.freeze ⟨bY, 4, none⟩ 1) ao n c zs where
  size := r.size
  le := r.le
  top := r.top
  nil := r.nil
  byte := r.byte
  cell := by
    rcases r.cell with h0 | ⟨g, off, e, hc⟩
    · exact .inl h0
    · refine .inr ⟨g, off, e, fun i hi => ?_⟩
      rw [← hc i hi]
      have hh : (W.freeze ⟨bY, 4, none⟩ 1).heap[bY]? = some (.cells #[.int .u8 121, .int .u8 97, .int .u8 114, .int .u8 100] 5 (4, 5)) := by
        simp [World.freeze, Array.getElem?_modify, h]
      by_cases hg : g = bY
      · subst hg
        simp only [World.cell?, hh, h]
      · simp only [World.cell?, freeze_other W bY 4 g hg]
theorem row_went {g off n c : Nat} {zs : List Int} (r : Row W (some ⟨g, off, none⟩) n c zs) (hg : W.grownBy W' (some C)) (hne : ¬ C = g) : Row W' (some ⟨g, off, none⟩) n c zs where
  size := r.size
  le := r.le
  top := r.top
  nil := r.nil
  byte := r.byte
  cell := by
    rcases r.cell with h0 | ⟨g', off', e, hc⟩
    · exact .inl h0
    · cases e
      refine .inr ⟨g, off, rfl, fun i hi => hg.cell (hc i hi) ?_⟩
      intro e
      simp only [Option.some.injEq] at e
      omega
theorem box_low {o : Obj} (h : W.heap[X]? = some o) (hC : C < X) : C ≤ W.heap.size := by have := (Array.getElem?_eq_some_iff.1 h).1; omega

set_option maxRecDepth 100000 in
set_option maxHeartbeats 1000000 in
theorem dg7112 {Q : Exit → Act → World → Prop} {C X cap : Nat} {lo : Option Addr} {k id a b : Int} {ys : List BI} {S : ByteArray} {w W : World} {u0 u1 u2 u3 u7 u8 u9 u10 u11 u12 u13 u14 u15 : Value} {v17 v18 v20 v21 v22 v23 v24 v25 v27 v28 : Value} {a13 : Option Addr} {c13 : Nat} {Z : List Int} (hbox : W.heap[X]? = some (.cells #[.int .i64 k, .int .i64 id, .int .i64 a, .int .i64 b, .slice lo ys.length cap] 26)) (hlow : Below C w W) (r13 : Row W a13 Z.length c13 Z) (l13 : Z.length ≤ 3000) (HQ : Hid (∀ (v17 v18 v20 v21 v22 v23 v24 v25 v27 v28 : Value) (ao : Option Addr) (n cp : Nat) (zs : List Int) (W : World), n ≤ 3000 → Row W ao n cp zs → Below C w W → Q .normal ⟨#[u0, u1, .string S, .slice ao n cp, .pointer (some ⟨C, 0, none⟩), .string S, .pointer (some ⟨X, 0, none⟩), u7, u8, u9, u10, u11, u12, u13, u14, u15, .string S, v17, v18, .pointer (some ⟨C, 0, none⟩), v20, v21, v22, v23, v24, v25, .agg #[.int .i64 k, .int .i64 id, .int .i64 a, .int .i64 b, .slice lo ys.length cap], v27, v28, .slice ao n cp, undef, undef, undef, undef, undef], []⟩ W)) :
    wpAnyH Tryz.prog .any dOps Q (fun W => W.heap[X]? = some (.cells #[.int .i64 k, .int .i64 id, .int .i64 a, .int .i64 b, .slice lo ys.length cap] 26)) 2 #[true, true, true, true, true, true, true, true, true, true, true, true, true, true, false, false] ⟨#[u0, u1, u2, u3, .pointer (some ⟨C, 0, none⟩), .string S, .pointer (some ⟨X, 0, none⟩), u7, u8, u9, u10, u11, u12, u13, u14, u15, .string S, v17, v18, .pointer (some ⟨C, 0, none⟩), v20, v21, v22, v23, v24, v25, .agg #[.int .i64 k, .int .i64 id, .int .i64 a, .int .i64 b, .slice lo ys.length cap], v27, v28, .slice a13 Z.length c13, undef, undef, undef, undef, undef], []⟩ W := by
  unfold dOps
  refine wpAnyH_ready (rs := [14]) (by kernel_rfl) (by simp) ?_
  refine AllReadyH.cons rfl (fun K hK => ?_) AllReadyH.nil
  go_simp
  refine hK.out _ _ hbox (fun _ => ?_)
  clear hK K
  try simp only [Act.put]
  try simp only [List.setIfInBounds_toArray]
  try simp only [List.set_cons_succ]
  try simp only [List.set_cons_zero]
  refine wpAnyH_ready (rs := [15]) (by kernel_rfl) (by simp) ?_
  refine AllReadyH.cons rfl (fun K hK => ?_) AllReadyH.nil
  go_simp
  refine hK.out _ _ hbox (fun _ => ?_)
  clear hK K
  try simp only [Act.put]
  try simp only [List.setIfInBounds_toArray]
  try simp only [List.set_cons_succ]
  try simp only [List.set_cons_zero]
  refine wpAnyH_done (by kernel_rfl) ?_ _
  exact HQ.out _ _ _ _ _ _ _ _ _ _ _ _ _ _ _ l13 r13 hlow

set_option maxRecDepth 100000 in
set_option maxHeartbeats 1000000 in
theorem dg6112 {Q : Exit → Act → World → Prop} {C X cap : Nat} {lo : Option Addr} {k id a b : Int} {ys : List BI} {S : ByteArray} {w W : World} {u0 u1 u2 u3 u7 u8 u9 u10 u11 u12 u13 u14 u15 : Value} {bA : Nat} {v18 v20 v21 v22 v23 v24 v25 v27 : Value} {a12 : Option Addr} {c12 : Nat} {M : List Int} (hbox : W.heap[X]? = some (.cells #[.int .i64 k, .int .i64 id, .int .i64 a, .int .i64 b, .slice lo ys.length cap] 26)) (hlow : Below C w W) (hCX : C < X) (r12 : Row W a12 M.length c12 M) (l12 : M.length ≤ 2000) (HQ : Hid (∀ (v17 v18 v20 v21 v22 v23 v24 v25 v27 v28 : Value) (ao : Option Addr) (n cp : Nat) (zs : List Int) (W : World), n ≤ 3000 → Row W ao n cp zs → Below C w W → Q .normal ⟨#[u0, u1, .string S, .slice ao n cp, .pointer (some ⟨C, 0, none⟩), .string S, .pointer (some ⟨X, 0, none⟩), u7, u8, u9, u10, u11, u12, u13, u14, u15, .string S, v17, v18, .pointer (some ⟨C, 0, none⟩), v20, v21, v22, v23, v24, v25, .agg #[.int .i64 k, .int .i64 id, .int .i64 a, .int .i64 b, .slice lo ys.length cap], v27, v28, .slice ao n cp, undef, undef, undef, undef, undef], []⟩ W)) :
    wpAnyH Tryz.prog .any dOps Q (fun W => W.heap[X]? = some (.cells #[.int .i64 k, .int .i64 id, .int .i64 a, .int .i64 b, .slice lo ys.length cap] 26)) 3 #[true, true, true, true, true, true, true, true, true, true, true, true, true, false, false, false] ⟨#[u0, u1, u2, u3, .pointer (some ⟨C, 0, none⟩), .string S, .pointer (some ⟨X, 0, none⟩), u7, u8, u9, u10, u11, u12, u13, u14, u15, .string S, .slice (some ⟨bA, 0, none⟩) 0 0, v18, .pointer (some ⟨C, 0, none⟩), v20, v21, v22, v23, v24, v25, .agg #[.int .i64 k, .int .i64 id, .int .i64 a, .int .i64 b, .slice lo ys.length cap], v27, .slice a12 M.length c12, undef, undef, undef, undef, undef, undef], []⟩ W := by
  unfold dOps
  refine wpAnyH_ready (rs := [13]) (by kernel_rfl) (by simp) ?_
  refine AllReadyH.cons rfl (fun K hK => ?_) ?_
  · go_simp
    go_wp2_with (go_at_call 24; refine (specTlv_made _ _ _ [] 48 _ _ _ M _ rfl _ (empty_row _ _) r12 (by omega)).mono ?_; rintro e W' ⟨a13, c13, rfl, -, r13, hb⟩)
    refine hK.out _ _ (kept_block hbox hb) (fun _ => ?_)
    clear hK K
    try simp only [Act.put]
    try simp only [List.setIfInBounds_toArray]
    try simp only [List.set_cons_succ]
    try simp only [List.set_cons_zero]
    exact dg7112 (kept_block hbox hb) (hlow.trans (hb.mono (box_low hbox hCX))) r13 (by have := putTlv_length [] 48 M; simp at this; omega) HQ
  exact AllReadyH.nil

set_option maxRecDepth 100000 in
set_option maxHeartbeats 1000000 in
theorem dg6012 {Q : Exit → Act → World → Prop} {C X cap : Nat} {lo : Option Addr} {k id a b : Int} {ys : List BI} {S : ByteArray} {w W : World} {u0 u1 u2 u3 u7 u8 u9 u10 u11 u12 u13 u14 u15 : Value} {v18 v20 v21 v22 v23 v24 v25 v27 : Value} {a12 : Option Addr} {c12 : Nat} {M : List Int} (hbox : W.heap[X]? = some (.cells #[.int .i64 k, .int .i64 id, .int .i64 a, .int .i64 b, .slice lo ys.length cap] 26)) (hlow : Below C w W) (hCX : C < X) (r12 : Row W a12 M.length c12 M) (l12 : M.length ≤ 2000) (HQ : Hid (∀ (v17 v18 v20 v21 v22 v23 v24 v25 v27 v28 : Value) (ao : Option Addr) (n cp : Nat) (zs : List Int) (W : World), n ≤ 3000 → Row W ao n cp zs → Below C w W → Q .normal ⟨#[u0, u1, .string S, .slice ao n cp, .pointer (some ⟨C, 0, none⟩), .string S, .pointer (some ⟨X, 0, none⟩), u7, u8, u9, u10, u11, u12, u13, u14, u15, .string S, v17, v18, .pointer (some ⟨C, 0, none⟩), v20, v21, v22, v23, v24, v25, .agg #[.int .i64 k, .int .i64 id, .int .i64 a, .int .i64 b, .slice lo ys.length cap], v27, v28, .slice ao n cp, undef, undef, undef, undef, undef], []⟩ W)) :
    wpAnyH Tryz.prog .any dOps Q (fun W => W.heap[X]? = some (.cells #[.int .i64 k, .int .i64 id, .int .i64 a, .int .i64 b, .slice lo ys.length cap] 26)) 4 #[true, false, true, true, true, true, true, true, true, true, true, true, true, false, false, false] ⟨#[u0, u1, u2, u3, .pointer (some ⟨C, 0, none⟩), .string S, .pointer (some ⟨X, 0, none⟩), u7, u8, u9, u10, u11, u12, u13, u14, u15, .string S, undef, v18, .pointer (some ⟨C, 0, none⟩), v20, v21, v22, v23, v24, v25, .agg #[.int .i64 k, .int .i64 id, .int .i64 a, .int .i64 b, .slice lo ys.length cap], v27, .slice a12 M.length c12, undef, undef, undef, undef, undef, undef], []⟩ W := by
  unfold dOps
  refine wpAnyH_ready (rs := [1]) (by kernel_rfl) (by simp) ?_
  refine AllReadyH.cons rfl (fun K hK => ?_) ?_
  · go_simp
    refine hK.out _ _ (kept_block hbox (below_one _ _)) (fun _ => ?_)
    clear hK K
    try simp only [Act.put]
    try simp only [List.setIfInBounds_toArray]
    try simp only [List.set_cons_succ]
    try simp only [List.set_cons_zero]
    exact dg6112 (kept_block hbox (below_one W (.cells #[] 5))) (hlow.trans ((below_one W _).mono (box_low hbox hCX))) hCX (r12.below (below_one W (.cells #[] 5))) l12 HQ
  exact AllReadyH.nil

set_option maxRecDepth 100000 in
set_option maxHeartbeats 1000000 in
theorem dg5112 {Q : Exit → Act → World → Prop} {C X l0 c0 cap : Nat} {a0 lo : Option Addr} {z0 : List Int} {k id a b : Int} {ys : List BI} {S : ByteArray} {w w4 W : World} {u0 u1 u2 u3 u7 u8 u9 u10 u11 u12 u13 u14 u15 : Value} {bA : Nat} {v18 v20 v21 v22 v23 v24 : Value} {a9 : Option Addr} {c9 b9 : Nat} {H2 : List Int} {a11 : Option Addr} {c11 : Nat} {Xb : List Int} (D : DG w w4 W C X a0 l0 c0 z0 k id a b lo cap ys) (o9 : W.ownsRow b9 5 1 (.slice a9 H2.length c9) H2.length (cB H2)) (hy9 : Byt H2) (l9 : H2.length ≤ 900) (hb9 : b9 ≤ W.heap.size) (hX9 : X < b9) (r11 : Row W a11 Xb.length c11 Xb) (l11 : Xb.length ≤ 1000) (HQ : Hid (∀ (v17 v18 v20 v21 v22 v23 v24 v25 v27 v28 : Value) (ao : Option Addr) (n cp : Nat) (zs : List Int) (W : World), n ≤ 3000 → Row W ao n cp zs → Below C w W → Q .normal ⟨#[u0, u1, .string S, .slice ao n cp, .pointer (some ⟨C, 0, none⟩), .string S, .pointer (some ⟨X, 0, none⟩), u7, u8, u9, u10, u11, u12, u13, u14, u15, .string S, v17, v18, .pointer (some ⟨C, 0, none⟩), v20, v21, v22, v23, v24, v25, .agg #[.int .i64 k, .int .i64 id, .int .i64 a, .int .i64 b, .slice lo ys.length cap], v27, v28, .slice ao n cp, undef, undef, undef, undef, undef], []⟩ W)) :
    wpAnyH Tryz.prog .any dOps Q (fun W => W.heap[X]? = some (.cells #[.int .i64 k, .int .i64 id, .int .i64 a, .int .i64 b, .slice lo ys.length cap] 26)) 4 #[true, true, true, true, true, true, true, true, true, true, true, true, false, false, false, false] ⟨#[u0, u1, u2, u3, .pointer (some ⟨C, 0, none⟩), .string S, .pointer (some ⟨X, 0, none⟩), u7, u8, u9, u10, u11, u12, u13, u14, u15, .string S, .slice (some ⟨bA, 0, none⟩) 0 0, v18, .pointer (some ⟨C, 0, none⟩), v20, v21, v22, v23, v24, .slice a9 H2.length c9, .agg #[.int .i64 k, .int .i64 id, .int .i64 a, .int .i64 b, .slice lo ys.length cap], .slice a11 Xb.length c11, undef, undef, undef, undef, undef, undef, undef], []⟩ W := by
  unfold dOps
  refine wpAnyH_ready (rs := [12]) (by kernel_rfl) (by simp) ?_
  refine AllReadyH.cons rfl (fun K hK => ?_) ?_
  · refine step_append_row rfl _ _ 22 rfl b9 Tryz.underlying22 Tryz.infoU8 _ H2.length H2 rfl o9 hy9 _ _ _ Xb rfl r11 (by omega) hb9 ?_
    intro a12 c12 W' ho12 r12 hb
    have hCX := D.apart
    have kb := (hb.block X hX9).trans D.box
    have elen : H2.length + Xb.length = (H2 ++ Xb).length := by simp
    rw [elen] at r12 ⊢
    refine hK.out _ _ kb (fun _ => ?_)
    clear hK K
    try simp only [Act.put]
    try simp only [List.setIfInBounds_toArray]
    try simp only [List.set_cons_succ]
    try simp only [List.set_cons_zero]
    exact dg6112 kb (D.low.trans (hb.mono (by omega))) D.apart r12 (by simp; omega) HQ
  exact AllReadyH.nil

set_option maxRecDepth 100000 in
set_option maxHeartbeats 1000000 in
theorem dg5012 {Q : Exit → Act → World → Prop} {C X l0 c0 cap : Nat} {a0 lo : Option Addr} {z0 : List Int} {k id a b : Int} {ys : List BI} {S : ByteArray} {w w4 W : World} {u0 u1 u2 u3 u7 u8 u9 u10 u11 u12 u13 u14 u15 : Value} {v18 v20 v21 v22 v23 v24 : Value} {a9 : Option Addr} {c9 b9 : Nat} {H2 : List Int} {a11 : Option Addr} {c11 : Nat} {Xb : List Int} (D : DG w w4 W C X a0 l0 c0 z0 k id a b lo cap ys) (o9 : W.ownsRow b9 5 1 (.slice a9 H2.length c9) H2.length (cB H2)) (hy9 : Byt H2) (l9 : H2.length ≤ 900) (hb9 : b9 ≤ W.heap.size) (hX9 : X < b9) (r11 : Row W a11 Xb.length c11 Xb) (l11 : Xb.length ≤ 1000) (HQ : Hid (∀ (v17 v18 v20 v21 v22 v23 v24 v25 v27 v28 : Value) (ao : Option Addr) (n cp : Nat) (zs : List Int) (W : World), n ≤ 3000 → Row W ao n cp zs → Below C w W → Q .normal ⟨#[u0, u1, .string S, .slice ao n cp, .pointer (some ⟨C, 0, none⟩), .string S, .pointer (some ⟨X, 0, none⟩), u7, u8, u9, u10, u11, u12, u13, u14, u15, .string S, v17, v18, .pointer (some ⟨C, 0, none⟩), v20, v21, v22, v23, v24, v25, .agg #[.int .i64 k, .int .i64 id, .int .i64 a, .int .i64 b, .slice lo ys.length cap], v27, v28, .slice ao n cp, undef, undef, undef, undef, undef], []⟩ W)) :
    wpAnyH Tryz.prog .any dOps Q (fun W => W.heap[X]? = some (.cells #[.int .i64 k, .int .i64 id, .int .i64 a, .int .i64 b, .slice lo ys.length cap] 26)) 5 #[true, false, true, true, true, true, true, true, true, true, true, true, false, false, false, false] ⟨#[u0, u1, u2, u3, .pointer (some ⟨C, 0, none⟩), .string S, .pointer (some ⟨X, 0, none⟩), u7, u8, u9, u10, u11, u12, u13, u14, u15, .string S, undef, v18, .pointer (some ⟨C, 0, none⟩), v20, v21, v22, v23, v24, .slice a9 H2.length c9, .agg #[.int .i64 k, .int .i64 id, .int .i64 a, .int .i64 b, .slice lo ys.length cap], .slice a11 Xb.length c11, undef, undef, undef, undef, undef, undef, undef], []⟩ W := by
  unfold dOps
  refine wpAnyH_ready (rs := [1, 12]) (by kernel_rfl) (by simp) ?_
  refine AllReadyH.cons rfl (fun K hK => ?_) ?_
  · go_simp
    refine hK.out _ _ (kept_block D.box (below_one _ _)) (fun _ => ?_)
    clear hK K
    try simp only [Act.put]
    try simp only [List.setIfInBounds_toArray]
    try simp only [List.set_cons_succ]
    try simp only [List.set_cons_zero]
    exact dg5112 (D.below (below_one W (.cells #[] 5))) (own_below o9 (below_one W (.cells #[] 5))) hy9 l9 (Nat.le_trans hb9 (below_one W (.cells #[] 5)).size) hX9 (r11.below (below_one W (.cells #[] 5))) l11 HQ
  refine AllReadyH.cons rfl (fun K hK => ?_) ?_
  · refine step_append_row rfl _ _ 22 rfl b9 Tryz.underlying22 Tryz.infoU8 _ H2.length H2 rfl o9 hy9 _ _ _ Xb rfl r11 (by omega) hb9 ?_
    intro a12 c12 W' ho12 r12 hb
    have hCX := D.apart
    have kb := (hb.block X hX9).trans D.box
    have elen : H2.length + Xb.length = (H2 ++ Xb).length := by simp
    rw [elen] at r12 ⊢
    refine hK.out _ _ kb (fun _ => ?_)
    clear hK K
    try simp only [Act.put]
    try simp only [List.setIfInBounds_toArray]
    try simp only [List.set_cons_succ]
    try simp only [List.set_cons_zero]
    exact dg6012 kb (D.low.trans (hb.mono (by omega))) D.apart r12 (by simp; omega) HQ
  exact AllReadyH.nil

set_option maxRecDepth 100000 in
set_option maxHeartbeats 1000000 in
theorem dg4112 {Q : Exit → Act → World → Prop} {C X l0 c0 cap : Nat} {a0 lo : Option Addr} {z0 : List Int} {k id a b : Int} {ys : List BI} {S : ByteArray} {w w4 W : World} {u0 u1 u2 u3 u7 u8 u9 u10 u11 u12 u13 u14 u15 : Value} {bA : Nat} {v18 v20 v21 v22 v23 v24 : Value} {a9 : Option Addr} {c9 b9 : Nat} {H2 : List Int} (D : DG w w4 W C X a0 l0 c0 z0 k id a b lo cap ys) (o9 : W.ownsRow b9 5 1 (.slice a9 H2.length c9) H2.length (cB H2)) (hy9 : Byt H2) (l9 : H2.length ≤ 900) (hb9 : b9 ≤ W.heap.size) (hX9 : X < b9) (HQ : Hid (∀ (v17 v18 v20 v21 v22 v23 v24 v25 v27 v28 : Value) (ao : Option Addr) (n cp : Nat) (zs : List Int) (W : World), n ≤ 3000 → Row W ao n cp zs → Below C w W → Q .normal ⟨#[u0, u1, .string S, .slice ao n cp, .pointer (some ⟨C, 0, none⟩), .string S, .pointer (some ⟨X, 0, none⟩), u7, u8, u9, u10, u11, u12, u13, u14, u15, .string S, v17, v18, .pointer (some ⟨C, 0, none⟩), v20, v21, v22, v23, v24, v25, .agg #[.int .i64 k, .int .i64 id, .int .i64 a, .int .i64 b, .slice lo ys.length cap], v27, v28, .slice ao n cp, undef, undef, undef, undef, undef], []⟩ W)) :
    wpAnyH Tryz.prog .any dOps Q (fun W => W.heap[X]? = some (.cells #[.int .i64 k, .int .i64 id, .int .i64 a, .int .i64 b, .slice lo ys.length cap] 26)) 5 #[true, true, true, true, true, true, true, true, true, true, true, false, false, false, false, false] ⟨#[u0, u1, u2, u3, .pointer (some ⟨C, 0, none⟩), .string S, .pointer (some ⟨X, 0, none⟩), u7, u8, u9, u10, u11, u12, u13, u14, u15, .string S, .slice (some ⟨bA, 0, none⟩) 0 0, v18, .pointer (some ⟨C, 0, none⟩), v20, v21, v22, v23, v24, .slice a9 H2.length c9, .agg #[.int .i64 k, .int .i64 id, .int .i64 a, .int .i64 b, .slice lo ys.length cap], undef, undef, undef, undef, undef, undef, undef, undef], []⟩ W := by
  unfold dOps
  refine wpAnyH_ready (rs := [11]) (by kernel_rfl) (by simp) ?_
  refine AllReadyH.cons rfl (fun K hK => ?_) ?_
  · go_simp
    go_wp2_with (go_at_call 23; refine (specPutPdu_made k id a b lo ys.length cap ys _ rfl _ D.bo.brow).mono ?_; rintro e W' ⟨a11, c11, rfl, -, r11, hb⟩)
    refine hK.out _ _ (D.below hb).box (fun _ => ?_)
    clear hK K
    try simp only [Act.put]
    try simp only [List.setIfInBounds_toArray]
    try simp only [List.set_cons_succ]
    try simp only [List.set_cons_zero]
    exact dg5112 (D.below hb) (own_below o9 hb) hy9 l9 (Nat.le_trans hb9 hb.size) hX9 r11 (putP_le _ _ _ _ _) HQ
  exact AllReadyH.nil

set_option maxRecDepth 100000 in
set_option maxHeartbeats 1000000 in
theorem dg4012 {Q : Exit → Act → World → Prop} {C X l0 c0 cap : Nat} {a0 lo : Option Addr} {z0 : List Int} {k id a b : Int} {ys : List BI} {S : ByteArray} {w w4 W : World} {u0 u1 u2 u3 u7 u8 u9 u10 u11 u12 u13 u14 u15 : Value} {v18 v20 v21 v22 v23 v24 : Value} {a9 : Option Addr} {c9 b9 : Nat} {H2 : List Int} (D : DG w w4 W C X a0 l0 c0 z0 k id a b lo cap ys) (o9 : W.ownsRow b9 5 1 (.slice a9 H2.length c9) H2.length (cB H2)) (hy9 : Byt H2) (l9 : H2.length ≤ 900) (hb9 : b9 ≤ W.heap.size) (hX9 : X < b9) (HQ : Hid (∀ (v17 v18 v20 v21 v22 v23 v24 v25 v27 v28 : Value) (ao : Option Addr) (n cp : Nat) (zs : List Int) (W : World), n ≤ 3000 → Row W ao n cp zs → Below C w W → Q .normal ⟨#[u0, u1, .string S, .slice ao n cp, .pointer (some ⟨C, 0, none⟩), .string S, .pointer (some ⟨X, 0, none⟩), u7, u8, u9, u10, u11, u12, u13, u14, u15, .string S, v17, v18, .pointer (some ⟨C, 0, none⟩), v20, v21, v22, v23, v24, v25, .agg #[.int .i64 k, .int .i64 id, .int .i64 a, .int .i64 b, .slice lo ys.length cap], v27, v28, .slice ao n cp, undef, undef, undef, undef, undef], []⟩ W)) :
    wpAnyH Tryz.prog .any dOps Q (fun W => W.heap[X]? = some (.cells #[.int .i64 k, .int .i64 id, .int .i64 a, .int .i64 b, .slice lo ys.length cap] 26)) 6 #[true, false, true, true, true, true, true, true, true, true, true, false, false, false, false, false] ⟨#[u0, u1, u2, u3, .pointer (some ⟨C, 0, none⟩), .string S, .pointer (some ⟨X, 0, none⟩), u7, u8, u9, u10, u11, u12, u13, u14, u15, .string S, undef, v18, .pointer (some ⟨C, 0, none⟩), v20, v21, v22, v23, v24, .slice a9 H2.length c9, .agg #[.int .i64 k, .int .i64 id, .int .i64 a, .int .i64 b, .slice lo ys.length cap], undef, undef, undef, undef, undef, undef, undef, undef], []⟩ W := by
  unfold dOps
  refine wpAnyH_ready (rs := [1, 11]) (by kernel_rfl) (by simp) ?_
  refine AllReadyH.cons rfl (fun K hK => ?_) ?_
  · go_simp
    refine hK.out _ _ (kept_block D.box (below_one _ _)) (fun _ => ?_)
    clear hK K
    try simp only [Act.put]
    try simp only [List.setIfInBounds_toArray]
    try simp only [List.set_cons_succ]
    try simp only [List.set_cons_zero]
    exact dg4112 (D.below (below_one W (.cells #[] 5))) (own_below o9 (below_one W (.cells #[] 5))) hy9 l9 (Nat.le_trans hb9 (below_one W (.cells #[] 5)).size) hX9 HQ
  refine AllReadyH.cons rfl (fun K hK => ?_) ?_
  · go_simp
    go_wp2_with (go_at_call 23; refine (specPutPdu_made k id a b lo ys.length cap ys _ rfl _ D.bo.brow).mono ?_; rintro e W' ⟨a11, c11, rfl, -, r11, hb⟩)
    refine hK.out _ _ (D.below hb).box (fun _ => ?_)
    clear hK K
    try simp only [Act.put]
    try simp only [List.setIfInBounds_toArray]
    try simp only [List.set_cons_succ]
    try simp only [List.set_cons_zero]
    exact dg5012 (D.below hb) (own_below o9 hb) hy9 l9 (Nat.le_trans hb9 hb.size) hX9 r11 (putP_le _ _ _ _ _) HQ
  exact AllReadyH.nil

set_option maxRecDepth 100000 in
set_option maxHeartbeats 1000000 in
theorem dg3112 {Q : Exit → Act → World → Prop} {C X l0 c0 cap : Nat} {a0 lo : Option Addr} {z0 : List Int} {k id a b : Int} {ys : List BI} {S : ByteArray} {w w4 W : World} {u0 u1 u2 u3 u7 u8 u9 u10 u11 u12 u13 u14 u15 : Value} {bA : Nat} {v18 v20 v21 v23 : Value} {a6 : Option Addr} {c6 : Nat} {H1 : List Int} {bY : Nat} (D : DG w w4 W C X a0 l0 c0 z0 k id a b lo cap ys) (r6 : Row W a6 H1.length c6 H1) (l6 : H1.length ≤ 500) (_hY : w4.heap.size ≤ bY) (rY : Row W (some ⟨bY, 0, none⟩) 4 4 [121, 97, 114, 100]) (HQ : Hid (∀ (v17 v18 v20 v21 v22 v23 v24 v25 v27 v28 : Value) (ao : Option Addr) (n cp : Nat) (zs : List Int) (W : World), n ≤ 3000 → Row W ao n cp zs → Below C w W → Q .normal ⟨#[u0, u1, .string S, .slice ao n cp, .pointer (some ⟨C, 0, none⟩), .string S, .pointer (some ⟨X, 0, none⟩), u7, u8, u9, u10, u11, u12, u13, u14, u15, .string S, v17, v18, .pointer (some ⟨C, 0, none⟩), v20, v21, v22, v23, v24, v25, .agg #[.int .i64 k, .int .i64 id, .int .i64 a, .int .i64 b, .slice lo ys.length cap], v27, v28, .slice ao n cp, undef, undef, undef, undef, undef], []⟩ W)) :
    wpAnyH Tryz.prog .any dOps Q (fun W => W.heap[X]? = some (.cells #[.int .i64 k, .int .i64 id, .int .i64 a, .int .i64 b, .slice lo ys.length cap] 26)) 6 #[true, true, true, true, true, true, true, true, true, false, true, false, false, false, false, false] ⟨#[u0, u1, u2, u3, .pointer (some ⟨C, 0, none⟩), .string S, .pointer (some ⟨X, 0, none⟩), u7, u8, u9, u10, u11, u12, u13, u14, u15, .string S, .slice (some ⟨bA, 0, none⟩) 0 0, v18, .pointer (some ⟨C, 0, none⟩), v20, v21, .slice a6 H1.length c6, v23, .slice (some ⟨bY, 0, none⟩) 4 4, undef, .agg #[.int .i64 k, .int .i64 id, .int .i64 a, .int .i64 b, .slice lo ys.length cap], undef, undef, undef, undef, undef, undef, undef, undef], []⟩ W := by
  unfold dOps
  refine wpAnyH_ready (rs := [9]) (by kernel_rfl) (by simp) ?_
  refine AllReadyH.cons rfl (fun K hK => ?_) ?_
  · go_simp
    go_wp2_with (go_at_call 24; refine (specTlv_made _ _ _ H1 4 _ _ _ [121, 97, 114, 100] _ rfl _ r6 rY (by omega)).mono ?_; rintro e W' ⟨a9, c9, rfl, o9, r9, hb⟩)
    refine hK.out _ _ (D.below hb).box (fun _ => ?_)
    clear hK K
    try simp only [Act.put]
    try simp only [List.setIfInBounds_toArray]
    try simp only [List.set_cons_succ]
    try simp only [List.set_cons_zero]
    exact dg4112 (D.below hb) o9 r9.byte (by have := putTlv_length H1 4 [121, 97, 114, 100]; simp at this; omega) hb.size D.lt HQ
  exact AllReadyH.nil

set_option maxRecDepth 100000 in
set_option maxHeartbeats 1000000 in
theorem dg3012 {Q : Exit → Act → World → Prop} {C X l0 c0 cap : Nat} {a0 lo : Option Addr} {z0 : List Int} {k id a b : Int} {ys : List BI} {S : ByteArray} {w w4 W : World} {u0 u1 u2 u3 u7 u8 u9 u10 u11 u12 u13 u14 u15 : Value} {v18 v20 v21 v23 : Value} {a6 : Option Addr} {c6 : Nat} {H1 : List Int} {bY : Nat} (D : DG w w4 W C X a0 l0 c0 z0 k id a b lo cap ys) (r6 : Row W a6 H1.length c6 H1) (l6 : H1.length ≤ 500) (hY : w4.heap.size ≤ bY) (rY : Row W (some ⟨bY, 0, none⟩) 4 4 [121, 97, 114, 100]) (HQ : Hid (∀ (v17 v18 v20 v21 v22 v23 v24 v25 v27 v28 : Value) (ao : Option Addr) (n cp : Nat) (zs : List Int) (W : World), n ≤ 3000 → Row W ao n cp zs → Below C w W → Q .normal ⟨#[u0, u1, .string S, .slice ao n cp, .pointer (some ⟨C, 0, none⟩), .string S, .pointer (some ⟨X, 0, none⟩), u7, u8, u9, u10, u11, u12, u13, u14, u15, .string S, v17, v18, .pointer (some ⟨C, 0, none⟩), v20, v21, v22, v23, v24, v25, .agg #[.int .i64 k, .int .i64 id, .int .i64 a, .int .i64 b, .slice lo ys.length cap], v27, v28, .slice ao n cp, undef, undef, undef, undef, undef], []⟩ W)) :
    wpAnyH Tryz.prog .any dOps Q (fun W => W.heap[X]? = some (.cells #[.int .i64 k, .int .i64 id, .int .i64 a, .int .i64 b, .slice lo ys.length cap] 26)) 7 #[true, false, true, true, true, true, true, true, true, false, true, false, false, false, false, false] ⟨#[u0, u1, u2, u3, .pointer (some ⟨C, 0, none⟩), .string S, .pointer (some ⟨X, 0, none⟩), u7, u8, u9, u10, u11, u12, u13, u14, u15, .string S, undef, v18, .pointer (some ⟨C, 0, none⟩), v20, v21, .slice a6 H1.length c6, v23, .slice (some ⟨bY, 0, none⟩) 4 4, undef, .agg #[.int .i64 k, .int .i64 id, .int .i64 a, .int .i64 b, .slice lo ys.length cap], undef, undef, undef, undef, undef, undef, undef, undef], []⟩ W := by
  unfold dOps
  refine wpAnyH_ready (rs := [1, 9]) (by kernel_rfl) (by simp) ?_
  refine AllReadyH.cons rfl (fun K hK => ?_) ?_
  · go_simp
    refine hK.out _ _ (kept_block D.box (below_one _ _)) (fun _ => ?_)
    clear hK K
    try simp only [Act.put]
    try simp only [List.setIfInBounds_toArray]
    try simp only [List.set_cons_succ]
    try simp only [List.set_cons_zero]
    exact dg3112 (D.below (below_one W (.cells #[] 5))) (r6.below (below_one W (.cells #[] 5))) l6 hY (rY.below (below_one W (.cells #[] 5))) HQ
  refine AllReadyH.cons rfl (fun K hK => ?_) ?_
  · go_simp
    go_wp2_with (go_at_call 24; refine (specTlv_made _ _ _ H1 4 _ _ _ [121, 97, 114, 100] _ rfl _ r6 rY (by omega)).mono ?_; rintro e W' ⟨a9, c9, rfl, o9, r9, hb⟩)
    refine hK.out _ _ (D.below hb).box (fun _ => ?_)
    clear hK K
    try simp only [Act.put]
    try simp only [List.setIfInBounds_toArray]
    try simp only [List.set_cons_succ]
    try simp only [List.set_cons_zero]
    exact dg4012 (D.below hb) o9 r9.byte (by have := putTlv_length H1 4 [121, 97, 114, 100]; simp at this; omega) hb.size D.lt HQ
  exact AllReadyH.nil

set_option maxRecDepth 100000 in
set_option maxHeartbeats 1000000 in
theorem dg3111 {Q : Exit → Act → World → Prop} {C X l0 c0 cap : Nat} {a0 lo : Option Addr} {z0 : List Int} {k id a b : Int} {ys : List BI} {S : ByteArray} {w w4 W : World} {u0 u1 u2 u3 u7 u8 u9 u10 u11 u12 u13 u14 u15 : Value} {bA : Nat} {v18 v20 v21 : Value} {a6 : Option Addr} {c6 : Nat} {H1 : List Int} {bY : Nat} (D : DG w w4 W C X a0 l0 c0 z0 k id a b lo cap ys) (r6 : Row W a6 H1.length c6 H1) (l6 : H1.length ≤ 500) (hY : w4.heap.size ≤ bY) (yb : W.heap[bY]? = some (.cells #[.int .u8 121, .int .u8 97, .int .u8 114, .int .u8 100] 5)) (HQ : Hid (∀ (v17 v18 v20 v21 v22 v23 v24 v25 v27 v28 : Value) (ao : Option Addr) (n cp : Nat) (zs : List Int) (W : World), n ≤ 3000 → Row W ao n cp zs → Below C w W → Q .normal ⟨#[u0, u1, .string S, .slice ao n cp, .pointer (some ⟨C, 0, none⟩), .string S, .pointer (some ⟨X, 0, none⟩), u7, u8, u9, u10, u11, u12, u13, u14, u15, .string S, v17, v18, .pointer (some ⟨C, 0, none⟩), v20, v21, v22, v23, v24, v25, .agg #[.int .i64 k, .int .i64 id, .int .i64 a, .int .i64 b, .slice lo ys.length cap], v27, v28, .slice ao n cp, undef, undef, undef, undef, undef], []⟩ W)) :
    wpAnyH Tryz.prog .any dOps Q (fun W => W.heap[X]? = some (.cells #[.int .i64 k, .int .i64 id, .int .i64 a, .int .i64 b, .slice lo ys.length cap] 26)) 7 #[true, true, true, true, true, true, true, true, false, false, true, false, false, false, false, false] ⟨#[u0, u1, u2, u3, .pointer (some ⟨C, 0, none⟩), .string S, .pointer (some ⟨X, 0, none⟩), u7, u8, u9, u10, u11, u12, u13, u14, u15, .string S, .slice (some ⟨bA, 0, none⟩) 0 0, v18, .pointer (some ⟨C, 0, none⟩), v20, v21, .slice a6 H1.length c6, .slice (some ⟨bY, 0, none⟩) 4 4, undef, undef, .agg #[.int .i64 k, .int .i64 id, .int .i64 a, .int .i64 b, .slice lo ys.length cap], undef, undef, undef, undef, undef, undef, undef, undef], []⟩ W := by
  unfold dOps
  refine wpAnyH_ready (rs := [8]) (by kernel_rfl) (by simp) ?_
  refine AllReadyH.cons rfl (fun K hK => ?_) ?_
  · have hcv := conv_yard yb
    go_simp
    refine hK.out _ _ (D.freeze hY).box (fun _ => ?_)
    clear hK K hcv
    try simp only [Act.put]
    try simp only [List.setIfInBounds_toArray]
    try simp only [List.set_cons_succ]
    try simp only [List.set_cons_zero]
    exact dg3112 (D.freeze hY) (row_freeze r6 yb) l6 hY (row_yard yb) HQ
  exact AllReadyH.nil

set_option maxRecDepth 100000 in
set_option maxHeartbeats 1000000 in
theorem dg3011 {Q : Exit → Act → World → Prop} {C X l0 c0 cap : Nat} {a0 lo : Option Addr} {z0 : List Int} {k id a b : Int} {ys : List BI} {S : ByteArray} {w w4 W : World} {u0 u1 u2 u3 u7 u8 u9 u10 u11 u12 u13 u14 u15 : Value} {v18 v20 v21 : Value} {a6 : Option Addr} {c6 : Nat} {H1 : List Int} {bY : Nat} (D : DG w w4 W C X a0 l0 c0 z0 k id a b lo cap ys) (r6 : Row W a6 H1.length c6 H1) (l6 : H1.length ≤ 500) (hY : w4.heap.size ≤ bY) (yb : W.heap[bY]? = some (.cells #[.int .u8 121, .int .u8 97, .int .u8 114, .int .u8 100] 5)) (HQ : Hid (∀ (v17 v18 v20 v21 v22 v23 v24 v25 v27 v28 : Value) (ao : Option Addr) (n cp : Nat) (zs : List Int) (W : World), n ≤ 3000 → Row W ao n cp zs → Below C w W → Q .normal ⟨#[u0, u1, .string S, .slice ao n cp, .pointer (some ⟨C, 0, none⟩), .string S, .pointer (some ⟨X, 0, none⟩), u7, u8, u9, u10, u11, u12, u13, u14, u15, .string S, v17, v18, .pointer (some ⟨C, 0, none⟩), v20, v21, v22, v23, v24, v25, .agg #[.int .i64 k, .int .i64 id, .int .i64 a, .int .i64 b, .slice lo ys.length cap], v27, v28, .slice ao n cp, undef, undef, undef, undef, undef], []⟩ W)) :
    wpAnyH Tryz.prog .any dOps Q (fun W => W.heap[X]? = some (.cells #[.int .i64 k, .int .i64 id, .int .i64 a, .int .i64 b, .slice lo ys.length cap] 26)) 8 #[true, false, true, true, true, true, true, true, false, false, true, false, false, false, false, false] ⟨#[u0, u1, u2, u3, .pointer (some ⟨C, 0, none⟩), .string S, .pointer (some ⟨X, 0, none⟩), u7, u8, u9, u10, u11, u12, u13, u14, u15, .string S, undef, v18, .pointer (some ⟨C, 0, none⟩), v20, v21, .slice a6 H1.length c6, .slice (some ⟨bY, 0, none⟩) 4 4, undef, undef, .agg #[.int .i64 k, .int .i64 id, .int .i64 a, .int .i64 b, .slice lo ys.length cap], undef, undef, undef, undef, undef, undef, undef, undef], []⟩ W := by
  unfold dOps
  refine wpAnyH_ready (rs := [1, 8]) (by kernel_rfl) (by simp) ?_
  refine AllReadyH.cons rfl (fun K hK => ?_) ?_
  · go_simp
    refine hK.out _ _ (kept_block D.box (below_one _ _)) (fun _ => ?_)
    clear hK K
    try simp only [Act.put]
    try simp only [List.setIfInBounds_toArray]
    try simp only [List.set_cons_succ]
    try simp only [List.set_cons_zero]
    exact dg3111 (D.below (below_one W (.cells #[] 5))) (r6.below (below_one W (.cells #[] 5))) l6 hY (kept_block yb (below_one W (.cells #[] 5))) HQ
  refine AllReadyH.cons rfl (fun K hK => ?_) ?_
  · have hcv := conv_yard yb
    go_simp
    refine hK.out _ _ (D.freeze hY).box (fun _ => ?_)
    clear hK K hcv
    try simp only [Act.put]
    try simp only [List.setIfInBounds_toArray]
    try simp only [List.set_cons_succ]
    try simp only [List.set_cons_zero]
    exact dg3012 (D.freeze hY) (row_freeze r6 yb) l6 hY (row_yard yb) HQ
  exact AllReadyH.nil

set_option maxRecDepth 100000 in
set_option maxHeartbeats 1000000 in
theorem dg3110 {Q : Exit → Act → World → Prop} {C X l0 c0 cap : Nat} {a0 lo : Option Addr} {z0 : List Int} {k id a b : Int} {ys : List BI} {S : ByteArray} {w w4 W : World} {u0 u1 u2 u3 u7 u8 u9 u10 u11 u12 u13 u14 u15 : Value} {bA : Nat} {v18 v20 v21 : Value} {a6 : Option Addr} {c6 : Nat} {H1 : List Int} (D : DG w w4 W C X a0 l0 c0 z0 k id a b lo cap ys) (r6 : Row W a6 H1.length c6 H1) (l6 : H1.length ≤ 500) (HQ : Hid (∀ (v17 v18 v20 v21 v22 v23 v24 v25 v27 v28 : Value) (ao : Option Addr) (n cp : Nat) (zs : List Int) (W : World), n ≤ 3000 → Row W ao n cp zs → Below C w W → Q .normal ⟨#[u0, u1, .string S, .slice ao n cp, .pointer (some ⟨C, 0, none⟩), .string S, .pointer (some ⟨X, 0, none⟩), u7, u8, u9, u10, u11, u12, u13, u14, u15, .string S, v17, v18, .pointer (some ⟨C, 0, none⟩), v20, v21, v22, v23, v24, v25, .agg #[.int .i64 k, .int .i64 id, .int .i64 a, .int .i64 b, .slice lo ys.length cap], v27, v28, .slice ao n cp, undef, undef, undef, undef, undef], []⟩ W)) :
    wpAnyH Tryz.prog .any dOps Q (fun W => W.heap[X]? = some (.cells #[.int .i64 k, .int .i64 id, .int .i64 a, .int .i64 b, .slice lo ys.length cap] 26)) 8 #[true, true, true, true, true, true, true, false, false, false, true, false, false, false, false, false] ⟨#[u0, u1, u2, u3, .pointer (some ⟨C, 0, none⟩), .string S, .pointer (some ⟨X, 0, none⟩), u7, u8, u9, u10, u11, u12, u13, u14, u15, .string S, .slice (some ⟨bA, 0, none⟩) 0 0, v18, .pointer (some ⟨C, 0, none⟩), v20, v21, .slice a6 H1.length c6, undef, undef, undef, .agg #[.int .i64 k, .int .i64 id, .int .i64 a, .int .i64 b, .slice lo ys.length cap], undef, undef, undef, undef, undef, undef, undef, undef], []⟩ W := by
  unfold dOps
  refine wpAnyH_ready (rs := [7]) (by kernel_rfl) (by simp) ?_
  refine AllReadyH.cons rfl (fun K hK => ?_) ?_
  · go_simp
    refine hK.out _ _ (kept_block D.box (below_one _ _)) (fun _ => ?_)
    clear hK K
    try simp only [Act.put]
    try simp only [List.setIfInBounds_toArray]
    try simp only [List.set_cons_succ]
    try simp only [List.set_cons_zero]
    exact dg3111 (D.below (below_one W (.cells #[.int .u8 121, .int .u8 97, .int .u8 114, .int .u8 100] 5))) (r6.below (below_one W (.cells #[.int .u8 121, .int .u8 97, .int .u8 114, .int .u8 100] 5))) l6 D.size4 (block_last W _) HQ
  exact AllReadyH.nil

set_option maxRecDepth 100000 in
set_option maxHeartbeats 1000000 in
theorem dg3010 {Q : Exit → Act → World → Prop} {C X l0 c0 cap : Nat} {a0 lo : Option Addr} {z0 : List Int} {k id a b : Int} {ys : List BI} {S : ByteArray} {w w4 W : World} {u0 u1 u2 u3 u7 u8 u9 u10 u11 u12 u13 u14 u15 : Value} {v18 v20 v21 : Value} {a6 : Option Addr} {c6 : Nat} {H1 : List Int} (D : DG w w4 W C X a0 l0 c0 z0 k id a b lo cap ys) (r6 : Row W a6 H1.length c6 H1) (l6 : H1.length ≤ 500) (HQ : Hid (∀ (v17 v18 v20 v21 v22 v23 v24 v25 v27 v28 : Value) (ao : Option Addr) (n cp : Nat) (zs : List Int) (W : World), n ≤ 3000 → Row W ao n cp zs → Below C w W → Q .normal ⟨#[u0, u1, .string S, .slice ao n cp, .pointer (some ⟨C, 0, none⟩), .string S, .pointer (some ⟨X, 0, none⟩), u7, u8, u9, u10, u11, u12, u13, u14, u15, .string S, v17, v18, .pointer (some ⟨C, 0, none⟩), v20, v21, v22, v23, v24, v25, .agg #[.int .i64 k, .int .i64 id, .int .i64 a, .int .i64 b, .slice lo ys.length cap], v27, v28, .slice ao n cp, undef, undef, undef, undef, undef], []⟩ W)) :
    wpAnyH Tryz.prog .any dOps Q (fun W => W.heap[X]? = some (.cells #[.int .i64 k, .int .i64 id, .int .i64 a, .int .i64 b, .slice lo ys.length cap] 26)) 9 #[true, false, true, true, true, true, true, false, false, false, true, false, false, false, false, false] ⟨#[u0, u1, u2, u3, .pointer (some ⟨C, 0, none⟩), .string S, .pointer (some ⟨X, 0, none⟩), u7, u8, u9, u10, u11, u12, u13, u14, u15, .string S, undef, v18, .pointer (some ⟨C, 0, none⟩), v20, v21, .slice a6 H1.length c6, undef, undef, undef, .agg #[.int .i64 k, .int .i64 id, .int .i64 a, .int .i64 b, .slice lo ys.length cap], undef, undef, undef, undef, undef, undef, undef, undef], []⟩ W := by
  unfold dOps
  refine wpAnyH_ready (rs := [1, 7]) (by kernel_rfl) (by simp) ?_
  refine AllReadyH.cons rfl (fun K hK => ?_) ?_
  · go_simp
    refine hK.out _ _ (kept_block D.box (below_one _ _)) (fun _ => ?_)
    clear hK K
    try simp only [Act.put]
    try simp only [List.setIfInBounds_toArray]
    try simp only [List.set_cons_succ]
    try simp only [List.set_cons_zero]
    exact dg3110 (D.below (below_one W (.cells #[] 5))) (r6.below (below_one W (.cells #[] 5))) l6 HQ
  refine AllReadyH.cons rfl (fun K hK => ?_) ?_
  · go_simp
    refine hK.out _ _ (kept_block D.box (below_one _ _)) (fun _ => ?_)
    clear hK K
    try simp only [Act.put]
    try simp only [List.setIfInBounds_toArray]
    try simp only [List.set_cons_succ]
    try simp only [List.set_cons_zero]
    exact dg3011 (D.below (below_one W (.cells #[.int .u8 121, .int .u8 97, .int .u8 114, .int .u8 100] 5))) (r6.below (below_one W (.cells #[.int .u8 121, .int .u8 97, .int .u8 114, .int .u8 100] 5))) l6 D.size4 (block_last W _) HQ
  exact AllReadyH.nil

set_option maxRecDepth 100000 in
set_option maxHeartbeats 1000000 in
theorem dg2112 {Q : Exit → Act → World → Prop} {C X l0 c0 cap : Nat} {a0 lo : Option Addr} {z0 : List Int} {k id a b : Int} {ys : List BI} {S : ByteArray} {w w4 W : World} {u0 u1 u2 u3 u7 u8 u9 u10 u11 u12 u13 u14 u15 : Value} {bA : Nat} {bB : Nat} {v20 v23 : Value} {a5 : Option Addr} {c5 : Nat} {P1 : List Int} {bY : Nat} (D : DG w w4 W C X a0 l0 c0 z0 k id a b lo cap ys) (r5 : Row W a5 P1.length c5 P1) (l5 : P1.length ≤ 100) (hY : w4.heap.size ≤ bY) (rY : Row W (some ⟨bY, 0, none⟩) 4 4 [121, 97, 114, 100]) (HQ : Hid (∀ (v17 v18 v20 v21 v22 v23 v24 v25 v27 v28 : Value) (ao : Option Addr) (n cp : Nat) (zs : List Int) (W : World), n ≤ 3000 → Row W ao n cp zs → Below C w W → Q .normal ⟨#[u0, u1, .string S, .slice ao n cp, .pointer (some ⟨C, 0, none⟩), .string S, .pointer (some ⟨X, 0, none⟩), u7, u8, u9, u10, u11, u12, u13, u14, u15, .string S, v17, v18, .pointer (some ⟨C, 0, none⟩), v20, v21, v22, v23, v24, v25, .agg #[.int .i64 k, .int .i64 id, .int .i64 a, .int .i64 b, .slice lo ys.length cap], v27, v28, .slice ao n cp, undef, undef, undef, undef, undef], []⟩ W)) :
    wpAnyH Tryz.prog .any dOps Q (fun W => W.heap[X]? = some (.cells #[.int .i64 k, .int .i64 id, .int .i64 a, .int .i64 b, .slice lo ys.length cap] 26)) 7 #[true, true, true, true, true, true, false, true, true, false, true, false, false, false, false, false] ⟨#[u0, u1, u2, u3, .pointer (some ⟨C, 0, none⟩), .string S, .pointer (some ⟨X, 0, none⟩), u7, u8, u9, u10, u11, u12, u13, u14, u15, .string S, .slice (some ⟨bA, 0, none⟩) 0 0, .slice (some ⟨bB, 0, none⟩) 0 0, .pointer (some ⟨C, 0, none⟩), v20, .slice a5 P1.length c5, undef, v23, .slice (some ⟨bY, 0, none⟩) 4 4, undef, .agg #[.int .i64 k, .int .i64 id, .int .i64 a, .int .i64 b, .slice lo ys.length cap], undef, undef, undef, undef, undef, undef, undef, undef], []⟩ W := by
  unfold dOps
  refine wpAnyH_ready (rs := [6]) (by kernel_rfl) (by simp) ?_
  refine AllReadyH.cons rfl (fun K hK => ?_) ?_
  · go_simp
    go_wp2_with (go_at_call 24; refine (specTlv_made _ _ _ [] 2 _ _ _ P1 _ rfl _ (empty_row _ _) r5 (by omega)).mono ?_; rintro e W' ⟨a6, c6, rfl, -, r6, hb⟩)
    refine hK.out _ _ (D.below hb).box (fun _ => ?_)
    clear hK K
    try simp only [Act.put]
    try simp only [List.setIfInBounds_toArray]
    try simp only [List.set_cons_succ]
    try simp only [List.set_cons_zero]
    exact dg3112 (D.below hb) r6 (by have := putTlv_length [] 2 P1; simp at this; omega) hY (rY.below hb) HQ
  exact AllReadyH.nil

set_option maxRecDepth 100000 in
set_option maxHeartbeats 1000000 in
theorem dg2012 {Q : Exit → Act → World → Prop} {C X l0 c0 cap : Nat} {a0 lo : Option Addr} {z0 : List Int} {k id a b : Int} {ys : List BI} {S : ByteArray} {w w4 W : World} {u0 u1 u2 u3 u7 u8 u9 u10 u11 u12 u13 u14 u15 : Value} {bB : Nat} {v20 v23 : Value} {a5 : Option Addr} {c5 : Nat} {P1 : List Int} {bY : Nat} (D : DG w w4 W C X a0 l0 c0 z0 k id a b lo cap ys) (r5 : Row W a5 P1.length c5 P1) (l5 : P1.length ≤ 100) (hY : w4.heap.size ≤ bY) (rY : Row W (some ⟨bY, 0, none⟩) 4 4 [121, 97, 114, 100]) (HQ : Hid (∀ (v17 v18 v20 v21 v22 v23 v24 v25 v27 v28 : Value) (ao : Option Addr) (n cp : Nat) (zs : List Int) (W : World), n ≤ 3000 → Row W ao n cp zs → Below C w W → Q .normal ⟨#[u0, u1, .string S, .slice ao n cp, .pointer (some ⟨C, 0, none⟩), .string S, .pointer (some ⟨X, 0, none⟩), u7, u8, u9, u10, u11, u12, u13, u14, u15, .string S, v17, v18, .pointer (some ⟨C, 0, none⟩), v20, v21, v22, v23, v24, v25, .agg #[.int .i64 k, .int .i64 id, .int .i64 a, .int .i64 b, .slice lo ys.length cap], v27, v28, .slice ao n cp, undef, undef, undef, undef, undef], []⟩ W)) :
    wpAnyH Tryz.prog .any dOps Q (fun W => W.heap[X]? = some (.cells #[.int .i64 k, .int .i64 id, .int .i64 a, .int .i64 b, .slice lo ys.length cap] 26)) 8 #[true, false, true, true, true, true, false, true, true, false, true, false, false, false, false, false] ⟨#[u0, u1, u2, u3, .pointer (some ⟨C, 0, none⟩), .string S, .pointer (some ⟨X, 0, none⟩), u7, u8, u9, u10, u11, u12, u13, u14, u15, .string S, undef, .slice (some ⟨bB, 0, none⟩) 0 0, .pointer (some ⟨C, 0, none⟩), v20, .slice a5 P1.length c5, undef, v23, .slice (some ⟨bY, 0, none⟩) 4 4, undef, .agg #[.int .i64 k, .int .i64 id, .int .i64 a, .int .i64 b, .slice lo ys.length cap], undef, undef, undef, undef, undef, undef, undef, undef], []⟩ W := by
  unfold dOps
  refine wpAnyH_ready (rs := [1, 6]) (by kernel_rfl) (by simp) ?_
  refine AllReadyH.cons rfl (fun K hK => ?_) ?_
  · go_simp
    refine hK.out _ _ (kept_block D.box (below_one _ _)) (fun _ => ?_)
    clear hK K
    try simp only [Act.put]
    try simp only [List.setIfInBounds_toArray]
    try simp only [List.set_cons_succ]
    try simp only [List.set_cons_zero]
    exact dg2112 (D.below (below_one W (.cells #[] 5))) (r5.below (below_one W (.cells #[] 5))) l5 hY (rY.below (below_one W (.cells #[] 5))) HQ
  refine AllReadyH.cons rfl (fun K hK => ?_) ?_
  · go_simp
    go_wp2_with (go_at_call 24; refine (specTlv_made _ _ _ [] 2 _ _ _ P1 _ rfl _ (empty_row _ _) r5 (by omega)).mono ?_; rintro e W' ⟨a6, c6, rfl, -, r6, hb⟩)
    refine hK.out _ _ (D.below hb).box (fun _ => ?_)
    clear hK K
    try simp only [Act.put]
    try simp only [List.setIfInBounds_toArray]
    try simp only [List.set_cons_succ]
    try simp only [List.set_cons_zero]
    exact dg3012 (D.below hb) r6 (by have := putTlv_length [] 2 P1; simp at this; omega) hY (rY.below hb) HQ
  exact AllReadyH.nil

set_option maxRecDepth 100000 in
set_option maxHeartbeats 1000000 in
theorem dg2102 {Q : Exit → Act → World → Prop} {C X l0 c0 cap : Nat} {a0 lo : Option Addr} {z0 : List Int} {k id a b : Int} {ys : List BI} {S : ByteArray} {w w4 W : World} {u0 u1 u2 u3 u7 u8 u9 u10 u11 u12 u13 u14 u15 : Value} {bA : Nat} {v20 v23 : Value} {a5 : Option Addr} {c5 : Nat} {P1 : List Int} {bY : Nat} (D : DG w w4 W C X a0 l0 c0 z0 k id a b lo cap ys) (r5 : Row W a5 P1.length c5 P1) (l5 : P1.length ≤ 100) (hY : w4.heap.size ≤ bY) (rY : Row W (some ⟨bY, 0, none⟩) 4 4 [121, 97, 114, 100]) (HQ : Hid (∀ (v17 v18 v20 v21 v22 v23 v24 v25 v27 v28 : Value) (ao : Option Addr) (n cp : Nat) (zs : List Int) (W : World), n ≤ 3000 → Row W ao n cp zs → Below C w W → Q .normal ⟨#[u0, u1, .string S, .slice ao n cp, .pointer (some ⟨C, 0, none⟩), .string S, .pointer (some ⟨X, 0, none⟩), u7, u8, u9, u10, u11, u12, u13, u14, u15, .string S, v17, v18, .pointer (some ⟨C, 0, none⟩), v20, v21, v22, v23, v24, v25, .agg #[.int .i64 k, .int .i64 id, .int .i64 a, .int .i64 b, .slice lo ys.length cap], v27, v28, .slice ao n cp, undef, undef, undef, undef, undef], []⟩ W)) :
    wpAnyH Tryz.prog .any dOps Q (fun W => W.heap[X]? = some (.cells #[.int .i64 k, .int .i64 id, .int .i64 a, .int .i64 b, .slice lo ys.length cap] 26)) 8 #[true, true, false, true, true, true, false, true, true, false, true, false, false, false, false, false] ⟨#[u0, u1, u2, u3, .pointer (some ⟨C, 0, none⟩), .string S, .pointer (some ⟨X, 0, none⟩), u7, u8, u9, u10, u11, u12, u13, u14, u15, .string S, .slice (some ⟨bA, 0, none⟩) 0 0, undef, .pointer (some ⟨C, 0, none⟩), v20, .slice a5 P1.length c5, undef, v23, .slice (some ⟨bY, 0, none⟩) 4 4, undef, .agg #[.int .i64 k, .int .i64 id, .int .i64 a, .int .i64 b, .slice lo ys.length cap], undef, undef, undef, undef, undef, undef, undef, undef], []⟩ W := by
  unfold dOps
  refine wpAnyH_ready (rs := [2]) (by kernel_rfl) (by simp) ?_
  refine AllReadyH.cons rfl (fun K hK => ?_) ?_
  · go_simp
    refine hK.out _ _ (kept_block D.box (below_one _ _)) (fun _ => ?_)
    clear hK K
    try simp only [Act.put]
    try simp only [List.setIfInBounds_toArray]
    try simp only [List.set_cons_succ]
    try simp only [List.set_cons_zero]
    exact dg2112 (D.below (below_one W (.cells #[] 5))) (r5.below (below_one W (.cells #[] 5))) l5 hY (rY.below (below_one W (.cells #[] 5))) HQ
  exact AllReadyH.nil

set_option maxRecDepth 100000 in
set_option maxHeartbeats 1000000 in
theorem dg2111 {Q : Exit → Act → World → Prop} {C X l0 c0 cap : Nat} {a0 lo : Option Addr} {z0 : List Int} {k id a b : Int} {ys : List BI} {S : ByteArray} {w w4 W : World} {u0 u1 u2 u3 u7 u8 u9 u10 u11 u12 u13 u14 u15 : Value} {bA : Nat} {bB : Nat} {v20 : Value} {a5 : Option Addr} {c5 : Nat} {P1 : List Int} {bY : Nat} (D : DG w w4 W C X a0 l0 c0 z0 k id a b lo cap ys) (r5 : Row W a5 P1.length c5 P1) (l5 : P1.length ≤ 100) (hY : w4.heap.size ≤ bY) (yb : W.heap[bY]? = some (.cells #[.int .u8 121, .int .u8 97, .int .u8 114, .int .u8 100] 5)) (HQ : Hid (∀ (v17 v18 v20 v21 v22 v23 v24 v25 v27 v28 : Value) (ao : Option Addr) (n cp : Nat) (zs : List Int) (W : World), n ≤ 3000 → Row W ao n cp zs → Below C w W → Q .normal ⟨#[u0, u1, .string S, .slice ao n cp, .pointer (some ⟨C, 0, none⟩), .string S, .pointer (some ⟨X, 0, none⟩), u7, u8, u9, u10, u11, u12, u13, u14, u15, .string S, v17, v18, .pointer (some ⟨C, 0, none⟩), v20, v21, v22, v23, v24, v25, .agg #[.int .i64 k, .int .i64 id, .int .i64 a, .int .i64 b, .slice lo ys.length cap], v27, v28, .slice ao n cp, undef, undef, undef, undef, undef], []⟩ W)) :
    wpAnyH Tryz.prog .any dOps Q (fun W => W.heap[X]? = some (.cells #[.int .i64 k, .int .i64 id, .int .i64 a, .int .i64 b, .slice lo ys.length cap] 26)) 8 #[true, true, true, true, true, true, false, true, false, false, true, false, false, false, false, false] ⟨#[u0, u1, u2, u3, .pointer (some ⟨C, 0, none⟩), .string S, .pointer (some ⟨X, 0, none⟩), u7, u8, u9, u10, u11, u12, u13, u14, u15, .string S, .slice (some ⟨bA, 0, none⟩) 0 0, .slice (some ⟨bB, 0, none⟩) 0 0, .pointer (some ⟨C, 0, none⟩), v20, .slice a5 P1.length c5, undef, .slice (some ⟨bY, 0, none⟩) 4 4, undef, undef, .agg #[.int .i64 k, .int .i64 id, .int .i64 a, .int .i64 b, .slice lo ys.length cap], undef, undef, undef, undef, undef, undef, undef, undef], []⟩ W := by
  unfold dOps
  refine wpAnyH_ready (rs := [6, 8]) (by kernel_rfl) (by simp) ?_
  refine AllReadyH.cons rfl (fun K hK => ?_) ?_
  · go_simp
    go_wp2_with (go_at_call 24; refine (specTlv_made _ _ _ [] 2 _ _ _ P1 _ rfl _ (empty_row _ _) r5 (by omega)).mono ?_; rintro e W' ⟨a6, c6, rfl, -, r6, hb⟩)
    refine hK.out _ _ (D.below hb).box (fun _ => ?_)
    clear hK K
    try simp only [Act.put]
    try simp only [List.setIfInBounds_toArray]
    try simp only [List.set_cons_succ]
    try simp only [List.set_cons_zero]
    exact dg3111 (D.below hb) r6 (by have := putTlv_length [] 2 P1; simp at this; omega) hY (kept_block yb hb) HQ
  refine AllReadyH.cons rfl (fun K hK => ?_) ?_
  · have hcv := conv_yard yb
    go_simp
    refine hK.out _ _ (D.freeze hY).box (fun _ => ?_)
    clear hK K hcv
    try simp only [Act.put]
    try simp only [List.setIfInBounds_toArray]
    try simp only [List.set_cons_succ]
    try simp only [List.set_cons_zero]
    exact dg2112 (D.freeze hY) (row_freeze r5 yb) l5 hY (row_yard yb) HQ
  exact AllReadyH.nil

set_option maxRecDepth 100000 in
set_option maxHeartbeats 1000000 in
theorem dg2002 {Q : Exit → Act → World → Prop} {C X l0 c0 cap : Nat} {a0 lo : Option Addr} {z0 : List Int} {k id a b : Int} {ys : List BI} {S : ByteArray} {w w4 W : World} {u0 u1 u2 u3 u7 u8 u9 u10 u11 u12 u13 u14 u15 : Value} {v20 v23 : Value} {a5 : Option Addr} {c5 : Nat} {P1 : List Int} {bY : Nat} (D : DG w w4 W C X a0 l0 c0 z0 k id a b lo cap ys) (r5 : Row W a5 P1.length c5 P1) (l5 : P1.length ≤ 100) (hY : w4.heap.size ≤ bY) (rY : Row W (some ⟨bY, 0, none⟩) 4 4 [121, 97, 114, 100]) (HQ : Hid (∀ (v17 v18 v20 v21 v22 v23 v24 v25 v27 v28 : Value) (ao : Option Addr) (n cp : Nat) (zs : List Int) (W : World), n ≤ 3000 → Row W ao n cp zs → Below C w W → Q .normal ⟨#[u0, u1, .string S, .slice ao n cp, .pointer (some ⟨C, 0, none⟩), .string S, .pointer (some ⟨X, 0, none⟩), u7, u8, u9, u10, u11, u12, u13, u14, u15, .string S, v17, v18, .pointer (some ⟨C, 0, none⟩), v20, v21, v22, v23, v24, v25, .agg #[.int .i64 k, .int .i64 id, .int .i64 a, .int .i64 b, .slice lo ys.length cap], v27, v28, .slice ao n cp, undef, undef, undef, undef, undef], []⟩ W)) :
    wpAnyH Tryz.prog .any dOps Q (fun W => W.heap[X]? = some (.cells #[.int .i64 k, .int .i64 id, .int .i64 a, .int .i64 b, .slice lo ys.length cap] 26)) 9 #[true, false, false, true, true, true, false, true, true, false, true, false, false, false, false, false] ⟨#[u0, u1, u2, u3, .pointer (some ⟨C, 0, none⟩), .string S, .pointer (some ⟨X, 0, none⟩), u7, u8, u9, u10, u11, u12, u13, u14, u15, .string S, undef, undef, .pointer (some ⟨C, 0, none⟩), v20, .slice a5 P1.length c5, undef, v23, .slice (some ⟨bY, 0, none⟩) 4 4, undef, .agg #[.int .i64 k, .int .i64 id, .int .i64 a, .int .i64 b, .slice lo ys.length cap], undef, undef, undef, undef, undef, undef, undef, undef], []⟩ W := by
  unfold dOps
  refine wpAnyH_ready (rs := [1, 2]) (by kernel_rfl) (by simp) ?_
  refine AllReadyH.cons rfl (fun K hK => ?_) ?_
  · go_simp
    refine hK.out _ _ (kept_block D.box (below_one _ _)) (fun _ => ?_)
    clear hK K
    try simp only [Act.put]
    try simp only [List.setIfInBounds_toArray]
    try simp only [List.set_cons_succ]
    try simp only [List.set_cons_zero]
    exact dg2102 (D.below (below_one W (.cells #[] 5))) (r5.below (below_one W (.cells #[] 5))) l5 hY (rY.below (below_one W (.cells #[] 5))) HQ
  refine AllReadyH.cons rfl (fun K hK => ?_) ?_
  · go_simp
    refine hK.out _ _ (kept_block D.box (below_one _ _)) (fun _ => ?_)
    clear hK K
    try simp only [Act.put]
    try simp only [List.setIfInBounds_toArray]
    try simp only [List.set_cons_succ]
    try simp only [List.set_cons_zero]
    exact dg2012 (D.below (below_one W (.cells #[] 5))) (r5.below (below_one W (.cells #[] 5))) l5 hY (rY.below (below_one W (.cells #[] 5))) HQ
  exact AllReadyH.nil

set_option maxRecDepth 100000 in
set_option maxHeartbeats 1000000 in
theorem dg2011 {Q : Exit → Act → World → Prop} {C X l0 c0 cap : Nat} {a0 lo : Option Addr} {z0 : List Int} {k id a b : Int} {ys : List BI} {S : ByteArray} {w w4 W : World} {u0 u1 u2 u3 u7 u8 u9 u10 u11 u12 u13 u14 u15 : Value} {bB : Nat} {v20 : Value} {a5 : Option Addr} {c5 : Nat} {P1 : List Int} {bY : Nat} (D : DG w w4 W C X a0 l0 c0 z0 k id a b lo cap ys) (r5 : Row W a5 P1.length c5 P1) (l5 : P1.length ≤ 100) (hY : w4.heap.size ≤ bY) (yb : W.heap[bY]? = some (.cells #[.int .u8 121, .int .u8 97, .int .u8 114, .int .u8 100] 5)) (HQ : Hid (∀ (v17 v18 v20 v21 v22 v23 v24 v25 v27 v28 : Value) (ao : Option Addr) (n cp : Nat) (zs : List Int) (W : World), n ≤ 3000 → Row W ao n cp zs → Below C w W → Q .normal ⟨#[u0, u1, .string S, .slice ao n cp, .pointer (some ⟨C, 0, none⟩), .string S, .pointer (some ⟨X, 0, none⟩), u7, u8, u9, u10, u11, u12, u13, u14, u15, .string S, v17, v18, .pointer (some ⟨C, 0, none⟩), v20, v21, v22, v23, v24, v25, .agg #[.int .i64 k, .int .i64 id, .int .i64 a, .int .i64 b, .slice lo ys.length cap], v27, v28, .slice ao n cp, undef, undef, undef, undef, undef], []⟩ W)) :
    wpAnyH Tryz.prog .any dOps Q (fun W => W.heap[X]? = some (.cells #[.int .i64 k, .int .i64 id, .int .i64 a, .int .i64 b, .slice lo ys.length cap] 26)) 9 #[true, false, true, true, true, true, false, true, false, false, true, false, false, false, false, false] ⟨#[u0, u1, u2, u3, .pointer (some ⟨C, 0, none⟩), .string S, .pointer (some ⟨X, 0, none⟩), u7, u8, u9, u10, u11, u12, u13, u14, u15, .string S, undef, .slice (some ⟨bB, 0, none⟩) 0 0, .pointer (some ⟨C, 0, none⟩), v20, .slice a5 P1.length c5, undef, .slice (some ⟨bY, 0, none⟩) 4 4, undef, undef, .agg #[.int .i64 k, .int .i64 id, .int .i64 a, .int .i64 b, .slice lo ys.length cap], undef, undef, undef, undef, undef, undef, undef, undef], []⟩ W := by
  unfold dOps
  refine wpAnyH_ready (rs := [1, 6, 8]) (by kernel_rfl) (by simp) ?_
  refine AllReadyH.cons rfl (fun K hK => ?_) ?_
  · go_simp
    refine hK.out _ _ (kept_block D.box (below_one _ _)) (fun _ => ?_)
    clear hK K
    try simp only [Act.put]
    try simp only [List.setIfInBounds_toArray]
    try simp only [List.set_cons_succ]
    try simp only [List.set_cons_zero]
    exact dg2111 (D.below (below_one W (.cells #[] 5))) (r5.below (below_one W (.cells #[] 5))) l5 hY (kept_block yb (below_one W (.cells #[] 5))) HQ
  refine AllReadyH.cons rfl (fun K hK => ?_) ?_
  · go_simp
    go_wp2_with (go_at_call 24; refine (specTlv_made _ _ _ [] 2 _ _ _ P1 _ rfl _ (empty_row _ _) r5 (by omega)).mono ?_; rintro e W' ⟨a6, c6, rfl, -, r6, hb⟩)
    refine hK.out _ _ (D.below hb).box (fun _ => ?_)
    clear hK K
    try simp only [Act.put]
    try simp only [List.setIfInBounds_toArray]
    try simp only [List.set_cons_succ]
    try simp only [List.set_cons_zero]
    exact dg3011 (D.below hb) r6 (by have := putTlv_length [] 2 P1; simp at this; omega) hY (kept_block yb hb) HQ
  refine AllReadyH.cons rfl (fun K hK => ?_) ?_
  · have hcv := conv_yard yb
    go_simp
    refine hK.out _ _ (D.freeze hY).box (fun _ => ?_)
    clear hK K hcv
    try simp only [Act.put]
    try simp only [List.setIfInBounds_toArray]
    try simp only [List.set_cons_succ]
    try simp only [List.set_cons_zero]
    exact dg2012 (D.freeze hY) (row_freeze r5 yb) l5 hY (row_yard yb) HQ
  exact AllReadyH.nil

set_option maxRecDepth 100000 in
set_option maxHeartbeats 1000000 in
theorem dg2101 {Q : Exit → Act → World → Prop} {C X l0 c0 cap : Nat} {a0 lo : Option Addr} {z0 : List Int} {k id a b : Int} {ys : List BI} {S : ByteArray} {w w4 W : World} {u0 u1 u2 u3 u7 u8 u9 u10 u11 u12 u13 u14 u15 : Value} {bA : Nat} {v20 : Value} {a5 : Option Addr} {c5 : Nat} {P1 : List Int} {bY : Nat} (D : DG w w4 W C X a0 l0 c0 z0 k id a b lo cap ys) (r5 : Row W a5 P1.length c5 P1) (l5 : P1.length ≤ 100) (hY : w4.heap.size ≤ bY) (yb : W.heap[bY]? = some (.cells #[.int .u8 121, .int .u8 97, .int .u8 114, .int .u8 100] 5)) (HQ : Hid (∀ (v17 v18 v20 v21 v22 v23 v24 v25 v27 v28 : Value) (ao : Option Addr) (n cp : Nat) (zs : List Int) (W : World), n ≤ 3000 → Row W ao n cp zs → Below C w W → Q .normal ⟨#[u0, u1, .string S, .slice ao n cp, .pointer (some ⟨C, 0, none⟩), .string S, .pointer (some ⟨X, 0, none⟩), u7, u8, u9, u10, u11, u12, u13, u14, u15, .string S, v17, v18, .pointer (some ⟨C, 0, none⟩), v20, v21, v22, v23, v24, v25, .agg #[.int .i64 k, .int .i64 id, .int .i64 a, .int .i64 b, .slice lo ys.length cap], v27, v28, .slice ao n cp, undef, undef, undef, undef, undef], []⟩ W)) :
    wpAnyH Tryz.prog .any dOps Q (fun W => W.heap[X]? = some (.cells #[.int .i64 k, .int .i64 id, .int .i64 a, .int .i64 b, .slice lo ys.length cap] 26)) 9 #[true, true, false, true, true, true, false, true, false, false, true, false, false, false, false, false] ⟨#[u0, u1, u2, u3, .pointer (some ⟨C, 0, none⟩), .string S, .pointer (some ⟨X, 0, none⟩), u7, u8, u9, u10, u11, u12, u13, u14, u15, .string S, .slice (some ⟨bA, 0, none⟩) 0 0, undef, .pointer (some ⟨C, 0, none⟩), v20, .slice a5 P1.length c5, undef, .slice (some ⟨bY, 0, none⟩) 4 4, undef, undef, .agg #[.int .i64 k, .int .i64 id, .int .i64 a, .int .i64 b, .slice lo ys.length cap], undef, undef, undef, undef, undef, undef, undef, undef], []⟩ W := by
  unfold dOps
  refine wpAnyH_ready (rs := [2, 8]) (by kernel_rfl) (by simp) ?_
  refine AllReadyH.cons rfl (fun K hK => ?_) ?_
  · go_simp
    refine hK.out _ _ (kept_block D.box (below_one _ _)) (fun _ => ?_)
    clear hK K
    try simp only [Act.put]
    try simp only [List.setIfInBounds_toArray]
    try simp only [List.set_cons_succ]
    try simp only [List.set_cons_zero]
    exact dg2111 (D.below (below_one W (.cells #[] 5))) (r5.below (below_one W (.cells #[] 5))) l5 hY (kept_block yb (below_one W (.cells #[] 5))) HQ
  refine AllReadyH.cons rfl (fun K hK => ?_) ?_
  · have hcv := conv_yard yb
    go_simp
    refine hK.out _ _ (D.freeze hY).box (fun _ => ?_)
    clear hK K hcv
    try simp only [Act.put]
    try simp only [List.setIfInBounds_toArray]
    try simp only [List.set_cons_succ]
    try simp only [List.set_cons_zero]
    exact dg2102 (D.freeze hY) (row_freeze r5 yb) l5 hY (row_yard yb) HQ
  exact AllReadyH.nil

set_option maxRecDepth 100000 in
set_option maxHeartbeats 1000000 in
theorem dg2110 {Q : Exit → Act → World → Prop} {C X l0 c0 cap : Nat} {a0 lo : Option Addr} {z0 : List Int} {k id a b : Int} {ys : List BI} {S : ByteArray} {w w4 W : World} {u0 u1 u2 u3 u7 u8 u9 u10 u11 u12 u13 u14 u15 : Value} {bA : Nat} {bB : Nat} {v20 : Value} {a5 : Option Addr} {c5 : Nat} {P1 : List Int} (D : DG w w4 W C X a0 l0 c0 z0 k id a b lo cap ys) (r5 : Row W a5 P1.length c5 P1) (l5 : P1.length ≤ 100) (HQ : Hid (∀ (v17 v18 v20 v21 v22 v23 v24 v25 v27 v28 : Value) (ao : Option Addr) (n cp : Nat) (zs : List Int) (W : World), n ≤ 3000 → Row W ao n cp zs → Below C w W → Q .normal ⟨#[u0, u1, .string S, .slice ao n cp, .pointer (some ⟨C, 0, none⟩), .string S, .pointer (some ⟨X, 0, none⟩), u7, u8, u9, u10, u11, u12, u13, u14, u15, .string S, v17, v18, .pointer (some ⟨C, 0, none⟩), v20, v21, v22, v23, v24, v25, .agg #[.int .i64 k, .int .i64 id, .int .i64 a, .int .i64 b, .slice lo ys.length cap], v27, v28, .slice ao n cp, undef, undef, undef, undef, undef], []⟩ W)) :
    wpAnyH Tryz.prog .any dOps Q (fun W => W.heap[X]? = some (.cells #[.int .i64 k, .int .i64 id, .int .i64 a, .int .i64 b, .slice lo ys.length cap] 26)) 9 #[true, true, true, true, true, true, false, false, false, false, true, false, false, false, false, false] ⟨#[u0, u1, u2, u3, .pointer (some ⟨C, 0, none⟩), .string S, .pointer (some ⟨X, 0, none⟩), u7, u8, u9, u10, u11, u12, u13, u14, u15, .string S, .slice (some ⟨bA, 0, none⟩) 0 0, .slice (some ⟨bB, 0, none⟩) 0 0, .pointer (some ⟨C, 0, none⟩), v20, .slice a5 P1.length c5, undef, undef, undef, undef, .agg #[.int .i64 k, .int .i64 id, .int .i64 a, .int .i64 b, .slice lo ys.length cap], undef, undef, undef, undef, undef, undef, undef, undef], []⟩ W := by
  unfold dOps
  refine wpAnyH_ready (rs := [6, 7]) (by kernel_rfl) (by simp) ?_
  refine AllReadyH.cons rfl (fun K hK => ?_) ?_
  · go_simp
    go_wp2_with (go_at_call 24; refine (specTlv_made _ _ _ [] 2 _ _ _ P1 _ rfl _ (empty_row _ _) r5 (by omega)).mono ?_; rintro e W' ⟨a6, c6, rfl, -, r6, hb⟩)
    refine hK.out _ _ (D.below hb).box (fun _ => ?_)
    clear hK K
    try simp only [Act.put]
    try simp only [List.setIfInBounds_toArray]
    try simp only [List.set_cons_succ]
    try simp only [List.set_cons_zero]
    exact dg3110 (D.below hb) r6 (by have := putTlv_length [] 2 P1; simp at this; omega) HQ
  refine AllReadyH.cons rfl (fun K hK => ?_) ?_
  · go_simp
    refine hK.out _ _ (kept_block D.box (below_one _ _)) (fun _ => ?_)
    clear hK K
    try simp only [Act.put]
    try simp only [List.setIfInBounds_toArray]
    try simp only [List.set_cons_succ]
    try simp only [List.set_cons_zero]
    exact dg2111 (D.below (below_one W (.cells #[.int .u8 121, .int .u8 97, .int .u8 114, .int .u8 100] 5))) (r5.below (below_one W (.cells #[.int .u8 121, .int .u8 97, .int .u8 114, .int .u8 100] 5))) l5 D.size4 (block_last W _) HQ
  exact AllReadyH.nil

set_option maxRecDepth 100000 in
set_option maxHeartbeats 1000000 in
theorem dg2001 {Q : Exit → Act → World → Prop} {C X l0 c0 cap : Nat} {a0 lo : Option Addr} {z0 : List Int} {k id a b : Int} {ys : List BI} {S : ByteArray} {w w4 W : World} {u0 u1 u2 u3 u7 u8 u9 u10 u11 u12 u13 u14 u15 : Value} {v20 : Value} {a5 : Option Addr} {c5 : Nat} {P1 : List Int} {bY : Nat} (D : DG w w4 W C X a0 l0 c0 z0 k id a b lo cap ys) (r5 : Row W a5 P1.length c5 P1) (l5 : P1.length ≤ 100) (hY : w4.heap.size ≤ bY) (yb : W.heap[bY]? = some (.cells #[.int .u8 121, .int .u8 97, .int .u8 114, .int .u8 100] 5)) (HQ : Hid (∀ (v17 v18 v20 v21 v22 v23 v24 v25 v27 v28 : Value) (ao : Option Addr) (n cp : Nat) (zs : List Int) (W : World), n ≤ 3000 → Row W ao n cp zs → Below C w W → Q .normal ⟨#[u0, u1, .string S, .slice ao n cp, .pointer (some ⟨C, 0, none⟩), .string S, .pointer (some ⟨X, 0, none⟩), u7, u8, u9, u10, u11, u12, u13, u14, u15, .string S, v17, v18, .pointer (some ⟨C, 0, none⟩), v20, v21, v22, v23, v24, v25, .agg #[.int .i64 k, .int .i64 id, .int .i64 a, .int .i64 b, .slice lo ys.length cap], v27, v28, .slice ao n cp, undef, undef, undef, undef, undef], []⟩ W)) :
    wpAnyH Tryz.prog .any dOps Q (fun W => W.heap[X]? = some (.cells #[.int .i64 k, .int .i64 id, .int .i64 a, .int .i64 b, .slice lo ys.length cap] 26)) 10 #[true, false, false, true, true, true, false, true, false, false, true, false, false, false, false, false] ⟨#[u0, u1, u2, u3, .pointer (some ⟨C, 0, none⟩), .string S, .pointer (some ⟨X, 0, none⟩), u7, u8, u9, u10, u11, u12, u13, u14, u15, .string S, undef, undef, .pointer (some ⟨C, 0, none⟩), v20, .slice a5 P1.length c5, undef, .slice (some ⟨bY, 0, none⟩) 4 4, undef, undef, .agg #[.int .i64 k, .int .i64 id, .int .i64 a, .int .i64 b, .slice lo ys.length cap], undef, undef, undef, undef, undef, undef, undef, undef], []⟩ W := by
  unfold dOps
  refine wpAnyH_ready (rs := [1, 2, 8]) (by kernel_rfl) (by simp) ?_
  refine AllReadyH.cons rfl (fun K hK => ?_) ?_
  · go_simp
    refine hK.out _ _ (kept_block D.box (below_one _ _)) (fun _ => ?_)
    clear hK K
    try simp only [Act.put]
    try simp only [List.setIfInBounds_toArray]
    try simp only [List.set_cons_succ]
    try simp only [List.set_cons_zero]
    exact dg2101 (D.below (below_one W (.cells #[] 5))) (r5.below (below_one W (.cells #[] 5))) l5 hY (kept_block yb (below_one W (.cells #[] 5))) HQ
  refine AllReadyH.cons rfl (fun K hK => ?_) ?_
  · go_simp
    refine hK.out _ _ (kept_block D.box (below_one _ _)) (fun _ => ?_)
    clear hK K
    try simp only [Act.put]
    try simp only [List.setIfInBounds_toArray]
    try simp only [List.set_cons_succ]
    try simp only [List.set_cons_zero]
    exact dg2011 (D.below (below_one W (.cells #[] 5))) (r5.below (below_one W (.cells #[] 5))) l5 hY (kept_block yb (below_one W (.cells #[] 5))) HQ
  refine AllReadyH.cons rfl (fun K hK => ?_) ?_
  · have hcv := conv_yard yb
    go_simp
    refine hK.out _ _ (D.freeze hY).box (fun _ => ?_)
    clear hK K hcv
    try simp only [Act.put]
    try simp only [List.setIfInBounds_toArray]
    try simp only [List.set_cons_succ]
    try simp only [List.set_cons_zero]
    exact dg2002 (D.freeze hY) (row_freeze r5 yb) l5 hY (row_yard yb) HQ
  exact AllReadyH.nil

set_option maxRecDepth 100000 in
set_option maxHeartbeats 1000000 in
theorem dg2010 {Q : Exit → Act → World → Prop} {C X l0 c0 cap : Nat} {a0 lo : Option Addr} {z0 : List Int} {k id a b : Int} {ys : List BI} {S : ByteArray} {w w4 W : World} {u0 u1 u2 u3 u7 u8 u9 u10 u11 u12 u13 u14 u15 : Value} {bB : Nat} {v20 : Value} {a5 : Option Addr} {c5 : Nat} {P1 : List Int} (D : DG w w4 W C X a0 l0 c0 z0 k id a b lo cap ys) (r5 : Row W a5 P1.length c5 P1) (l5 : P1.length ≤ 100) (HQ : Hid (∀ (v17 v18 v20 v21 v22 v23 v24 v25 v27 v28 : Value) (ao : Option Addr) (n cp : Nat) (zs : List Int) (W : World), n ≤ 3000 → Row W ao n cp zs → Below C w W → Q .normal ⟨#[u0, u1, .string S, .slice ao n cp, .pointer (some ⟨C, 0, none⟩), .string S, .pointer (some ⟨X, 0, none⟩), u7, u8, u9, u10, u11, u12, u13, u14, u15, .string S, v17, v18, .pointer (some ⟨C, 0, none⟩), v20, v21, v22, v23, v24, v25, .agg #[.int .i64 k, .int .i64 id, .int .i64 a, .int .i64 b, .slice lo ys.length cap], v27, v28, .slice ao n cp, undef, undef, undef, undef, undef], []⟩ W)) :
    wpAnyH Tryz.prog .any dOps Q (fun W => W.heap[X]? = some (.cells #[.int .i64 k, .int .i64 id, .int .i64 a, .int .i64 b, .slice lo ys.length cap] 26)) 10 #[true, false, true, true, true, true, false, false, false, false, true, false, false, false, false, false] ⟨#[u0, u1, u2, u3, .pointer (some ⟨C, 0, none⟩), .string S, .pointer (some ⟨X, 0, none⟩), u7, u8, u9, u10, u11, u12, u13, u14, u15, .string S, undef, .slice (some ⟨bB, 0, none⟩) 0 0, .pointer (some ⟨C, 0, none⟩), v20, .slice a5 P1.length c5, undef, undef, undef, undef, .agg #[.int .i64 k, .int .i64 id, .int .i64 a, .int .i64 b, .slice lo ys.length cap], undef, undef, undef, undef, undef, undef, undef, undef], []⟩ W := by
  unfold dOps
  refine wpAnyH_ready (rs := [1, 6, 7]) (by kernel_rfl) (by simp) ?_
  refine AllReadyH.cons rfl (fun K hK => ?_) ?_
  · go_simp
    refine hK.out _ _ (kept_block D.box (below_one _ _)) (fun _ => ?_)
    clear hK K
    try simp only [Act.put]
    try simp only [List.setIfInBounds_toArray]
    try simp only [List.set_cons_succ]
    try simp only [List.set_cons_zero]
    exact dg2110 (D.below (below_one W (.cells #[] 5))) (r5.below (below_one W (.cells #[] 5))) l5 HQ
  refine AllReadyH.cons rfl (fun K hK => ?_) ?_
  · go_simp
    go_wp2_with (go_at_call 24; refine (specTlv_made _ _ _ [] 2 _ _ _ P1 _ rfl _ (empty_row _ _) r5 (by omega)).mono ?_; rintro e W' ⟨a6, c6, rfl, -, r6, hb⟩)
    refine hK.out _ _ (D.below hb).box (fun _ => ?_)
    clear hK K
    try simp only [Act.put]
    try simp only [List.setIfInBounds_toArray]
    try simp only [List.set_cons_succ]
    try simp only [List.set_cons_zero]
    exact dg3010 (D.below hb) r6 (by have := putTlv_length [] 2 P1; simp at this; omega) HQ
  refine AllReadyH.cons rfl (fun K hK => ?_) ?_
  · go_simp
    refine hK.out _ _ (kept_block D.box (below_one _ _)) (fun _ => ?_)
    clear hK K
    try simp only [Act.put]
    try simp only [List.setIfInBounds_toArray]
    try simp only [List.set_cons_succ]
    try simp only [List.set_cons_zero]
    exact dg2011 (D.below (below_one W (.cells #[.int .u8 121, .int .u8 97, .int .u8 114, .int .u8 100] 5))) (r5.below (below_one W (.cells #[.int .u8 121, .int .u8 97, .int .u8 114, .int .u8 100] 5))) l5 D.size4 (block_last W _) HQ
  exact AllReadyH.nil

set_option maxRecDepth 100000 in
set_option maxHeartbeats 1000000 in
theorem dg2100 {Q : Exit → Act → World → Prop} {C X l0 c0 cap : Nat} {a0 lo : Option Addr} {z0 : List Int} {k id a b : Int} {ys : List BI} {S : ByteArray} {w w4 W : World} {u0 u1 u2 u3 u7 u8 u9 u10 u11 u12 u13 u14 u15 : Value} {bA : Nat} {v20 : Value} {a5 : Option Addr} {c5 : Nat} {P1 : List Int} (D : DG w w4 W C X a0 l0 c0 z0 k id a b lo cap ys) (r5 : Row W a5 P1.length c5 P1) (l5 : P1.length ≤ 100) (HQ : Hid (∀ (v17 v18 v20 v21 v22 v23 v24 v25 v27 v28 : Value) (ao : Option Addr) (n cp : Nat) (zs : List Int) (W : World), n ≤ 3000 → Row W ao n cp zs → Below C w W → Q .normal ⟨#[u0, u1, .string S, .slice ao n cp, .pointer (some ⟨C, 0, none⟩), .string S, .pointer (some ⟨X, 0, none⟩), u7, u8, u9, u10, u11, u12, u13, u14, u15, .string S, v17, v18, .pointer (some ⟨C, 0, none⟩), v20, v21, v22, v23, v24, v25, .agg #[.int .i64 k, .int .i64 id, .int .i64 a, .int .i64 b, .slice lo ys.length cap], v27, v28, .slice ao n cp, undef, undef, undef, undef, undef], []⟩ W)) :
    wpAnyH Tryz.prog .any dOps Q (fun W => W.heap[X]? = some (.cells #[.int .i64 k, .int .i64 id, .int .i64 a, .int .i64 b, .slice lo ys.length cap] 26)) 10 #[true, true, false, true, true, true, false, false, false, false, true, false, false, false, false, false] ⟨#[u0, u1, u2, u3, .pointer (some ⟨C, 0, none⟩), .string S, .pointer (some ⟨X, 0, none⟩), u7, u8, u9, u10, u11, u12, u13, u14, u15, .string S, .slice (some ⟨bA, 0, none⟩) 0 0, undef, .pointer (some ⟨C, 0, none⟩), v20, .slice a5 P1.length c5, undef, undef, undef, undef, .agg #[.int .i64 k, .int .i64 id, .int .i64 a, .int .i64 b, .slice lo ys.length cap], undef, undef, undef, undef, undef, undef, undef, undef], []⟩ W := by
  unfold dOps
  refine wpAnyH_ready (rs := [2, 7]) (by kernel_rfl) (by simp) ?_
  refine AllReadyH.cons rfl (fun K hK => ?_) ?_
  · go_simp
    refine hK.out _ _ (kept_block D.box (below_one _ _)) (fun _ => ?_)
    clear hK K
    try simp only [Act.put]
    try simp only [List.setIfInBounds_toArray]
    try simp only [List.set_cons_succ]
    try simp only [List.set_cons_zero]
    exact dg2110 (D.below (below_one W (.cells #[] 5))) (r5.below (below_one W (.cells #[] 5))) l5 HQ
  refine AllReadyH.cons rfl (fun K hK => ?_) ?_
  · go_simp
    refine hK.out _ _ (kept_block D.box (below_one _ _)) (fun _ => ?_)
    clear hK K
    try simp only [Act.put]
    try simp only [List.setIfInBounds_toArray]
    try simp only [List.set_cons_succ]
    try simp only [List.set_cons_zero]
    exact dg2101 (D.below (below_one W (.cells #[.int .u8 121, .int .u8 97, .int .u8 114, .int .u8 100] 5))) (r5.below (below_one W (.cells #[.int .u8 121, .int .u8 97, .int .u8 114, .int .u8 100] 5))) l5 D.size4 (block_last W _) HQ
  exact AllReadyH.nil

set_option maxRecDepth 100000 in
set_option maxHeartbeats 1000000 in
theorem dg2000 {Q : Exit → Act → World → Prop} {C X l0 c0 cap : Nat} {a0 lo : Option Addr} {z0 : List Int} {k id a b : Int} {ys : List BI} {S : ByteArray} {w w4 W : World} {u0 u1 u2 u3 u7 u8 u9 u10 u11 u12 u13 u14 u15 : Value} {v20 : Value} {a5 : Option Addr} {c5 : Nat} {P1 : List Int} (D : DG w w4 W C X a0 l0 c0 z0 k id a b lo cap ys) (r5 : Row W a5 P1.length c5 P1) (l5 : P1.length ≤ 100) (HQ : Hid (∀ (v17 v18 v20 v21 v22 v23 v24 v25 v27 v28 : Value) (ao : Option Addr) (n cp : Nat) (zs : List Int) (W : World), n ≤ 3000 → Row W ao n cp zs → Below C w W → Q .normal ⟨#[u0, u1, .string S, .slice ao n cp, .pointer (some ⟨C, 0, none⟩), .string S, .pointer (some ⟨X, 0, none⟩), u7, u8, u9, u10, u11, u12, u13, u14, u15, .string S, v17, v18, .pointer (some ⟨C, 0, none⟩), v20, v21, v22, v23, v24, v25, .agg #[.int .i64 k, .int .i64 id, .int .i64 a, .int .i64 b, .slice lo ys.length cap], v27, v28, .slice ao n cp, undef, undef, undef, undef, undef], []⟩ W)) :
    wpAnyH Tryz.prog .any dOps Q (fun W => W.heap[X]? = some (.cells #[.int .i64 k, .int .i64 id, .int .i64 a, .int .i64 b, .slice lo ys.length cap] 26)) 11 #[true, false, false, true, true, true, false, false, false, false, true, false, false, false, false, false] ⟨#[u0, u1, u2, u3, .pointer (some ⟨C, 0, none⟩), .string S, .pointer (some ⟨X, 0, none⟩), u7, u8, u9, u10, u11, u12, u13, u14, u15, .string S, undef, undef, .pointer (some ⟨C, 0, none⟩), v20, .slice a5 P1.length c5, undef, undef, undef, undef, .agg #[.int .i64 k, .int .i64 id, .int .i64 a, .int .i64 b, .slice lo ys.length cap], undef, undef, undef, undef, undef, undef, undef, undef], []⟩ W := by
  unfold dOps
  refine wpAnyH_ready (rs := [1, 2, 7]) (by kernel_rfl) (by simp) ?_
  refine AllReadyH.cons rfl (fun K hK => ?_) ?_
  · go_simp
    refine hK.out _ _ (kept_block D.box (below_one _ _)) (fun _ => ?_)
    clear hK K
    try simp only [Act.put]
    try simp only [List.setIfInBounds_toArray]
    try simp only [List.set_cons_succ]
    try simp only [List.set_cons_zero]
    exact dg2100 (D.below (below_one W (.cells #[] 5))) (r5.below (below_one W (.cells #[] 5))) l5 HQ
  refine AllReadyH.cons rfl (fun K hK => ?_) ?_
  · go_simp
    refine hK.out _ _ (kept_block D.box (below_one _ _)) (fun _ => ?_)
    clear hK K
    try simp only [Act.put]
    try simp only [List.setIfInBounds_toArray]
    try simp only [List.set_cons_succ]
    try simp only [List.set_cons_zero]
    exact dg2010 (D.below (below_one W (.cells #[] 5))) (r5.below (below_one W (.cells #[] 5))) l5 HQ
  refine AllReadyH.cons rfl (fun K hK => ?_) ?_
  · go_simp
    refine hK.out _ _ (kept_block D.box (below_one _ _)) (fun _ => ?_)
    clear hK K
    try simp only [Act.put]
    try simp only [List.setIfInBounds_toArray]
    try simp only [List.set_cons_succ]
    try simp only [List.set_cons_zero]
    exact dg2001 (D.below (below_one W (.cells #[.int .u8 121, .int .u8 97, .int .u8 114, .int .u8 100] 5))) (r5.below (below_one W (.cells #[.int .u8 121, .int .u8 97, .int .u8 114, .int .u8 100] 5))) l5 D.size4 (block_last W _) HQ
  exact AllReadyH.nil

set_option maxRecDepth 100000 in
set_option maxHeartbeats 1000000 in
theorem dg1112 {Q : Exit → Act → World → Prop} {C X l0 c0 cap : Nat} {a0 lo : Option Addr} {z0 : List Int} {k id a b : Int} {ys : List BI} {S : ByteArray} {w w4 W : World} {u0 u1 u2 u3 u7 u8 u9 u10 u11 u12 u13 u14 u15 : Value} {bA : Nat} {bB : Nat} {v23 : Value} {x : Int} {bY : Nat} (D : DG w w4 W C X a0 l0 c0 z0 k id a b lo cap ys) (hY : w4.heap.size ≤ bY) (rY : Row W (some ⟨bY, 0, none⟩) 4 4 [121, 97, 114, 100]) (HQ : Hid (∀ (v17 v18 v20 v21 v22 v23 v24 v25 v27 v28 : Value) (ao : Option Addr) (n cp : Nat) (zs : List Int) (W : World), n ≤ 3000 → Row W ao n cp zs → Below C w W → Q .normal ⟨#[u0, u1, .string S, .slice ao n cp, .pointer (some ⟨C, 0, none⟩), .string S, .pointer (some ⟨X, 0, none⟩), u7, u8, u9, u10, u11, u12, u13, u14, u15, .string S, v17, v18, .pointer (some ⟨C, 0, none⟩), v20, v21, v22, v23, v24, v25, .agg #[.int .i64 k, .int .i64 id, .int .i64 a, .int .i64 b, .slice lo ys.length cap], v27, v28, .slice ao n cp, undef, undef, undef, undef, undef], []⟩ W)) :
    wpAnyH Tryz.prog .any dOps Q (fun W => W.heap[X]? = some (.cells #[.int .i64 k, .int .i64 id, .int .i64 a, .int .i64 b, .slice lo ys.length cap] 26)) 8 #[true, true, true, true, true, false, false, true, true, false, true, false, false, false, false, false] ⟨#[u0, u1, u2, u3, .pointer (some ⟨C, 0, none⟩), .string S, .pointer (some ⟨X, 0, none⟩), u7, u8, u9, u10, u11, u12, u13, u14, u15, .string S, .slice (some ⟨bA, 0, none⟩) 0 0, .slice (some ⟨bB, 0, none⟩) 0 0, .pointer (some ⟨C, 0, none⟩), .int .i64 x, undef, undef, v23, .slice (some ⟨bY, 0, none⟩) 4 4, undef, .agg #[.int .i64 k, .int .i64 id, .int .i64 a, .int .i64 b, .slice lo ys.length cap], undef, undef, undef, undef, undef, undef, undef, undef], []⟩ W := by
  unfold dOps
  refine wpAnyH_ready (rs := [5]) (by kernel_rfl) (by simp) ?_
  refine AllReadyH.cons rfl (fun K hK => ?_) ?_
  · go_simp
    go_wp2_with (go_at_call 25; refine (specInt_made x _ rfl _).mono ?_; rintro e W' ⟨a5, c5, rfl, -, r5, hb⟩)
    refine hK.out _ _ (D.below hb).box (fun _ => ?_)
    clear hK K
    try simp only [Act.put]
    try simp only [List.setIfInBounds_toArray]
    try simp only [List.set_cons_succ]
    try simp only [List.set_cons_zero]
    exact dg2112 (D.below hb) r5 (by have := putInt_length x; omega) hY (rY.below hb) HQ
  exact AllReadyH.nil

set_option maxRecDepth 100000 in
set_option maxHeartbeats 1000000 in
theorem dg1012 {Q : Exit → Act → World → Prop} {C X l0 c0 cap : Nat} {a0 lo : Option Addr} {z0 : List Int} {k id a b : Int} {ys : List BI} {S : ByteArray} {w w4 W : World} {u0 u1 u2 u3 u7 u8 u9 u10 u11 u12 u13 u14 u15 : Value} {bB : Nat} {v23 : Value} {x : Int} {bY : Nat} (D : DG w w4 W C X a0 l0 c0 z0 k id a b lo cap ys) (hY : w4.heap.size ≤ bY) (rY : Row W (some ⟨bY, 0, none⟩) 4 4 [121, 97, 114, 100]) (HQ : Hid (∀ (v17 v18 v20 v21 v22 v23 v24 v25 v27 v28 : Value) (ao : Option Addr) (n cp : Nat) (zs : List Int) (W : World), n ≤ 3000 → Row W ao n cp zs → Below C w W → Q .normal ⟨#[u0, u1, .string S, .slice ao n cp, .pointer (some ⟨C, 0, none⟩), .string S, .pointer (some ⟨X, 0, none⟩), u7, u8, u9, u10, u11, u12, u13, u14, u15, .string S, v17, v18, .pointer (some ⟨C, 0, none⟩), v20, v21, v22, v23, v24, v25, .agg #[.int .i64 k, .int .i64 id, .int .i64 a, .int .i64 b, .slice lo ys.length cap], v27, v28, .slice ao n cp, undef, undef, undef, undef, undef], []⟩ W)) :
    wpAnyH Tryz.prog .any dOps Q (fun W => W.heap[X]? = some (.cells #[.int .i64 k, .int .i64 id, .int .i64 a, .int .i64 b, .slice lo ys.length cap] 26)) 9 #[true, false, true, true, true, false, false, true, true, false, true, false, false, false, false, false] ⟨#[u0, u1, u2, u3, .pointer (some ⟨C, 0, none⟩), .string S, .pointer (some ⟨X, 0, none⟩), u7, u8, u9, u10, u11, u12, u13, u14, u15, .string S, undef, .slice (some ⟨bB, 0, none⟩) 0 0, .pointer (some ⟨C, 0, none⟩), .int .i64 x, undef, undef, v23, .slice (some ⟨bY, 0, none⟩) 4 4, undef, .agg #[.int .i64 k, .int .i64 id, .int .i64 a, .int .i64 b, .slice lo ys.length cap], undef, undef, undef, undef, undef, undef, undef, undef], []⟩ W := by
  unfold dOps
  refine wpAnyH_ready (rs := [1, 5]) (by kernel_rfl) (by simp) ?_
  refine AllReadyH.cons rfl (fun K hK => ?_) ?_
  · go_simp
    refine hK.out _ _ (kept_block D.box (below_one _ _)) (fun _ => ?_)
    clear hK K
    try simp only [Act.put]
    try simp only [List.setIfInBounds_toArray]
    try simp only [List.set_cons_succ]
    try simp only [List.set_cons_zero]
    exact dg1112 (D.below (below_one W (.cells #[] 5))) hY (rY.below (below_one W (.cells #[] 5))) HQ
  refine AllReadyH.cons rfl (fun K hK => ?_) ?_
  · go_simp
    go_wp2_with (go_at_call 25; refine (specInt_made x _ rfl _).mono ?_; rintro e W' ⟨a5, c5, rfl, -, r5, hb⟩)
    refine hK.out _ _ (D.below hb).box (fun _ => ?_)
    clear hK K
    try simp only [Act.put]
    try simp only [List.setIfInBounds_toArray]
    try simp only [List.set_cons_succ]
    try simp only [List.set_cons_zero]
    exact dg2012 (D.below hb) r5 (by have := putInt_length x; omega) hY (rY.below hb) HQ
  exact AllReadyH.nil

set_option maxRecDepth 100000 in
set_option maxHeartbeats 1000000 in
theorem dg1102 {Q : Exit → Act → World → Prop} {C X l0 c0 cap : Nat} {a0 lo : Option Addr} {z0 : List Int} {k id a b : Int} {ys : List BI} {S : ByteArray} {w w4 W : World} {u0 u1 u2 u3 u7 u8 u9 u10 u11 u12 u13 u14 u15 : Value} {bA : Nat} {v23 : Value} {x : Int} {bY : Nat} (D : DG w w4 W C X a0 l0 c0 z0 k id a b lo cap ys) (hY : w4.heap.size ≤ bY) (rY : Row W (some ⟨bY, 0, none⟩) 4 4 [121, 97, 114, 100]) (HQ : Hid (∀ (v17 v18 v20 v21 v22 v23 v24 v25 v27 v28 : Value) (ao : Option Addr) (n cp : Nat) (zs : List Int) (W : World), n ≤ 3000 → Row W ao n cp zs → Below C w W → Q .normal ⟨#[u0, u1, .string S, .slice ao n cp, .pointer (some ⟨C, 0, none⟩), .string S, .pointer (some ⟨X, 0, none⟩), u7, u8, u9, u10, u11, u12, u13, u14, u15, .string S, v17, v18, .pointer (some ⟨C, 0, none⟩), v20, v21, v22, v23, v24, v25, .agg #[.int .i64 k, .int .i64 id, .int .i64 a, .int .i64 b, .slice lo ys.length cap], v27, v28, .slice ao n cp, undef, undef, undef, undef, undef], []⟩ W)) :
    wpAnyH Tryz.prog .any dOps Q (fun W => W.heap[X]? = some (.cells #[.int .i64 k, .int .i64 id, .int .i64 a, .int .i64 b, .slice lo ys.length cap] 26)) 9 #[true, true, false, true, true, false, false, true, true, false, true, false, false, false, false, false] ⟨#[u0, u1, u2, u3, .pointer (some ⟨C, 0, none⟩), .string S, .pointer (some ⟨X, 0, none⟩), u7, u8, u9, u10, u11, u12, u13, u14, u15, .string S, .slice (some ⟨bA, 0, none⟩) 0 0, undef, .pointer (some ⟨C, 0, none⟩), .int .i64 x, undef, undef, v23, .slice (some ⟨bY, 0, none⟩) 4 4, undef, .agg #[.int .i64 k, .int .i64 id, .int .i64 a, .int .i64 b, .slice lo ys.length cap], undef, undef, undef, undef, undef, undef, undef, undef], []⟩ W := by
  unfold dOps
  refine wpAnyH_ready (rs := [2, 5]) (by kernel_rfl) (by simp) ?_
  refine AllReadyH.cons rfl (fun K hK => ?_) ?_
  · go_simp
    refine hK.out _ _ (kept_block D.box (below_one _ _)) (fun _ => ?_)
    clear hK K
    try simp only [Act.put]
    try simp only [List.setIfInBounds_toArray]
    try simp only [List.set_cons_succ]
    try simp only [List.set_cons_zero]
    exact dg1112 (D.below (below_one W (.cells #[] 5))) hY (rY.below (below_one W (.cells #[] 5))) HQ
  refine AllReadyH.cons rfl (fun K hK => ?_) ?_
  · go_simp
    go_wp2_with (go_at_call 25; refine (specInt_made x _ rfl _).mono ?_; rintro e W' ⟨a5, c5, rfl, -, r5, hb⟩)
    refine hK.out _ _ (D.below hb).box (fun _ => ?_)
    clear hK K
    try simp only [Act.put]
    try simp only [List.setIfInBounds_toArray]
    try simp only [List.set_cons_succ]
    try simp only [List.set_cons_zero]
    exact dg2102 (D.below hb) r5 (by have := putInt_length x; omega) hY (rY.below hb) HQ
  exact AllReadyH.nil

set_option maxRecDepth 100000 in
set_option maxHeartbeats 1000000 in
theorem dg1111 {Q : Exit → Act → World → Prop} {C X l0 c0 cap : Nat} {a0 lo : Option Addr} {z0 : List Int} {k id a b : Int} {ys : List BI} {S : ByteArray} {w w4 W : World} {u0 u1 u2 u3 u7 u8 u9 u10 u11 u12 u13 u14 u15 : Value} {bA : Nat} {bB : Nat} {x : Int} {bY : Nat} (D : DG w w4 W C X a0 l0 c0 z0 k id a b lo cap ys) (hY : w4.heap.size ≤ bY) (yb : W.heap[bY]? = some (.cells #[.int .u8 121, .int .u8 97, .int .u8 114, .int .u8 100] 5)) (HQ : Hid (∀ (v17 v18 v20 v21 v22 v23 v24 v25 v27 v28 : Value) (ao : Option Addr) (n cp : Nat) (zs : List Int) (W : World), n ≤ 3000 → Row W ao n cp zs → Below C w W → Q .normal ⟨#[u0, u1, .string S, .slice ao n cp, .pointer (some ⟨C, 0, none⟩), .string S, .pointer (some ⟨X, 0, none⟩), u7, u8, u9, u10, u11, u12, u13, u14, u15, .string S, v17, v18, .pointer (some ⟨C, 0, none⟩), v20, v21, v22, v23, v24, v25, .agg #[.int .i64 k, .int .i64 id, .int .i64 a, .int .i64 b, .slice lo ys.length cap], v27, v28, .slice ao n cp, undef, undef, undef, undef, undef], []⟩ W)) :
    wpAnyH Tryz.prog .any dOps Q (fun W => W.heap[X]? = some (.cells #[.int .i64 k, .int .i64 id, .int .i64 a, .int .i64 b, .slice lo ys.length cap] 26)) 9 #[true, true, true, true, true, false, false, true, false, false, true, false, false, false, false, false] ⟨#[u0, u1, u2, u3, .pointer (some ⟨C, 0, none⟩), .string S, .pointer (some ⟨X, 0, none⟩), u7, u8, u9, u10, u11, u12, u13, u14, u15, .string S, .slice (some ⟨bA, 0, none⟩) 0 0, .slice (some ⟨bB, 0, none⟩) 0 0, .pointer (some ⟨C, 0, none⟩), .int .i64 x, undef, undef, .slice (some ⟨bY, 0, none⟩) 4 4, undef, undef, .agg #[.int .i64 k, .int .i64 id, .int .i64 a, .int .i64 b, .slice lo ys.length cap], undef, undef, undef, undef, undef, undef, undef, undef], []⟩ W := by
  unfold dOps
  refine wpAnyH_ready (rs := [5, 8]) (by kernel_rfl) (by simp) ?_
  refine AllReadyH.cons rfl (fun K hK => ?_) ?_
  · go_simp
    go_wp2_with (go_at_call 25; refine (specInt_made x _ rfl _).mono ?_; rintro e W' ⟨a5, c5, rfl, -, r5, hb⟩)
    refine hK.out _ _ (D.below hb).box (fun _ => ?_)
    clear hK K
    try simp only [Act.put]
    try simp only [List.setIfInBounds_toArray]
    try simp only [List.set_cons_succ]
    try simp only [List.set_cons_zero]
    exact dg2111 (D.below hb) r5 (by have := putInt_length x; omega) hY (kept_block yb hb) HQ
  refine AllReadyH.cons rfl (fun K hK => ?_) ?_
  · have hcv := conv_yard yb
    go_simp
    refine hK.out _ _ (D.freeze hY).box (fun _ => ?_)
    clear hK K hcv
    try simp only [Act.put]
    try simp only [List.setIfInBounds_toArray]
    try simp only [List.set_cons_succ]
    try simp only [List.set_cons_zero]
    exact dg1112 (D.freeze hY) hY (row_yard yb) HQ
  exact AllReadyH.nil

set_option maxRecDepth 100000 in
set_option maxHeartbeats 1000000 in
theorem dg1002 {Q : Exit → Act → World → Prop} {C X l0 c0 cap : Nat} {a0 lo : Option Addr} {z0 : List Int} {k id a b : Int} {ys : List BI} {S : ByteArray} {w w4 W : World} {u0 u1 u2 u3 u7 u8 u9 u10 u11 u12 u13 u14 u15 : Value} {v23 : Value} {x : Int} {bY : Nat} (D : DG w w4 W C X a0 l0 c0 z0 k id a b lo cap ys) (hY : w4.heap.size ≤ bY) (rY : Row W (some ⟨bY, 0, none⟩) 4 4 [121, 97, 114, 100]) (HQ : Hid (∀ (v17 v18 v20 v21 v22 v23 v24 v25 v27 v28 : Value) (ao : Option Addr) (n cp : Nat) (zs : List Int) (W : World), n ≤ 3000 → Row W ao n cp zs → Below C w W → Q .normal ⟨#[u0, u1, .string S, .slice ao n cp, .pointer (some ⟨C, 0, none⟩), .string S, .pointer (some ⟨X, 0, none⟩), u7, u8, u9, u10, u11, u12, u13, u14, u15, .string S, v17, v18, .pointer (some ⟨C, 0, none⟩), v20, v21, v22, v23, v24, v25, .agg #[.int .i64 k, .int .i64 id, .int .i64 a, .int .i64 b, .slice lo ys.length cap], v27, v28, .slice ao n cp, undef, undef, undef, undef, undef], []⟩ W)) :
    wpAnyH Tryz.prog .any dOps Q (fun W => W.heap[X]? = some (.cells #[.int .i64 k, .int .i64 id, .int .i64 a, .int .i64 b, .slice lo ys.length cap] 26)) 10 #[true, false, false, true, true, false, false, true, true, false, true, false, false, false, false, false] ⟨#[u0, u1, u2, u3, .pointer (some ⟨C, 0, none⟩), .string S, .pointer (some ⟨X, 0, none⟩), u7, u8, u9, u10, u11, u12, u13, u14, u15, .string S, undef, undef, .pointer (some ⟨C, 0, none⟩), .int .i64 x, undef, undef, v23, .slice (some ⟨bY, 0, none⟩) 4 4, undef, .agg #[.int .i64 k, .int .i64 id, .int .i64 a, .int .i64 b, .slice lo ys.length cap], undef, undef, undef, undef, undef, undef, undef, undef], []⟩ W := by
  unfold dOps
  refine wpAnyH_ready (rs := [1, 2, 5]) (by kernel_rfl) (by simp) ?_
  refine AllReadyH.cons rfl (fun K hK => ?_) ?_
  · go_simp
    refine hK.out _ _ (kept_block D.box (below_one _ _)) (fun _ => ?_)
    clear hK K
    try simp only [Act.put]
    try simp only [List.setIfInBounds_toArray]
    try simp only [List.set_cons_succ]
    try simp only [List.set_cons_zero]
    exact dg1102 (D.below (below_one W (.cells #[] 5))) hY (rY.below (below_one W (.cells #[] 5))) HQ
  refine AllReadyH.cons rfl (fun K hK => ?_) ?_
  · go_simp
    refine hK.out _ _ (kept_block D.box (below_one _ _)) (fun _ => ?_)
    clear hK K
    try simp only [Act.put]
    try simp only [List.setIfInBounds_toArray]
    try simp only [List.set_cons_succ]
    try simp only [List.set_cons_zero]
    exact dg1012 (D.below (below_one W (.cells #[] 5))) hY (rY.below (below_one W (.cells #[] 5))) HQ
  refine AllReadyH.cons rfl (fun K hK => ?_) ?_
  · go_simp
    go_wp2_with (go_at_call 25; refine (specInt_made x _ rfl _).mono ?_; rintro e W' ⟨a5, c5, rfl, -, r5, hb⟩)
    refine hK.out _ _ (D.below hb).box (fun _ => ?_)
    clear hK K
    try simp only [Act.put]
    try simp only [List.setIfInBounds_toArray]
    try simp only [List.set_cons_succ]
    try simp only [List.set_cons_zero]
    exact dg2002 (D.below hb) r5 (by have := putInt_length x; omega) hY (rY.below hb) HQ
  exact AllReadyH.nil

set_option maxRecDepth 100000 in
set_option maxHeartbeats 1000000 in
theorem dg1011 {Q : Exit → Act → World → Prop} {C X l0 c0 cap : Nat} {a0 lo : Option Addr} {z0 : List Int} {k id a b : Int} {ys : List BI} {S : ByteArray} {w w4 W : World} {u0 u1 u2 u3 u7 u8 u9 u10 u11 u12 u13 u14 u15 : Value} {bB : Nat} {x : Int} {bY : Nat} (D : DG w w4 W C X a0 l0 c0 z0 k id a b lo cap ys) (hY : w4.heap.size ≤ bY) (yb : W.heap[bY]? = some (.cells #[.int .u8 121, .int .u8 97, .int .u8 114, .int .u8 100] 5)) (HQ : Hid (∀ (v17 v18 v20 v21 v22 v23 v24 v25 v27 v28 : Value) (ao : Option Addr) (n cp : Nat) (zs : List Int) (W : World), n ≤ 3000 → Row W ao n cp zs → Below C w W → Q .normal ⟨#[u0, u1, .string S, .slice ao n cp, .pointer (some ⟨C, 0, none⟩), .string S, .pointer (some ⟨X, 0, none⟩), u7, u8, u9, u10, u11, u12, u13, u14, u15, .string S, v17, v18, .pointer (some ⟨C, 0, none⟩), v20, v21, v22, v23, v24, v25, .agg #[.int .i64 k, .int .i64 id, .int .i64 a, .int .i64 b, .slice lo ys.length cap], v27, v28, .slice ao n cp, undef, undef, undef, undef, undef], []⟩ W)) :
    wpAnyH Tryz.prog .any dOps Q (fun W => W.heap[X]? = some (.cells #[.int .i64 k, .int .i64 id, .int .i64 a, .int .i64 b, .slice lo ys.length cap] 26)) 10 #[true, false, true, true, true, false, false, true, false, false, true, false, false, false, false, false] ⟨#[u0, u1, u2, u3, .pointer (some ⟨C, 0, none⟩), .string S, .pointer (some ⟨X, 0, none⟩), u7, u8, u9, u10, u11, u12, u13, u14, u15, .string S, undef, .slice (some ⟨bB, 0, none⟩) 0 0, .pointer (some ⟨C, 0, none⟩), .int .i64 x, undef, undef, .slice (some ⟨bY, 0, none⟩) 4 4, undef, undef, .agg #[.int .i64 k, .int .i64 id, .int .i64 a, .int .i64 b, .slice lo ys.length cap], undef, undef, undef, undef, undef, undef, undef, undef], []⟩ W := by
  unfold dOps
  refine wpAnyH_ready (rs := [1, 5, 8]) (by kernel_rfl) (by simp) ?_
  refine AllReadyH.cons rfl (fun K hK => ?_) ?_
  · go_simp
    refine hK.out _ _ (kept_block D.box (below_one _ _)) (fun _ => ?_)
    clear hK K
    try simp only [Act.put]
    try simp only [List.setIfInBounds_toArray]
    try simp only [List.set_cons_succ]
    try simp only [List.set_cons_zero]
    exact dg1111 (D.below (below_one W (.cells #[] 5))) hY (kept_block yb (below_one W (.cells #[] 5))) HQ
  refine AllReadyH.cons rfl (fun K hK => ?_) ?_
  · go_simp
    go_wp2_with (go_at_call 25; refine (specInt_made x _ rfl _).mono ?_; rintro e W' ⟨a5, c5, rfl, -, r5, hb⟩)
    refine hK.out _ _ (D.below hb).box (fun _ => ?_)
    clear hK K
    try simp only [Act.put]
    try simp only [List.setIfInBounds_toArray]
    try simp only [List.set_cons_succ]
    try simp only [List.set_cons_zero]
    exact dg2011 (D.below hb) r5 (by have := putInt_length x; omega) hY (kept_block yb hb) HQ
  refine AllReadyH.cons rfl (fun K hK => ?_) ?_
  · have hcv := conv_yard yb
    go_simp
    refine hK.out _ _ (D.freeze hY).box (fun _ => ?_)
    clear hK K hcv
    try simp only [Act.put]
    try simp only [List.setIfInBounds_toArray]
    try simp only [List.set_cons_succ]
    try simp only [List.set_cons_zero]
    exact dg1012 (D.freeze hY) hY (row_yard yb) HQ
  exact AllReadyH.nil

set_option maxRecDepth 100000 in
set_option maxHeartbeats 1000000 in
theorem dg1101 {Q : Exit → Act → World → Prop} {C X l0 c0 cap : Nat} {a0 lo : Option Addr} {z0 : List Int} {k id a b : Int} {ys : List BI} {S : ByteArray} {w w4 W : World} {u0 u1 u2 u3 u7 u8 u9 u10 u11 u12 u13 u14 u15 : Value} {bA : Nat} {x : Int} {bY : Nat} (D : DG w w4 W C X a0 l0 c0 z0 k id a b lo cap ys) (hY : w4.heap.size ≤ bY) (yb : W.heap[bY]? = some (.cells #[.int .u8 121, .int .u8 97, .int .u8 114, .int .u8 100] 5)) (HQ : Hid (∀ (v17 v18 v20 v21 v22 v23 v24 v25 v27 v28 : Value) (ao : Option Addr) (n cp : Nat) (zs : List Int) (W : World), n ≤ 3000 → Row W ao n cp zs → Below C w W → Q .normal ⟨#[u0, u1, .string S, .slice ao n cp, .pointer (some ⟨C, 0, none⟩), .string S, .pointer (some ⟨X, 0, none⟩), u7, u8, u9, u10, u11, u12, u13, u14, u15, .string S, v17, v18, .pointer (some ⟨C, 0, none⟩), v20, v21, v22, v23, v24, v25, .agg #[.int .i64 k, .int .i64 id, .int .i64 a, .int .i64 b, .slice lo ys.length cap], v27, v28, .slice ao n cp, undef, undef, undef, undef, undef], []⟩ W)) :
    wpAnyH Tryz.prog .any dOps Q (fun W => W.heap[X]? = some (.cells #[.int .i64 k, .int .i64 id, .int .i64 a, .int .i64 b, .slice lo ys.length cap] 26)) 10 #[true, true, false, true, true, false, false, true, false, false, true, false, false, false, false, false] ⟨#[u0, u1, u2, u3, .pointer (some ⟨C, 0, none⟩), .string S, .pointer (some ⟨X, 0, none⟩), u7, u8, u9, u10, u11, u12, u13, u14, u15, .string S, .slice (some ⟨bA, 0, none⟩) 0 0, undef, .pointer (some ⟨C, 0, none⟩), .int .i64 x, undef, undef, .slice (some ⟨bY, 0, none⟩) 4 4, undef, undef, .agg #[.int .i64 k, .int .i64 id, .int .i64 a, .int .i64 b, .slice lo ys.length cap], undef, undef, undef, undef, undef, undef, undef, undef], []⟩ W := by
  unfold dOps
  refine wpAnyH_ready (rs := [2, 5, 8]) (by kernel_rfl) (by simp) ?_
  refine AllReadyH.cons rfl (fun K hK => ?_) ?_
  · go_simp
    refine hK.out _ _ (kept_block D.box (below_one _ _)) (fun _ => ?_)
    clear hK K
    try simp only [Act.put]
    try simp only [List.setIfInBounds_toArray]
    try simp only [List.set_cons_succ]
    try simp only [List.set_cons_zero]
    exact dg1111 (D.below (below_one W (.cells #[] 5))) hY (kept_block yb (below_one W (.cells #[] 5))) HQ
  refine AllReadyH.cons rfl (fun K hK => ?_) ?_
  · go_simp
    go_wp2_with (go_at_call 25; refine (specInt_made x _ rfl _).mono ?_; rintro e W' ⟨a5, c5, rfl, -, r5, hb⟩)
    refine hK.out _ _ (D.below hb).box (fun _ => ?_)
    clear hK K
    try simp only [Act.put]
    try simp only [List.setIfInBounds_toArray]
    try simp only [List.set_cons_succ]
    try simp only [List.set_cons_zero]
    exact dg2101 (D.below hb) r5 (by have := putInt_length x; omega) hY (kept_block yb hb) HQ
  refine AllReadyH.cons rfl (fun K hK => ?_) ?_
  · have hcv := conv_yard yb
    go_simp
    refine hK.out _ _ (D.freeze hY).box (fun _ => ?_)
    clear hK K hcv
    try simp only [Act.put]
    try simp only [List.setIfInBounds_toArray]
    try simp only [List.set_cons_succ]
    try simp only [List.set_cons_zero]
    exact dg1102 (D.freeze hY) hY (row_yard yb) HQ
  exact AllReadyH.nil

set_option maxRecDepth 100000 in
set_option maxHeartbeats 1000000 in
theorem dg1110 {Q : Exit → Act → World → Prop} {C X l0 c0 cap : Nat} {a0 lo : Option Addr} {z0 : List Int} {k id a b : Int} {ys : List BI} {S : ByteArray} {w w4 W : World} {u0 u1 u2 u3 u7 u8 u9 u10 u11 u12 u13 u14 u15 : Value} {bA : Nat} {bB : Nat} {x : Int} (D : DG w w4 W C X a0 l0 c0 z0 k id a b lo cap ys) (HQ : Hid (∀ (v17 v18 v20 v21 v22 v23 v24 v25 v27 v28 : Value) (ao : Option Addr) (n cp : Nat) (zs : List Int) (W : World), n ≤ 3000 → Row W ao n cp zs → Below C w W → Q .normal ⟨#[u0, u1, .string S, .slice ao n cp, .pointer (some ⟨C, 0, none⟩), .string S, .pointer (some ⟨X, 0, none⟩), u7, u8, u9, u10, u11, u12, u13, u14, u15, .string S, v17, v18, .pointer (some ⟨C, 0, none⟩), v20, v21, v22, v23, v24, v25, .agg #[.int .i64 k, .int .i64 id, .int .i64 a, .int .i64 b, .slice lo ys.length cap], v27, v28, .slice ao n cp, undef, undef, undef, undef, undef], []⟩ W)) :
    wpAnyH Tryz.prog .any dOps Q (fun W => W.heap[X]? = some (.cells #[.int .i64 k, .int .i64 id, .int .i64 a, .int .i64 b, .slice lo ys.length cap] 26)) 10 #[true, true, true, true, true, false, false, false, false, false, true, false, false, false, false, false] ⟨#[u0, u1, u2, u3, .pointer (some ⟨C, 0, none⟩), .string S, .pointer (some ⟨X, 0, none⟩), u7, u8, u9, u10, u11, u12, u13, u14, u15, .string S, .slice (some ⟨bA, 0, none⟩) 0 0, .slice (some ⟨bB, 0, none⟩) 0 0, .pointer (some ⟨C, 0, none⟩), .int .i64 x, undef, undef, undef, undef, undef, .agg #[.int .i64 k, .int .i64 id, .int .i64 a, .int .i64 b, .slice lo ys.length cap], undef, undef, undef, undef, undef, undef, undef, undef], []⟩ W := by
  unfold dOps
  refine wpAnyH_ready (rs := [5, 7]) (by kernel_rfl) (by simp) ?_
  refine AllReadyH.cons rfl (fun K hK => ?_) ?_
  · go_simp
    go_wp2_with (go_at_call 25; refine (specInt_made x _ rfl _).mono ?_; rintro e W' ⟨a5, c5, rfl, -, r5, hb⟩)
    refine hK.out _ _ (D.below hb).box (fun _ => ?_)
    clear hK K
    try simp only [Act.put]
    try simp only [List.setIfInBounds_toArray]
    try simp only [List.set_cons_succ]
    try simp only [List.set_cons_zero]
    exact dg2110 (D.below hb) r5 (by have := putInt_length x; omega) HQ
  refine AllReadyH.cons rfl (fun K hK => ?_) ?_
  · go_simp
    refine hK.out _ _ (kept_block D.box (below_one _ _)) (fun _ => ?_)
    clear hK K
    try simp only [Act.put]
    try simp only [List.setIfInBounds_toArray]
    try simp only [List.set_cons_succ]
    try simp only [List.set_cons_zero]
    exact dg1111 (D.below (below_one W (.cells #[.int .u8 121, .int .u8 97, .int .u8 114, .int .u8 100] 5))) D.size4 (block_last W _) HQ
  exact AllReadyH.nil

set_option maxRecDepth 100000 in
set_option maxHeartbeats 1000000 in
theorem dg1001 {Q : Exit → Act → World → Prop} {C X l0 c0 cap : Nat} {a0 lo : Option Addr} {z0 : List Int} {k id a b : Int} {ys : List BI} {S : ByteArray} {w w4 W : World} {u0 u1 u2 u3 u7 u8 u9 u10 u11 u12 u13 u14 u15 : Value} {x : Int} {bY : Nat} (D : DG w w4 W C X a0 l0 c0 z0 k id a b lo cap ys) (hY : w4.heap.size ≤ bY) (yb : W.heap[bY]? = some (.cells #[.int .u8 121, .int .u8 97, .int .u8 114, .int .u8 100] 5)) (HQ : Hid (∀ (v17 v18 v20 v21 v22 v23 v24 v25 v27 v28 : Value) (ao : Option Addr) (n cp : Nat) (zs : List Int) (W : World), n ≤ 3000 → Row W ao n cp zs → Below C w W → Q .normal ⟨#[u0, u1, .string S, .slice ao n cp, .pointer (some ⟨C, 0, none⟩), .string S, .pointer (some ⟨X, 0, none⟩), u7, u8, u9, u10, u11, u12, u13, u14, u15, .string S, v17, v18, .pointer (some ⟨C, 0, none⟩), v20, v21, v22, v23, v24, v25, .agg #[.int .i64 k, .int .i64 id, .int .i64 a, .int .i64 b, .slice lo ys.length cap], v27, v28, .slice ao n cp, undef, undef, undef, undef, undef], []⟩ W)) :
    wpAnyH Tryz.prog .any dOps Q (fun W => W.heap[X]? = some (.cells #[.int .i64 k, .int .i64 id, .int .i64 a, .int .i64 b, .slice lo ys.length cap] 26)) 11 #[true, false, false, true, true, false, false, true, false, false, true, false, false, false, false, false] ⟨#[u0, u1, u2, u3, .pointer (some ⟨C, 0, none⟩), .string S, .pointer (some ⟨X, 0, none⟩), u7, u8, u9, u10, u11, u12, u13, u14, u15, .string S, undef, undef, .pointer (some ⟨C, 0, none⟩), .int .i64 x, undef, undef, .slice (some ⟨bY, 0, none⟩) 4 4, undef, undef, .agg #[.int .i64 k, .int .i64 id, .int .i64 a, .int .i64 b, .slice lo ys.length cap], undef, undef, undef, undef, undef, undef, undef, undef], []⟩ W := by
  unfold dOps
  refine wpAnyH_ready (rs := [1, 2, 5, 8]) (by kernel_rfl) (by simp) ?_
  refine AllReadyH.cons rfl (fun K hK => ?_) ?_
  · go_simp
    refine hK.out _ _ (kept_block D.box (below_one _ _)) (fun _ => ?_)
    clear hK K
    try simp only [Act.put]
    try simp only [List.setIfInBounds_toArray]
    try simp only [List.set_cons_succ]
    try simp only [List.set_cons_zero]
    exact dg1101 (D.below (below_one W (.cells #[] 5))) hY (kept_block yb (below_one W (.cells #[] 5))) HQ
  refine AllReadyH.cons rfl (fun K hK => ?_) ?_
  · go_simp
    refine hK.out _ _ (kept_block D.box (below_one _ _)) (fun _ => ?_)
    clear hK K
    try simp only [Act.put]
    try simp only [List.setIfInBounds_toArray]
    try simp only [List.set_cons_succ]
    try simp only [List.set_cons_zero]
    exact dg1011 (D.below (below_one W (.cells #[] 5))) hY (kept_block yb (below_one W (.cells #[] 5))) HQ
  refine AllReadyH.cons rfl (fun K hK => ?_) ?_
  · go_simp
    go_wp2_with (go_at_call 25; refine (specInt_made x _ rfl _).mono ?_; rintro e W' ⟨a5, c5, rfl, -, r5, hb⟩)
    refine hK.out _ _ (D.below hb).box (fun _ => ?_)
    clear hK K
    try simp only [Act.put]
    try simp only [List.setIfInBounds_toArray]
    try simp only [List.set_cons_succ]
    try simp only [List.set_cons_zero]
    exact dg2001 (D.below hb) r5 (by have := putInt_length x; omega) hY (kept_block yb hb) HQ
  refine AllReadyH.cons rfl (fun K hK => ?_) ?_
  · have hcv := conv_yard yb
    go_simp
    refine hK.out _ _ (D.freeze hY).box (fun _ => ?_)
    clear hK K hcv
    try simp only [Act.put]
    try simp only [List.setIfInBounds_toArray]
    try simp only [List.set_cons_succ]
    try simp only [List.set_cons_zero]
    exact dg1002 (D.freeze hY) hY (row_yard yb) HQ
  exact AllReadyH.nil

set_option maxRecDepth 100000 in
set_option maxHeartbeats 1000000 in
theorem dg1010 {Q : Exit → Act → World → Prop} {C X l0 c0 cap : Nat} {a0 lo : Option Addr} {z0 : List Int} {k id a b : Int} {ys : List BI} {S : ByteArray} {w w4 W : World} {u0 u1 u2 u3 u7 u8 u9 u10 u11 u12 u13 u14 u15 : Value} {bB : Nat} {x : Int} (D : DG w w4 W C X a0 l0 c0 z0 k id a b lo cap ys) (HQ : Hid (∀ (v17 v18 v20 v21 v22 v23 v24 v25 v27 v28 : Value) (ao : Option Addr) (n cp : Nat) (zs : List Int) (W : World), n ≤ 3000 → Row W ao n cp zs → Below C w W → Q .normal ⟨#[u0, u1, .string S, .slice ao n cp, .pointer (some ⟨C, 0, none⟩), .string S, .pointer (some ⟨X, 0, none⟩), u7, u8, u9, u10, u11, u12, u13, u14, u15, .string S, v17, v18, .pointer (some ⟨C, 0, none⟩), v20, v21, v22, v23, v24, v25, .agg #[.int .i64 k, .int .i64 id, .int .i64 a, .int .i64 b, .slice lo ys.length cap], v27, v28, .slice ao n cp, undef, undef, undef, undef, undef], []⟩ W)) :
    wpAnyH Tryz.prog .any dOps Q (fun W => W.heap[X]? = some (.cells #[.int .i64 k, .int .i64 id, .int .i64 a, .int .i64 b, .slice lo ys.length cap] 26)) 11 #[true, false, true, true, true, false, false, false, false, false, true, false, false, false, false, false] ⟨#[u0, u1, u2, u3, .pointer (some ⟨C, 0, none⟩), .string S, .pointer (some ⟨X, 0, none⟩), u7, u8, u9, u10, u11, u12, u13, u14, u15, .string S, undef, .slice (some ⟨bB, 0, none⟩) 0 0, .pointer (some ⟨C, 0, none⟩), .int .i64 x, undef, undef, undef, undef, undef, .agg #[.int .i64 k, .int .i64 id, .int .i64 a, .int .i64 b, .slice lo ys.length cap], undef, undef, undef, undef, undef, undef, undef, undef], []⟩ W := by
  unfold dOps
  refine wpAnyH_ready (rs := [1, 5, 7]) (by kernel_rfl) (by simp) ?_
  refine AllReadyH.cons rfl (fun K hK => ?_) ?_
  · go_simp
    refine hK.out _ _ (kept_block D.box (below_one _ _)) (fun _ => ?_)
    clear hK K
    try simp only [Act.put]
    try simp only [List.setIfInBounds_toArray]
    try simp only [List.set_cons_succ]
    try simp only [List.set_cons_zero]
    exact dg1110 (D.below (below_one W (.cells #[] 5))) HQ
  refine AllReadyH.cons rfl (fun K hK => ?_) ?_
  · go_simp
    go_wp2_with (go_at_call 25; refine (specInt_made x _ rfl _).mono ?_; rintro e W' ⟨a5, c5, rfl, -, r5, hb⟩)
    refine hK.out _ _ (D.below hb).box (fun _ => ?_)
    clear hK K
    try simp only [Act.put]
    try simp only [List.setIfInBounds_toArray]
    try simp only [List.set_cons_succ]
    try simp only [List.set_cons_zero]
    exact dg2010 (D.below hb) r5 (by have := putInt_length x; omega) HQ
  refine AllReadyH.cons rfl (fun K hK => ?_) ?_
  · go_simp
    refine hK.out _ _ (kept_block D.box (below_one _ _)) (fun _ => ?_)
    clear hK K
    try simp only [Act.put]
    try simp only [List.setIfInBounds_toArray]
    try simp only [List.set_cons_succ]
    try simp only [List.set_cons_zero]
    exact dg1011 (D.below (below_one W (.cells #[.int .u8 121, .int .u8 97, .int .u8 114, .int .u8 100] 5))) D.size4 (block_last W _) HQ
  exact AllReadyH.nil

set_option maxRecDepth 100000 in
set_option maxHeartbeats 1000000 in
theorem dg1100 {Q : Exit → Act → World → Prop} {C X l0 c0 cap : Nat} {a0 lo : Option Addr} {z0 : List Int} {k id a b : Int} {ys : List BI} {S : ByteArray} {w w4 W : World} {u0 u1 u2 u3 u7 u8 u9 u10 u11 u12 u13 u14 u15 : Value} {bA : Nat} {x : Int} (D : DG w w4 W C X a0 l0 c0 z0 k id a b lo cap ys) (HQ : Hid (∀ (v17 v18 v20 v21 v22 v23 v24 v25 v27 v28 : Value) (ao : Option Addr) (n cp : Nat) (zs : List Int) (W : World), n ≤ 3000 → Row W ao n cp zs → Below C w W → Q .normal ⟨#[u0, u1, .string S, .slice ao n cp, .pointer (some ⟨C, 0, none⟩), .string S, .pointer (some ⟨X, 0, none⟩), u7, u8, u9, u10, u11, u12, u13, u14, u15, .string S, v17, v18, .pointer (some ⟨C, 0, none⟩), v20, v21, v22, v23, v24, v25, .agg #[.int .i64 k, .int .i64 id, .int .i64 a, .int .i64 b, .slice lo ys.length cap], v27, v28, .slice ao n cp, undef, undef, undef, undef, undef], []⟩ W)) :
    wpAnyH Tryz.prog .any dOps Q (fun W => W.heap[X]? = some (.cells #[.int .i64 k, .int .i64 id, .int .i64 a, .int .i64 b, .slice lo ys.length cap] 26)) 11 #[true, true, false, true, true, false, false, false, false, false, true, false, false, false, false, false] ⟨#[u0, u1, u2, u3, .pointer (some ⟨C, 0, none⟩), .string S, .pointer (some ⟨X, 0, none⟩), u7, u8, u9, u10, u11, u12, u13, u14, u15, .string S, .slice (some ⟨bA, 0, none⟩) 0 0, undef, .pointer (some ⟨C, 0, none⟩), .int .i64 x, undef, undef, undef, undef, undef, .agg #[.int .i64 k, .int .i64 id, .int .i64 a, .int .i64 b, .slice lo ys.length cap], undef, undef, undef, undef, undef, undef, undef, undef], []⟩ W := by
  unfold dOps
  refine wpAnyH_ready (rs := [2, 5, 7]) (by kernel_rfl) (by simp) ?_
  refine AllReadyH.cons rfl (fun K hK => ?_) ?_
  · go_simp
    refine hK.out _ _ (kept_block D.box (below_one _ _)) (fun _ => ?_)
    clear hK K
    try simp only [Act.put]
    try simp only [List.setIfInBounds_toArray]
    try simp only [List.set_cons_succ]
    try simp only [List.set_cons_zero]
    exact dg1110 (D.below (below_one W (.cells #[] 5))) HQ
  refine AllReadyH.cons rfl (fun K hK => ?_) ?_
  · go_simp
    go_wp2_with (go_at_call 25; refine (specInt_made x _ rfl _).mono ?_; rintro e W' ⟨a5, c5, rfl, -, r5, hb⟩)
    refine hK.out _ _ (D.below hb).box (fun _ => ?_)
    clear hK K
    try simp only [Act.put]
    try simp only [List.setIfInBounds_toArray]
    try simp only [List.set_cons_succ]
    try simp only [List.set_cons_zero]
    exact dg2100 (D.below hb) r5 (by have := putInt_length x; omega) HQ
  refine AllReadyH.cons rfl (fun K hK => ?_) ?_
  · go_simp
    refine hK.out _ _ (kept_block D.box (below_one _ _)) (fun _ => ?_)
    clear hK K
    try simp only [Act.put]
    try simp only [List.setIfInBounds_toArray]
    try simp only [List.set_cons_succ]
    try simp only [List.set_cons_zero]
    exact dg1101 (D.below (below_one W (.cells #[.int .u8 121, .int .u8 97, .int .u8 114, .int .u8 100] 5))) D.size4 (block_last W _) HQ
  exact AllReadyH.nil

set_option maxRecDepth 100000 in
set_option maxHeartbeats 1000000 in
theorem dg1000 {Q : Exit → Act → World → Prop} {C X l0 c0 cap : Nat} {a0 lo : Option Addr} {z0 : List Int} {k id a b : Int} {ys : List BI} {S : ByteArray} {w w4 W : World} {u0 u1 u2 u3 u7 u8 u9 u10 u11 u12 u13 u14 u15 : Value} {x : Int} (D : DG w w4 W C X a0 l0 c0 z0 k id a b lo cap ys) (HQ : Hid (∀ (v17 v18 v20 v21 v22 v23 v24 v25 v27 v28 : Value) (ao : Option Addr) (n cp : Nat) (zs : List Int) (W : World), n ≤ 3000 → Row W ao n cp zs → Below C w W → Q .normal ⟨#[u0, u1, .string S, .slice ao n cp, .pointer (some ⟨C, 0, none⟩), .string S, .pointer (some ⟨X, 0, none⟩), u7, u8, u9, u10, u11, u12, u13, u14, u15, .string S, v17, v18, .pointer (some ⟨C, 0, none⟩), v20, v21, v22, v23, v24, v25, .agg #[.int .i64 k, .int .i64 id, .int .i64 a, .int .i64 b, .slice lo ys.length cap], v27, v28, .slice ao n cp, undef, undef, undef, undef, undef], []⟩ W)) :
    wpAnyH Tryz.prog .any dOps Q (fun W => W.heap[X]? = some (.cells #[.int .i64 k, .int .i64 id, .int .i64 a, .int .i64 b, .slice lo ys.length cap] 26)) 12 #[true, false, false, true, true, false, false, false, false, false, true, false, false, false, false, false] ⟨#[u0, u1, u2, u3, .pointer (some ⟨C, 0, none⟩), .string S, .pointer (some ⟨X, 0, none⟩), u7, u8, u9, u10, u11, u12, u13, u14, u15, .string S, undef, undef, .pointer (some ⟨C, 0, none⟩), .int .i64 x, undef, undef, undef, undef, undef, .agg #[.int .i64 k, .int .i64 id, .int .i64 a, .int .i64 b, .slice lo ys.length cap], undef, undef, undef, undef, undef, undef, undef, undef], []⟩ W := by
  unfold dOps
  refine wpAnyH_ready (rs := [1, 2, 5, 7]) (by kernel_rfl) (by simp) ?_
  refine AllReadyH.cons rfl (fun K hK => ?_) ?_
  · go_simp
    refine hK.out _ _ (kept_block D.box (below_one _ _)) (fun _ => ?_)
    clear hK K
    try simp only [Act.put]
    try simp only [List.setIfInBounds_toArray]
    try simp only [List.set_cons_succ]
    try simp only [List.set_cons_zero]
    exact dg1100 (D.below (below_one W (.cells #[] 5))) HQ
  refine AllReadyH.cons rfl (fun K hK => ?_) ?_
  · go_simp
    refine hK.out _ _ (kept_block D.box (below_one _ _)) (fun _ => ?_)
    clear hK K
    try simp only [Act.put]
    try simp only [List.setIfInBounds_toArray]
    try simp only [List.set_cons_succ]
    try simp only [List.set_cons_zero]
    exact dg1010 (D.below (below_one W (.cells #[] 5))) HQ
  refine AllReadyH.cons rfl (fun K hK => ?_) ?_
  · go_simp
    go_wp2_with (go_at_call 25; refine (specInt_made x _ rfl _).mono ?_; rintro e W' ⟨a5, c5, rfl, -, r5, hb⟩)
    refine hK.out _ _ (D.below hb).box (fun _ => ?_)
    clear hK K
    try simp only [Act.put]
    try simp only [List.setIfInBounds_toArray]
    try simp only [List.set_cons_succ]
    try simp only [List.set_cons_zero]
    exact dg2000 (D.below hb) r5 (by have := putInt_length x; omega) HQ
  refine AllReadyH.cons rfl (fun K hK => ?_) ?_
  · go_simp
    refine hK.out _ _ (kept_block D.box (below_one _ _)) (fun _ => ?_)
    clear hK K
    try simp only [Act.put]
    try simp only [List.setIfInBounds_toArray]
    try simp only [List.set_cons_succ]
    try simp only [List.set_cons_zero]
    exact dg1001 (D.below (below_one W (.cells #[.int .u8 121, .int .u8 97, .int .u8 114, .int .u8 100] 5))) D.size4 (block_last W _) HQ
  exact AllReadyH.nil

set_option maxRecDepth 100000 in
set_option maxHeartbeats 1000000 in
theorem dg0112 {Q : Exit → Act → World → Prop} {C X l0 c0 cap : Nat} {a0 lo : Option Addr} {z0 : List Int} {k id a b : Int} {ys : List BI} {S : ByteArray} {w w4 W : World} {u0 u1 u2 u3 u7 u8 u9 u10 u11 u12 u13 u14 u15 : Value} {bA : Nat} {bB : Nat} {v23 : Value} {bY : Nat} (D : DG w w4 W C X a0 l0 c0 z0 k id a b lo cap ys) (hY : w4.heap.size ≤ bY) (rY : Row W (some ⟨bY, 0, none⟩) 4 4 [121, 97, 114, 100]) (HQ : Hid (∀ (v17 v18 v20 v21 v22 v23 v24 v25 v27 v28 : Value) (ao : Option Addr) (n cp : Nat) (zs : List Int) (W : World), n ≤ 3000 → Row W ao n cp zs → Below C w W → Q .normal ⟨#[u0, u1, .string S, .slice ao n cp, .pointer (some ⟨C, 0, none⟩), .string S, .pointer (some ⟨X, 0, none⟩), u7, u8, u9, u10, u11, u12, u13, u14, u15, .string S, v17, v18, .pointer (some ⟨C, 0, none⟩), v20, v21, v22, v23, v24, v25, .agg #[.int .i64 k, .int .i64 id, .int .i64 a, .int .i64 b, .slice lo ys.length cap], v27, v28, .slice ao n cp, undef, undef, undef, undef, undef], []⟩ W)) :
    wpAnyH Tryz.prog .any dOps Q (fun W => W.heap[X]? = some (.cells #[.int .i64 k, .int .i64 id, .int .i64 a, .int .i64 b, .slice lo ys.length cap] 26)) 9 #[true, true, true, true, false, false, false, true, true, false, true, false, false, false, false, false] ⟨#[u0, u1, u2, u3, .pointer (some ⟨C, 0, none⟩), .string S, .pointer (some ⟨X, 0, none⟩), u7, u8, u9, u10, u11, u12, u13, u14, u15, .string S, .slice (some ⟨bA, 0, none⟩) 0 0, .slice (some ⟨bB, 0, none⟩) 0 0, .pointer (some ⟨C, 0, none⟩), undef, undef, undef, v23, .slice (some ⟨bY, 0, none⟩) 4 4, undef, .agg #[.int .i64 k, .int .i64 id, .int .i64 a, .int .i64 b, .slice lo ys.length cap], undef, undef, undef, undef, undef, undef, undef, undef], []⟩ W := by
  unfold dOps
  refine wpAnyH_ready (rs := [4]) (by kernel_rfl) (by simp) ?_
  refine AllReadyH.cons rfl (fun K hK => ?_) ?_
  · go_simp
    go_wp2_with (go_at_call 31; refine (below_any C a0 l0 c0 z0 3 _ D.wn.cur (by omega)).mono ?_; rintro e W' ⟨x, rfl, -, -, -, went⟩)
    refine hK.out _ _ (D.went went).box (fun _ => ?_)
    clear hK K
    try simp only [Act.put]
    try simp only [List.setIfInBounds_toArray]
    try simp only [List.set_cons_succ]
    try simp only [List.set_cons_zero]
    exact dg1112 (D.went went) hY (row_went rY went.grown (by have := D.c4; omega)) HQ
  exact AllReadyH.nil

set_option maxRecDepth 100000 in
set_option maxHeartbeats 1000000 in
theorem dg0012 {Q : Exit → Act → World → Prop} {C X l0 c0 cap : Nat} {a0 lo : Option Addr} {z0 : List Int} {k id a b : Int} {ys : List BI} {S : ByteArray} {w w4 W : World} {u0 u1 u2 u3 u7 u8 u9 u10 u11 u12 u13 u14 u15 : Value} {bB : Nat} {v23 : Value} {bY : Nat} (D : DG w w4 W C X a0 l0 c0 z0 k id a b lo cap ys) (hY : w4.heap.size ≤ bY) (rY : Row W (some ⟨bY, 0, none⟩) 4 4 [121, 97, 114, 100]) (HQ : Hid (∀ (v17 v18 v20 v21 v22 v23 v24 v25 v27 v28 : Value) (ao : Option Addr) (n cp : Nat) (zs : List Int) (W : World), n ≤ 3000 → Row W ao n cp zs → Below C w W → Q .normal ⟨#[u0, u1, .string S, .slice ao n cp, .pointer (some ⟨C, 0, none⟩), .string S, .pointer (some ⟨X, 0, none⟩), u7, u8, u9, u10, u11, u12, u13, u14, u15, .string S, v17, v18, .pointer (some ⟨C, 0, none⟩), v20, v21, v22, v23, v24, v25, .agg #[.int .i64 k, .int .i64 id, .int .i64 a, .int .i64 b, .slice lo ys.length cap], v27, v28, .slice ao n cp, undef, undef, undef, undef, undef], []⟩ W)) :
    wpAnyH Tryz.prog .any dOps Q (fun W => W.heap[X]? = some (.cells #[.int .i64 k, .int .i64 id, .int .i64 a, .int .i64 b, .slice lo ys.length cap] 26)) 10 #[true, false, true, true, false, false, false, true, true, false, true, false, false, false, false, false] ⟨#[u0, u1, u2, u3, .pointer (some ⟨C, 0, none⟩), .string S, .pointer (some ⟨X, 0, none⟩), u7, u8, u9, u10, u11, u12, u13, u14, u15, .string S, undef, .slice (some ⟨bB, 0, none⟩) 0 0, .pointer (some ⟨C, 0, none⟩), undef, undef, undef, v23, .slice (some ⟨bY, 0, none⟩) 4 4, undef, .agg #[.int .i64 k, .int .i64 id, .int .i64 a, .int .i64 b, .slice lo ys.length cap], undef, undef, undef, undef, undef, undef, undef, undef], []⟩ W := by
  unfold dOps
  refine wpAnyH_ready (rs := [1, 4]) (by kernel_rfl) (by simp) ?_
  refine AllReadyH.cons rfl (fun K hK => ?_) ?_
  · go_simp
    refine hK.out _ _ (kept_block D.box (below_one _ _)) (fun _ => ?_)
    clear hK K
    try simp only [Act.put]
    try simp only [List.setIfInBounds_toArray]
    try simp only [List.set_cons_succ]
    try simp only [List.set_cons_zero]
    exact dg0112 (D.below (below_one W (.cells #[] 5))) hY (rY.below (below_one W (.cells #[] 5))) HQ
  refine AllReadyH.cons rfl (fun K hK => ?_) ?_
  · go_simp
    go_wp2_with (go_at_call 31; refine (below_any C a0 l0 c0 z0 3 _ D.wn.cur (by omega)).mono ?_; rintro e W' ⟨x, rfl, -, -, -, went⟩)
    refine hK.out _ _ (D.went went).box (fun _ => ?_)
    clear hK K
    try simp only [Act.put]
    try simp only [List.setIfInBounds_toArray]
    try simp only [List.set_cons_succ]
    try simp only [List.set_cons_zero]
    exact dg1012 (D.went went) hY (row_went rY went.grown (by have := D.c4; omega)) HQ
  exact AllReadyH.nil

set_option maxRecDepth 100000 in
set_option maxHeartbeats 1000000 in
theorem dg0102 {Q : Exit → Act → World → Prop} {C X l0 c0 cap : Nat} {a0 lo : Option Addr} {z0 : List Int} {k id a b : Int} {ys : List BI} {S : ByteArray} {w w4 W : World} {u0 u1 u2 u3 u7 u8 u9 u10 u11 u12 u13 u14 u15 : Value} {bA : Nat} {v23 : Value} {bY : Nat} (D : DG w w4 W C X a0 l0 c0 z0 k id a b lo cap ys) (hY : w4.heap.size ≤ bY) (rY : Row W (some ⟨bY, 0, none⟩) 4 4 [121, 97, 114, 100]) (HQ : Hid (∀ (v17 v18 v20 v21 v22 v23 v24 v25 v27 v28 : Value) (ao : Option Addr) (n cp : Nat) (zs : List Int) (W : World), n ≤ 3000 → Row W ao n cp zs → Below C w W → Q .normal ⟨#[u0, u1, .string S, .slice ao n cp, .pointer (some ⟨C, 0, none⟩), .string S, .pointer (some ⟨X, 0, none⟩), u7, u8, u9, u10, u11, u12, u13, u14, u15, .string S, v17, v18, .pointer (some ⟨C, 0, none⟩), v20, v21, v22, v23, v24, v25, .agg #[.int .i64 k, .int .i64 id, .int .i64 a, .int .i64 b, .slice lo ys.length cap], v27, v28, .slice ao n cp, undef, undef, undef, undef, undef], []⟩ W)) :
    wpAnyH Tryz.prog .any dOps Q (fun W => W.heap[X]? = some (.cells #[.int .i64 k, .int .i64 id, .int .i64 a, .int .i64 b, .slice lo ys.length cap] 26)) 10 #[true, true, false, true, false, false, false, true, true, false, true, false, false, false, false, false] ⟨#[u0, u1, u2, u3, .pointer (some ⟨C, 0, none⟩), .string S, .pointer (some ⟨X, 0, none⟩), u7, u8, u9, u10, u11, u12, u13, u14, u15, .string S, .slice (some ⟨bA, 0, none⟩) 0 0, undef, .pointer (some ⟨C, 0, none⟩), undef, undef, undef, v23, .slice (some ⟨bY, 0, none⟩) 4 4, undef, .agg #[.int .i64 k, .int .i64 id, .int .i64 a, .int .i64 b, .slice lo ys.length cap], undef, undef, undef, undef, undef, undef, undef, undef], []⟩ W := by
  unfold dOps
  refine wpAnyH_ready (rs := [2, 4]) (by kernel_rfl) (by simp) ?_
  refine AllReadyH.cons rfl (fun K hK => ?_) ?_
  · go_simp
    refine hK.out _ _ (kept_block D.box (below_one _ _)) (fun _ => ?_)
    clear hK K
    try simp only [Act.put]
    try simp only [List.setIfInBounds_toArray]
    try simp only [List.set_cons_succ]
    try simp only [List.set_cons_zero]
    exact dg0112 (D.below (below_one W (.cells #[] 5))) hY (rY.below (below_one W (.cells #[] 5))) HQ
  refine AllReadyH.cons rfl (fun K hK => ?_) ?_
  · go_simp
    go_wp2_with (go_at_call 31; refine (below_any C a0 l0 c0 z0 3 _ D.wn.cur (by omega)).mono ?_; rintro e W' ⟨x, rfl, -, -, -, went⟩)
    refine hK.out _ _ (D.went went).box (fun _ => ?_)
    clear hK K
    try simp only [Act.put]
    try simp only [List.setIfInBounds_toArray]
    try simp only [List.set_cons_succ]
    try simp only [List.set_cons_zero]
    exact dg1102 (D.went went) hY (row_went rY went.grown (by have := D.c4; omega)) HQ
  exact AllReadyH.nil

set_option maxRecDepth 100000 in
set_option maxHeartbeats 1000000 in
theorem dg0111 {Q : Exit → Act → World → Prop} {C X l0 c0 cap : Nat} {a0 lo : Option Addr} {z0 : List Int} {k id a b : Int} {ys : List BI} {S : ByteArray} {w w4 W : World} {u0 u1 u2 u3 u7 u8 u9 u10 u11 u12 u13 u14 u15 : Value} {bA : Nat} {bB : Nat} {bY : Nat} (D : DG w w4 W C X a0 l0 c0 z0 k id a b lo cap ys) (hY : w4.heap.size ≤ bY) (yb : W.heap[bY]? = some (.cells #[.int .u8 121, .int .u8 97, .int .u8 114, .int .u8 100] 5)) (HQ : Hid (∀ (v17 v18 v20 v21 v22 v23 v24 v25 v27 v28 : Value) (ao : Option Addr) (n cp : Nat) (zs : List Int) (W : World), n ≤ 3000 → Row W ao n cp zs → Below C w W → Q .normal ⟨#[u0, u1, .string S, .slice ao n cp, .pointer (some ⟨C, 0, none⟩), .string S, .pointer (some ⟨X, 0, none⟩), u7, u8, u9, u10, u11, u12, u13, u14, u15, .string S, v17, v18, .pointer (some ⟨C, 0, none⟩), v20, v21, v22, v23, v24, v25, .agg #[.int .i64 k, .int .i64 id, .int .i64 a, .int .i64 b, .slice lo ys.length cap], v27, v28, .slice ao n cp, undef, undef, undef, undef, undef], []⟩ W)) :
    wpAnyH Tryz.prog .any dOps Q (fun W => W.heap[X]? = some (.cells #[.int .i64 k, .int .i64 id, .int .i64 a, .int .i64 b, .slice lo ys.length cap] 26)) 10 #[true, true, true, true, false, false, false, true, false, false, true, false, false, false, false, false] ⟨#[u0, u1, u2, u3, .pointer (some ⟨C, 0, none⟩), .string S, .pointer (some ⟨X, 0, none⟩), u7, u8, u9, u10, u11, u12, u13, u14, u15, .string S, .slice (some ⟨bA, 0, none⟩) 0 0, .slice (some ⟨bB, 0, none⟩) 0 0, .pointer (some ⟨C, 0, none⟩), undef, undef, undef, .slice (some ⟨bY, 0, none⟩) 4 4, undef, undef, .agg #[.int .i64 k, .int .i64 id, .int .i64 a, .int .i64 b, .slice lo ys.length cap], undef, undef, undef, undef, undef, undef, undef, undef], []⟩ W := by
  unfold dOps
  refine wpAnyH_ready (rs := [4, 8]) (by kernel_rfl) (by simp) ?_
  refine AllReadyH.cons rfl (fun K hK => ?_) ?_
  · go_simp
    go_wp2_with (go_at_call 31; refine (below_any C a0 l0 c0 z0 3 _ D.wn.cur (by omega)).mono ?_; rintro e W' ⟨x, rfl, -, -, -, went⟩)
    refine hK.out _ _ (D.went went).box (fun _ => ?_)
    clear hK K
    try simp only [Act.put]
    try simp only [List.setIfInBounds_toArray]
    try simp only [List.set_cons_succ]
    try simp only [List.set_cons_zero]
    exact dg1111 (D.went went) hY (kept_grown yb went.grown (fun j hj => by cases hj; have := D.c4; omega)) HQ
  refine AllReadyH.cons rfl (fun K hK => ?_) ?_
  · have hcv := conv_yard yb
    go_simp
    refine hK.out _ _ (D.freeze hY).box (fun _ => ?_)
    clear hK K hcv
    try simp only [Act.put]
    try simp only [List.setIfInBounds_toArray]
    try simp only [List.set_cons_succ]
    try simp only [List.set_cons_zero]
    exact dg0112 (D.freeze hY) hY (row_yard yb) HQ
  exact AllReadyH.nil

set_option maxRecDepth 100000 in
set_option maxHeartbeats 1000000 in
theorem dg0002 {Q : Exit → Act → World → Prop} {C X l0 c0 cap : Nat} {a0 lo : Option Addr} {z0 : List Int} {k id a b : Int} {ys : List BI} {S : ByteArray} {w w4 W : World} {u0 u1 u2 u3 u7 u8 u9 u10 u11 u12 u13 u14 u15 : Value} {v23 : Value} {bY : Nat} (D : DG w w4 W C X a0 l0 c0 z0 k id a b lo cap ys) (hY : w4.heap.size ≤ bY) (rY : Row W (some ⟨bY, 0, none⟩) 4 4 [121, 97, 114, 100]) (HQ : Hid (∀ (v17 v18 v20 v21 v22 v23 v24 v25 v27 v28 : Value) (ao : Option Addr) (n cp : Nat) (zs : List Int) (W : World), n ≤ 3000 → Row W ao n cp zs → Below C w W → Q .normal ⟨#[u0, u1, .string S, .slice ao n cp, .pointer (some ⟨C, 0, none⟩), .string S, .pointer (some ⟨X, 0, none⟩), u7, u8, u9, u10, u11, u12, u13, u14, u15, .string S, v17, v18, .pointer (some ⟨C, 0, none⟩), v20, v21, v22, v23, v24, v25, .agg #[.int .i64 k, .int .i64 id, .int .i64 a, .int .i64 b, .slice lo ys.length cap], v27, v28, .slice ao n cp, undef, undef, undef, undef, undef], []⟩ W)) :
    wpAnyH Tryz.prog .any dOps Q (fun W => W.heap[X]? = some (.cells #[.int .i64 k, .int .i64 id, .int .i64 a, .int .i64 b, .slice lo ys.length cap] 26)) 11 #[true, false, false, true, false, false, false, true, true, false, true, false, false, false, false, false] ⟨#[u0, u1, u2, u3, .pointer (some ⟨C, 0, none⟩), .string S, .pointer (some ⟨X, 0, none⟩), u7, u8, u9, u10, u11, u12, u13, u14, u15, .string S, undef, undef, .pointer (some ⟨C, 0, none⟩), undef, undef, undef, v23, .slice (some ⟨bY, 0, none⟩) 4 4, undef, .agg #[.int .i64 k, .int .i64 id, .int .i64 a, .int .i64 b, .slice lo ys.length cap], undef, undef, undef, undef, undef, undef, undef, undef], []⟩ W := by
  unfold dOps
  refine wpAnyH_ready (rs := [1, 2, 4]) (by kernel_rfl) (by simp) ?_
  refine AllReadyH.cons rfl (fun K hK => ?_) ?_
  · go_simp
    refine hK.out _ _ (kept_block D.box (below_one _ _)) (fun _ => ?_)
    clear hK K
    try simp only [Act.put]
    try simp only [List.setIfInBounds_toArray]
    try simp only [List.set_cons_succ]
    try simp only [List.set_cons_zero]
    exact dg0102 (D.below (below_one W (.cells #[] 5))) hY (rY.below (below_one W (.cells #[] 5))) HQ
  refine AllReadyH.cons rfl (fun K hK => ?_) ?_
  · go_simp
    refine hK.out _ _ (kept_block D.box (below_one _ _)) (fun _ => ?_)
    clear hK K
    try simp only [Act.put]
    try simp only [List.setIfInBounds_toArray]
    try simp only [List.set_cons_succ]
    try simp only [List.set_cons_zero]
    exact dg0012 (D.below (below_one W (.cells #[] 5))) hY (rY.below (below_one W (.cells #[] 5))) HQ
  refine AllReadyH.cons rfl (fun K hK => ?_) ?_
  · go_simp
    go_wp2_with (go_at_call 31; refine (below_any C a0 l0 c0 z0 3 _ D.wn.cur (by omega)).mono ?_; rintro e W' ⟨x, rfl, -, -, -, went⟩)
    refine hK.out _ _ (D.went went).box (fun _ => ?_)
    clear hK K
    try simp only [Act.put]
    try simp only [List.setIfInBounds_toArray]
    try simp only [List.set_cons_succ]
    try simp only [List.set_cons_zero]
    exact dg1002 (D.went went) hY (row_went rY went.grown (by have := D.c4; omega)) HQ
  exact AllReadyH.nil

set_option maxRecDepth 100000 in
set_option maxHeartbeats 1000000 in
theorem dg0011 {Q : Exit → Act → World → Prop} {C X l0 c0 cap : Nat} {a0 lo : Option Addr} {z0 : List Int} {k id a b : Int} {ys : List BI} {S : ByteArray} {w w4 W : World} {u0 u1 u2 u3 u7 u8 u9 u10 u11 u12 u13 u14 u15 : Value} {bB : Nat} {bY : Nat} (D : DG w w4 W C X a0 l0 c0 z0 k id a b lo cap ys) (hY : w4.heap.size ≤ bY) (yb : W.heap[bY]? = some (.cells #[.int .u8 121, .int .u8 97, .int .u8 114, .int .u8 100] 5)) (HQ : Hid (∀ (v17 v18 v20 v21 v22 v23 v24 v25 v27 v28 : Value) (ao : Option Addr) (n cp : Nat) (zs : List Int) (W : World), n ≤ 3000 → Row W ao n cp zs → Below C w W → Q .normal ⟨#[u0, u1, .string S, .slice ao n cp, .pointer (some ⟨C, 0, none⟩), .string S, .pointer (some ⟨X, 0, none⟩), u7, u8, u9, u10, u11, u12, u13, u14, u15, .string S, v17, v18, .pointer (some ⟨C, 0, none⟩), v20, v21, v22, v23, v24, v25, .agg #[.int .i64 k, .int .i64 id, .int .i64 a, .int .i64 b, .slice lo ys.length cap], v27, v28, .slice ao n cp, undef, undef, undef, undef, undef], []⟩ W)) :
    wpAnyH Tryz.prog .any dOps Q (fun W => W.heap[X]? = some (.cells #[.int .i64 k, .int .i64 id, .int .i64 a, .int .i64 b, .slice lo ys.length cap] 26)) 11 #[true, false, true, true, false, false, false, true, false, false, true, false, false, false, false, false] ⟨#[u0, u1, u2, u3, .pointer (some ⟨C, 0, none⟩), .string S, .pointer (some ⟨X, 0, none⟩), u7, u8, u9, u10, u11, u12, u13, u14, u15, .string S, undef, .slice (some ⟨bB, 0, none⟩) 0 0, .pointer (some ⟨C, 0, none⟩), undef, undef, undef, .slice (some ⟨bY, 0, none⟩) 4 4, undef, undef, .agg #[.int .i64 k, .int .i64 id, .int .i64 a, .int .i64 b, .slice lo ys.length cap], undef, undef, undef, undef, undef, undef, undef, undef], []⟩ W := by
  unfold dOps
  refine wpAnyH_ready (rs := [1, 4, 8]) (by kernel_rfl) (by simp) ?_
  refine AllReadyH.cons rfl (fun K hK => ?_) ?_
  · go_simp
    refine hK.out _ _ (kept_block D.box (below_one _ _)) (fun _ => ?_)
    clear hK K
    try simp only [Act.put]
    try simp only [List.setIfInBounds_toArray]
    try simp only [List.set_cons_succ]
    try simp only [List.set_cons_zero]
    exact dg0111 (D.below (below_one W (.cells #[] 5))) hY (kept_block yb (below_one W (.cells #[] 5))) HQ
  refine AllReadyH.cons rfl (fun K hK => ?_) ?_
  · go_simp
    go_wp2_with (go_at_call 31; refine (below_any C a0 l0 c0 z0 3 _ D.wn.cur (by omega)).mono ?_; rintro e W' ⟨x, rfl, -, -, -, went⟩)
    refine hK.out _ _ (D.went went).box (fun _ => ?_)
    clear hK K
    try simp only [Act.put]
    try simp only [List.setIfInBounds_toArray]
    try simp only [List.set_cons_succ]
    try simp only [List.set_cons_zero]
    exact dg1011 (D.went went) hY (kept_grown yb went.grown (fun j hj => by cases hj; have := D.c4; omega)) HQ
  refine AllReadyH.cons rfl (fun K hK => ?_) ?_
  · have hcv := conv_yard yb
    go_simp
    refine hK.out _ _ (D.freeze hY).box (fun _ => ?_)
    clear hK K hcv
    try simp only [Act.put]
    try simp only [List.setIfInBounds_toArray]
    try simp only [List.set_cons_succ]
    try simp only [List.set_cons_zero]
    exact dg0012 (D.freeze hY) hY (row_yard yb) HQ
  exact AllReadyH.nil

set_option maxRecDepth 100000 in
set_option maxHeartbeats 1000000 in
theorem dg0101 {Q : Exit → Act → World → Prop} {C X l0 c0 cap : Nat} {a0 lo : Option Addr} {z0 : List Int} {k id a b : Int} {ys : List BI} {S : ByteArray} {w w4 W : World} {u0 u1 u2 u3 u7 u8 u9 u10 u11 u12 u13 u14 u15 : Value} {bA : Nat} {bY : Nat} (D : DG w w4 W C X a0 l0 c0 z0 k id a b lo cap ys) (hY : w4.heap.size ≤ bY) (yb : W.heap[bY]? = some (.cells #[.int .u8 121, .int .u8 97, .int .u8 114, .int .u8 100] 5)) (HQ : Hid (∀ (v17 v18 v20 v21 v22 v23 v24 v25 v27 v28 : Value) (ao : Option Addr) (n cp : Nat) (zs : List Int) (W : World), n ≤ 3000 → Row W ao n cp zs → Below C w W → Q .normal ⟨#[u0, u1, .string S, .slice ao n cp, .pointer (some ⟨C, 0, none⟩), .string S, .pointer (some ⟨X, 0, none⟩), u7, u8, u9, u10, u11, u12, u13, u14, u15, .string S, v17, v18, .pointer (some ⟨C, 0, none⟩), v20, v21, v22, v23, v24, v25, .agg #[.int .i64 k, .int .i64 id, .int .i64 a, .int .i64 b, .slice lo ys.length cap], v27, v28, .slice ao n cp, undef, undef, undef, undef, undef], []⟩ W)) :
    wpAnyH Tryz.prog .any dOps Q (fun W => W.heap[X]? = some (.cells #[.int .i64 k, .int .i64 id, .int .i64 a, .int .i64 b, .slice lo ys.length cap] 26)) 11 #[true, true, false, true, false, false, false, true, false, false, true, false, false, false, false, false] ⟨#[u0, u1, u2, u3, .pointer (some ⟨C, 0, none⟩), .string S, .pointer (some ⟨X, 0, none⟩), u7, u8, u9, u10, u11, u12, u13, u14, u15, .string S, .slice (some ⟨bA, 0, none⟩) 0 0, undef, .pointer (some ⟨C, 0, none⟩), undef, undef, undef, .slice (some ⟨bY, 0, none⟩) 4 4, undef, undef, .agg #[.int .i64 k, .int .i64 id, .int .i64 a, .int .i64 b, .slice lo ys.length cap], undef, undef, undef, undef, undef, undef, undef, undef], []⟩ W := by
  unfold dOps
  refine wpAnyH_ready (rs := [2, 4, 8]) (by kernel_rfl) (by simp) ?_
  refine AllReadyH.cons rfl (fun K hK => ?_) ?_
  · go_simp
    refine hK.out _ _ (kept_block D.box (below_one _ _)) (fun _ => ?_)
    clear hK K
    try simp only [Act.put]
    try simp only [List.setIfInBounds_toArray]
    try simp only [List.set_cons_succ]
    try simp only [List.set_cons_zero]
    exact dg0111 (D.below (below_one W (.cells #[] 5))) hY (kept_block yb (below_one W (.cells #[] 5))) HQ
  refine AllReadyH.cons rfl (fun K hK => ?_) ?_
  · go_simp
    go_wp2_with (go_at_call 31; refine (below_any C a0 l0 c0 z0 3 _ D.wn.cur (by omega)).mono ?_; rintro e W' ⟨x, rfl, -, -, -, went⟩)
    refine hK.out _ _ (D.went went).box (fun _ => ?_)
    clear hK K
    try simp only [Act.put]
    try simp only [List.setIfInBounds_toArray]
    try simp only [List.set_cons_succ]
    try simp only [List.set_cons_zero]
    exact dg1101 (D.went went) hY (kept_grown yb went.grown (fun j hj => by cases hj; have := D.c4; omega)) HQ
  refine AllReadyH.cons rfl (fun K hK => ?_) ?_
  · have hcv := conv_yard yb
    go_simp
    refine hK.out _ _ (D.freeze hY).box (fun _ => ?_)
    clear hK K hcv
    try simp only [Act.put]
    try simp only [List.setIfInBounds_toArray]
    try simp only [List.set_cons_succ]
    try simp only [List.set_cons_zero]
    exact dg0102 (D.freeze hY) hY (row_yard yb) HQ
  exact AllReadyH.nil

set_option maxRecDepth 100000 in
set_option maxHeartbeats 1000000 in
theorem dg0110 {Q : Exit → Act → World → Prop} {C X l0 c0 cap : Nat} {a0 lo : Option Addr} {z0 : List Int} {k id a b : Int} {ys : List BI} {S : ByteArray} {w w4 W : World} {u0 u1 u2 u3 u7 u8 u9 u10 u11 u12 u13 u14 u15 : Value} {bA : Nat} {bB : Nat} (D : DG w w4 W C X a0 l0 c0 z0 k id a b lo cap ys) (HQ : Hid (∀ (v17 v18 v20 v21 v22 v23 v24 v25 v27 v28 : Value) (ao : Option Addr) (n cp : Nat) (zs : List Int) (W : World), n ≤ 3000 → Row W ao n cp zs → Below C w W → Q .normal ⟨#[u0, u1, .string S, .slice ao n cp, .pointer (some ⟨C, 0, none⟩), .string S, .pointer (some ⟨X, 0, none⟩), u7, u8, u9, u10, u11, u12, u13, u14, u15, .string S, v17, v18, .pointer (some ⟨C, 0, none⟩), v20, v21, v22, v23, v24, v25, .agg #[.int .i64 k, .int .i64 id, .int .i64 a, .int .i64 b, .slice lo ys.length cap], v27, v28, .slice ao n cp, undef, undef, undef, undef, undef], []⟩ W)) :
    wpAnyH Tryz.prog .any dOps Q (fun W => W.heap[X]? = some (.cells #[.int .i64 k, .int .i64 id, .int .i64 a, .int .i64 b, .slice lo ys.length cap] 26)) 11 #[true, true, true, true, false, false, false, false, false, false, true, false, false, false, false, false] ⟨#[u0, u1, u2, u3, .pointer (some ⟨C, 0, none⟩), .string S, .pointer (some ⟨X, 0, none⟩), u7, u8, u9, u10, u11, u12, u13, u14, u15, .string S, .slice (some ⟨bA, 0, none⟩) 0 0, .slice (some ⟨bB, 0, none⟩) 0 0, .pointer (some ⟨C, 0, none⟩), undef, undef, undef, undef, undef, undef, .agg #[.int .i64 k, .int .i64 id, .int .i64 a, .int .i64 b, .slice lo ys.length cap], undef, undef, undef, undef, undef, undef, undef, undef], []⟩ W := by
  unfold dOps
  refine wpAnyH_ready (rs := [4, 7]) (by kernel_rfl) (by simp) ?_
  refine AllReadyH.cons rfl (fun K hK => ?_) ?_
  · go_simp
    go_wp2_with (go_at_call 31; refine (below_any C a0 l0 c0 z0 3 _ D.wn.cur (by omega)).mono ?_; rintro e W' ⟨x, rfl, -, -, -, went⟩)
    refine hK.out _ _ (D.went went).box (fun _ => ?_)
    clear hK K
    try simp only [Act.put]
    try simp only [List.setIfInBounds_toArray]
    try simp only [List.set_cons_succ]
    try simp only [List.set_cons_zero]
    exact dg1110 (D.went went) HQ
  refine AllReadyH.cons rfl (fun K hK => ?_) ?_
  · go_simp
    refine hK.out _ _ (kept_block D.box (below_one _ _)) (fun _ => ?_)
    clear hK K
    try simp only [Act.put]
    try simp only [List.setIfInBounds_toArray]
    try simp only [List.set_cons_succ]
    try simp only [List.set_cons_zero]
    exact dg0111 (D.below (below_one W (.cells #[.int .u8 121, .int .u8 97, .int .u8 114, .int .u8 100] 5))) D.size4 (block_last W _) HQ
  exact AllReadyH.nil

set_option maxRecDepth 100000 in
set_option maxHeartbeats 1000000 in
theorem dg0001 {Q : Exit → Act → World → Prop} {C X l0 c0 cap : Nat} {a0 lo : Option Addr} {z0 : List Int} {k id a b : Int} {ys : List BI} {S : ByteArray} {w w4 W : World} {u0 u1 u2 u3 u7 u8 u9 u10 u11 u12 u13 u14 u15 : Value} {bY : Nat} (D : DG w w4 W C X a0 l0 c0 z0 k id a b lo cap ys) (hY : w4.heap.size ≤ bY) (yb : W.heap[bY]? = some (.cells #[.int .u8 121, .int .u8 97, .int .u8 114, .int .u8 100] 5)) (HQ : Hid (∀ (v17 v18 v20 v21 v22 v23 v24 v25 v27 v28 : Value) (ao : Option Addr) (n cp : Nat) (zs : List Int) (W : World), n ≤ 3000 → Row W ao n cp zs → Below C w W → Q .normal ⟨#[u0, u1, .string S, .slice ao n cp, .pointer (some ⟨C, 0, none⟩), .string S, .pointer (some ⟨X, 0, none⟩), u7, u8, u9, u10, u11, u12, u13, u14, u15, .string S, v17, v18, .pointer (some ⟨C, 0, none⟩), v20, v21, v22, v23, v24, v25, .agg #[.int .i64 k, .int .i64 id, .int .i64 a, .int .i64 b, .slice lo ys.length cap], v27, v28, .slice ao n cp, undef, undef, undef, undef, undef], []⟩ W)) :
    wpAnyH Tryz.prog .any dOps Q (fun W => W.heap[X]? = some (.cells #[.int .i64 k, .int .i64 id, .int .i64 a, .int .i64 b, .slice lo ys.length cap] 26)) 12 #[true, false, false, true, false, false, false, true, false, false, true, false, false, false, false, false] ⟨#[u0, u1, u2, u3, .pointer (some ⟨C, 0, none⟩), .string S, .pointer (some ⟨X, 0, none⟩), u7, u8, u9, u10, u11, u12, u13, u14, u15, .string S, undef, undef, .pointer (some ⟨C, 0, none⟩), undef, undef, undef, .slice (some ⟨bY, 0, none⟩) 4 4, undef, undef, .agg #[.int .i64 k, .int .i64 id, .int .i64 a, .int .i64 b, .slice lo ys.length cap], undef, undef, undef, undef, undef, undef, undef, undef], []⟩ W := by
  unfold dOps
  refine wpAnyH_ready (rs := [1, 2, 4, 8]) (by kernel_rfl) (by simp) ?_
  refine AllReadyH.cons rfl (fun K hK => ?_) ?_
  · go_simp
    refine hK.out _ _ (kept_block D.box (below_one _ _)) (fun _ => ?_)
    clear hK K
    try simp only [Act.put]
    try simp only [List.setIfInBounds_toArray]
    try simp only [List.set_cons_succ]
    try simp only [List.set_cons_zero]
    exact dg0101 (D.below (below_one W (.cells #[] 5))) hY (kept_block yb (below_one W (.cells #[] 5))) HQ
  refine AllReadyH.cons rfl (fun K hK => ?_) ?_
  · go_simp
    refine hK.out _ _ (kept_block D.box (below_one _ _)) (fun _ => ?_)
    clear hK K
    try simp only [Act.put]
    try simp only [List.setIfInBounds_toArray]
    try simp only [List.set_cons_succ]
    try simp only [List.set_cons_zero]
    exact dg0011 (D.below (below_one W (.cells #[] 5))) hY (kept_block yb (below_one W (.cells #[] 5))) HQ
  refine AllReadyH.cons rfl (fun K hK => ?_) ?_
  · go_simp
    go_wp2_with (go_at_call 31; refine (below_any C a0 l0 c0 z0 3 _ D.wn.cur (by omega)).mono ?_; rintro e W' ⟨x, rfl, -, -, -, went⟩)
    refine hK.out _ _ (D.went went).box (fun _ => ?_)
    clear hK K
    try simp only [Act.put]
    try simp only [List.setIfInBounds_toArray]
    try simp only [List.set_cons_succ]
    try simp only [List.set_cons_zero]
    exact dg1001 (D.went went) hY (kept_grown yb went.grown (fun j hj => by cases hj; have := D.c4; omega)) HQ
  refine AllReadyH.cons rfl (fun K hK => ?_) ?_
  · have hcv := conv_yard yb
    go_simp
    refine hK.out _ _ (D.freeze hY).box (fun _ => ?_)
    clear hK K hcv
    try simp only [Act.put]
    try simp only [List.setIfInBounds_toArray]
    try simp only [List.set_cons_succ]
    try simp only [List.set_cons_zero]
    exact dg0002 (D.freeze hY) hY (row_yard yb) HQ
  exact AllReadyH.nil

set_option maxRecDepth 100000 in
set_option maxHeartbeats 1000000 in
theorem dg0010 {Q : Exit → Act → World → Prop} {C X l0 c0 cap : Nat} {a0 lo : Option Addr} {z0 : List Int} {k id a b : Int} {ys : List BI} {S : ByteArray} {w w4 W : World} {u0 u1 u2 u3 u7 u8 u9 u10 u11 u12 u13 u14 u15 : Value} {bB : Nat} (D : DG w w4 W C X a0 l0 c0 z0 k id a b lo cap ys) (HQ : Hid (∀ (v17 v18 v20 v21 v22 v23 v24 v25 v27 v28 : Value) (ao : Option Addr) (n cp : Nat) (zs : List Int) (W : World), n ≤ 3000 → Row W ao n cp zs → Below C w W → Q .normal ⟨#[u0, u1, .string S, .slice ao n cp, .pointer (some ⟨C, 0, none⟩), .string S, .pointer (some ⟨X, 0, none⟩), u7, u8, u9, u10, u11, u12, u13, u14, u15, .string S, v17, v18, .pointer (some ⟨C, 0, none⟩), v20, v21, v22, v23, v24, v25, .agg #[.int .i64 k, .int .i64 id, .int .i64 a, .int .i64 b, .slice lo ys.length cap], v27, v28, .slice ao n cp, undef, undef, undef, undef, undef], []⟩ W)) :
    wpAnyH Tryz.prog .any dOps Q (fun W => W.heap[X]? = some (.cells #[.int .i64 k, .int .i64 id, .int .i64 a, .int .i64 b, .slice lo ys.length cap] 26)) 12 #[true, false, true, true, false, false, false, false, false, false, true, false, false, false, false, false] ⟨#[u0, u1, u2, u3, .pointer (some ⟨C, 0, none⟩), .string S, .pointer (some ⟨X, 0, none⟩), u7, u8, u9, u10, u11, u12, u13, u14, u15, .string S, undef, .slice (some ⟨bB, 0, none⟩) 0 0, .pointer (some ⟨C, 0, none⟩), undef, undef, undef, undef, undef, undef, .agg #[.int .i64 k, .int .i64 id, .int .i64 a, .int .i64 b, .slice lo ys.length cap], undef, undef, undef, undef, undef, undef, undef, undef], []⟩ W := by
  unfold dOps
  refine wpAnyH_ready (rs := [1, 4, 7]) (by kernel_rfl) (by simp) ?_
  refine AllReadyH.cons rfl (fun K hK => ?_) ?_
  · go_simp
    refine hK.out _ _ (kept_block D.box (below_one _ _)) (fun _ => ?_)
    clear hK K
    try simp only [Act.put]
    try simp only [List.setIfInBounds_toArray]
    try simp only [List.set_cons_succ]
    try simp only [List.set_cons_zero]
    exact dg0110 (D.below (below_one W (.cells #[] 5))) HQ
  refine AllReadyH.cons rfl (fun K hK => ?_) ?_
  · go_simp
    go_wp2_with (go_at_call 31; refine (below_any C a0 l0 c0 z0 3 _ D.wn.cur (by omega)).mono ?_; rintro e W' ⟨x, rfl, -, -, -, went⟩)
    refine hK.out _ _ (D.went went).box (fun _ => ?_)
    clear hK K
    try simp only [Act.put]
    try simp only [List.setIfInBounds_toArray]
    try simp only [List.set_cons_succ]
    try simp only [List.set_cons_zero]
    exact dg1010 (D.went went) HQ
  refine AllReadyH.cons rfl (fun K hK => ?_) ?_
  · go_simp
    refine hK.out _ _ (kept_block D.box (below_one _ _)) (fun _ => ?_)
    clear hK K
    try simp only [Act.put]
    try simp only [List.setIfInBounds_toArray]
    try simp only [List.set_cons_succ]
    try simp only [List.set_cons_zero]
    exact dg0011 (D.below (below_one W (.cells #[.int .u8 121, .int .u8 97, .int .u8 114, .int .u8 100] 5))) D.size4 (block_last W _) HQ
  exact AllReadyH.nil

set_option maxRecDepth 100000 in
set_option maxHeartbeats 1000000 in
theorem dg0100 {Q : Exit → Act → World → Prop} {C X l0 c0 cap : Nat} {a0 lo : Option Addr} {z0 : List Int} {k id a b : Int} {ys : List BI} {S : ByteArray} {w w4 W : World} {u0 u1 u2 u3 u7 u8 u9 u10 u11 u12 u13 u14 u15 : Value} {bA : Nat} (D : DG w w4 W C X a0 l0 c0 z0 k id a b lo cap ys) (HQ : Hid (∀ (v17 v18 v20 v21 v22 v23 v24 v25 v27 v28 : Value) (ao : Option Addr) (n cp : Nat) (zs : List Int) (W : World), n ≤ 3000 → Row W ao n cp zs → Below C w W → Q .normal ⟨#[u0, u1, .string S, .slice ao n cp, .pointer (some ⟨C, 0, none⟩), .string S, .pointer (some ⟨X, 0, none⟩), u7, u8, u9, u10, u11, u12, u13, u14, u15, .string S, v17, v18, .pointer (some ⟨C, 0, none⟩), v20, v21, v22, v23, v24, v25, .agg #[.int .i64 k, .int .i64 id, .int .i64 a, .int .i64 b, .slice lo ys.length cap], v27, v28, .slice ao n cp, undef, undef, undef, undef, undef], []⟩ W)) :
    wpAnyH Tryz.prog .any dOps Q (fun W => W.heap[X]? = some (.cells #[.int .i64 k, .int .i64 id, .int .i64 a, .int .i64 b, .slice lo ys.length cap] 26)) 12 #[true, true, false, true, false, false, false, false, false, false, true, false, false, false, false, false] ⟨#[u0, u1, u2, u3, .pointer (some ⟨C, 0, none⟩), .string S, .pointer (some ⟨X, 0, none⟩), u7, u8, u9, u10, u11, u12, u13, u14, u15, .string S, .slice (some ⟨bA, 0, none⟩) 0 0, undef, .pointer (some ⟨C, 0, none⟩), undef, undef, undef, undef, undef, undef, .agg #[.int .i64 k, .int .i64 id, .int .i64 a, .int .i64 b, .slice lo ys.length cap], undef, undef, undef, undef, undef, undef, undef, undef], []⟩ W := by
  unfold dOps
  refine wpAnyH_ready (rs := [2, 4, 7]) (by kernel_rfl) (by simp) ?_
  refine AllReadyH.cons rfl (fun K hK => ?_) ?_
  · go_simp
    refine hK.out _ _ (kept_block D.box (below_one _ _)) (fun _ => ?_)
    clear hK K
    try simp only [Act.put]
    try simp only [List.setIfInBounds_toArray]
    try simp only [List.set_cons_succ]
    try simp only [List.set_cons_zero]
    exact dg0110 (D.below (below_one W (.cells #[] 5))) HQ
  refine AllReadyH.cons rfl (fun K hK => ?_) ?_
  · go_simp
    go_wp2_with (go_at_call 31; refine (below_any C a0 l0 c0 z0 3 _ D.wn.cur (by omega)).mono ?_; rintro e W' ⟨x, rfl, -, -, -, went⟩)
    refine hK.out _ _ (D.went went).box (fun _ => ?_)
    clear hK K
    try simp only [Act.put]
    try simp only [List.setIfInBounds_toArray]
    try simp only [List.set_cons_succ]
    try simp only [List.set_cons_zero]
    exact dg1100 (D.went went) HQ
  refine AllReadyH.cons rfl (fun K hK => ?_) ?_
  · go_simp
    refine hK.out _ _ (kept_block D.box (below_one _ _)) (fun _ => ?_)
    clear hK K
    try simp only [Act.put]
    try simp only [List.setIfInBounds_toArray]
    try simp only [List.set_cons_succ]
    try simp only [List.set_cons_zero]
    exact dg0101 (D.below (below_one W (.cells #[.int .u8 121, .int .u8 97, .int .u8 114, .int .u8 100] 5))) D.size4 (block_last W _) HQ
  exact AllReadyH.nil

set_option maxRecDepth 100000 in
set_option maxHeartbeats 1000000 in
theorem dg0000 {Q : Exit → Act → World → Prop} {C X l0 c0 cap : Nat} {a0 lo : Option Addr} {z0 : List Int} {k id a b : Int} {ys : List BI} {S : ByteArray} {w w4 W : World} {u0 u1 u2 u3 u7 u8 u9 u10 u11 u12 u13 u14 u15 : Value} (D : DG w w4 W C X a0 l0 c0 z0 k id a b lo cap ys) (HQ : Hid (∀ (v17 v18 v20 v21 v22 v23 v24 v25 v27 v28 : Value) (ao : Option Addr) (n cp : Nat) (zs : List Int) (W : World), n ≤ 3000 → Row W ao n cp zs → Below C w W → Q .normal ⟨#[u0, u1, .string S, .slice ao n cp, .pointer (some ⟨C, 0, none⟩), .string S, .pointer (some ⟨X, 0, none⟩), u7, u8, u9, u10, u11, u12, u13, u14, u15, .string S, v17, v18, .pointer (some ⟨C, 0, none⟩), v20, v21, v22, v23, v24, v25, .agg #[.int .i64 k, .int .i64 id, .int .i64 a, .int .i64 b, .slice lo ys.length cap], v27, v28, .slice ao n cp, undef, undef, undef, undef, undef], []⟩ W)) :
    wpAnyH Tryz.prog .any dOps Q (fun W => W.heap[X]? = some (.cells #[.int .i64 k, .int .i64 id, .int .i64 a, .int .i64 b, .slice lo ys.length cap] 26)) 13 #[true, false, false, true, false, false, false, false, false, false, true, false, false, false, false, false] ⟨#[u0, u1, u2, u3, .pointer (some ⟨C, 0, none⟩), .string S, .pointer (some ⟨X, 0, none⟩), u7, u8, u9, u10, u11, u12, u13, u14, u15, .string S, undef, undef, .pointer (some ⟨C, 0, none⟩), undef, undef, undef, undef, undef, undef, .agg #[.int .i64 k, .int .i64 id, .int .i64 a, .int .i64 b, .slice lo ys.length cap], undef, undef, undef, undef, undef, undef, undef, undef], []⟩ W := by
  unfold dOps
  refine wpAnyH_ready (rs := [1, 2, 4, 7]) (by kernel_rfl) (by simp) ?_
  refine AllReadyH.cons rfl (fun K hK => ?_) ?_
  · go_simp
    refine hK.out _ _ (kept_block D.box (below_one _ _)) (fun _ => ?_)
    clear hK K
    try simp only [Act.put]
    try simp only [List.setIfInBounds_toArray]
    try simp only [List.set_cons_succ]
    try simp only [List.set_cons_zero]
    exact dg0100 (D.below (below_one W (.cells #[] 5))) HQ
  refine AllReadyH.cons rfl (fun K hK => ?_) ?_
  · go_simp
    refine hK.out _ _ (kept_block D.box (below_one _ _)) (fun _ => ?_)
    clear hK K
    try simp only [Act.put]
    try simp only [List.setIfInBounds_toArray]
    try simp only [List.set_cons_succ]
    try simp only [List.set_cons_zero]
    exact dg0010 (D.below (below_one W (.cells #[] 5))) HQ
  refine AllReadyH.cons rfl (fun K hK => ?_) ?_
  · go_simp
    go_wp2_with (go_at_call 31; refine (below_any C a0 l0 c0 z0 3 _ D.wn.cur (by omega)).mono ?_; rintro e W' ⟨x, rfl, -, -, -, went⟩)
    refine hK.out _ _ (D.went went).box (fun _ => ?_)
    clear hK K
    try simp only [Act.put]
    try simp only [List.setIfInBounds_toArray]
    try simp only [List.set_cons_succ]
    try simp only [List.set_cons_zero]
    exact dg1000 (D.went went) HQ
  refine AllReadyH.cons rfl (fun K hK => ?_) ?_
  · go_simp
    refine hK.out _ _ (kept_block D.box (below_one _ _)) (fun _ => ?_)
    clear hK K
    try simp only [Act.put]
    try simp only [List.setIfInBounds_toArray]
    try simp only [List.set_cons_succ]
    try simp only [List.set_cons_zero]
    exact dg0001 (D.below (below_one W (.cells #[.int .u8 121, .int .u8 97, .int .u8 114, .int .u8 100] 5))) D.size4 (block_last W _) HQ
  exact AllReadyH.nil

end Go.Proofs.YtamglfhnhjgdjaaGreatDoor
