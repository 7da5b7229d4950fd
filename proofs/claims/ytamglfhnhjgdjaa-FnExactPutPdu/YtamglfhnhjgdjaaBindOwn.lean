/-
  Binds that a call owns: the row of their cells, each bind's two lists, all in blocks of their own; how that stays while other blocks, or one bind's own parts, are written.
-/
import Derived.Test.YtamglfhnhjgdjaaBindMem
namespace Go.Proofs.Ytamglfhnhjgdjaa
open Go.RowKit

/-- The cells of a bind. -/
def BI.cs (x : BI) : List Value := [.slice x.oa x.on x.oc, .int .i64 x.K, .int .i64 x.N, .string x.S, .slice x.za x.zn x.zc]
def cBs (l : List BI) : List Value := l.flatMap BI.cs

theorem cs_length (x : BI) : x.cs.length = 5 := rfl
theorem cBs_cons (x : BI) (l : List BI) : cBs (x :: l) = x.cs ++ cBs l := by simp [cBs]
theorem cBs_append (a b : List BI) : cBs (a ++ b) = cBs a ++ cBs b := by simp [cBs]
theorem cBs_length (l : List BI) : (cBs l).length = l.length * 5 := by
  induction l with
  | nil => rfl
  | cons x l ih => rw [cBs_cons, List.length_append, ih, cs_length, List.length_cons]; omega

theorem cBs_at (pre : List BI) (x : BI) (post : List BI) (j : Nat) (hj : j < 5) : (cBs (pre ++ x :: post))[pre.length * 5 + j]? = x.cs[j]? := by
  rw [cBs_append, cBs_cons, List.getElem?_append_right (by rw [cBs_length]; omega), cBs_length, Nat.add_sub_cancel_left, List.getElem?_append_left (by rw [cs_length]; exact hj)]

theorem cBs_set (pre : List BI) (x x' : BI) (post : List BI) (j : Nat) (u : Value) (hj : j < 5) (h : x.cs.set j u = x'.cs) : (cBs (pre ++ x :: post)).set (pre.length * 5 + j) u = cBs (pre ++ x' :: post) := by
  rw [cBs_append, cBs_cons, List.set_append_right _ _ (by rw [cBs_length]; omega), cBs_length, Nat.add_sub_cancel_left, List.set_append_left _ _ (by rw [cs_length]; exact hj), h, cBs_append, cBs_cons]

/-- The block of a slice. -/
def blkL (ao : Option Addr) : List Nat := match ao with | some a => [a.block] | none => []
def BI.blks (x : BI) : List Nat := blkL x.oa ++ blkL x.za

theorem mem_blkL {ao : Option Addr} {n c b : Nat} : (Value.slice ao n c).ownBlock = some b ↔ b ∈ blkL ao := by
  cases ao <;> simp [Value.ownBlock, blkL, eq_comm]

theorem apart_row {ao bo : Option Addr} {n c m d : Nat} (h : ∀ b ∈ blkL ao, b ∉ blkL bo) : (Value.slice ao n c).ownBlock = none ∨ (Value.slice ao n c).ownBlock ≠ (Value.slice bo m d).ownBlock := by
  cases ao with
  | none => exact .inl rfl
  | some a =>
    cases bo with
    | none => exact .inr (by simp [Value.ownBlock])
    | some b => exact .inr (by have := h a.block (by simp [blkL]); simpa [Value.ownBlock, blkL] using this)

/-- Of the blocks that were there these alone may have turned. -/
structure Only (bs : List Nat) (w w' : World) : Prop where
  os : w'.os = w.os
  tape : w'.tape = w.tape
  output : w'.output = w.output
  size : w.heap.size ≤ w'.heap.size
  block : ∀ k, k < w.heap.size → k ∉ bs → w'.heap[k]? = w.heap[k]?

theorem Only.refl (bs : List Nat) (w : World) : Only bs w w := ⟨rfl, rfl, rfl, Nat.le_refl _, fun _ _ _ => rfl⟩
theorem Only.trans {bs : List Nat} {a b c : World} (h : Only bs a b) (k : Only bs b c) : Only bs a c :=
  ⟨k.os.trans h.os, k.tape.trans h.tape, k.output.trans h.output, Nat.le_trans h.size k.size, fun i hi hn => (k.block i (Nat.lt_of_lt_of_le hi h.size) hn).trans (h.block i hi hn)⟩
theorem Only.wider {bs cs : List Nat} {a b : World} (h : Only bs a b) (hs : ∀ x ∈ bs, x ∈ cs) : Only cs a b :=
  ⟨h.os, h.tape, h.output, h.size, fun k hk hn => h.block k hk (fun hb => hn (hs k hb))⟩
theorem Only.of_below {bs : List Nat} {a b : World} (h : Below a.heap.size a b) : Only bs a b := ⟨h.os, h.tape, h.output, h.size, fun k hk _ => h.block k hk⟩
theorem Only.of_grown {ao : Option Addr} {n c : Nat} {a b : World} (h : a.grownBy b (Value.slice ao n c).ownBlock) : Only (blkL ao) a b :=
  ⟨h.os, h.tape, h.output, h.size, fun k hk hn => h.block k hk (fun e => hn (mem_blkL.1 e.symm))⟩
theorem Only.set (w : World) (g j : Nat) (u : Value) : Only [g] w (w.setCell ⟨g, j, none⟩ u) :=
  ⟨rfl, rfl, rfl, by simp, fun k _ hn => Below.heap_setCell _ _ _ _ (by intro e; exact hn (by simp [e]))⟩
theorem Only.below {bs : List Nat} {w w' : World} (h : Only bs w w') {B : Nat} (hB : B ≤ w.heap.size) (hs : ∀ b ∈ bs, B ≤ b) : Below B w w' :=
  ⟨h.os, h.tape, h.output, h.size, fun k hk => h.block k (by omega) (fun hb => by have := hs k hb; omega)⟩
theorem Only.kept {bs : List Nat} {w w' : World} (h : Only bs w w') {i : Nat} {o : Obj} (hi : w.heap[i]? = some o) (hn : i ∉ bs) : w'.heap[i]? = some o := by
  rw [h.block i (Array.getElem?_eq_some_iff.1 hi).1 hn]; exact hi
theorem Only.own {bs : List Nat} {w w' : World} {base : Nat} {e : TypeId} {size : Nat} {v : Value} {n : Nat} {xs : List Value} (h : Only bs w w') (ho : w.ownsRow base e size v n xs) (hn : ∀ k, v.ownBlock = some k → k ∉ bs) : w'.ownsRow base e size v n xs := by
  obtain ⟨hl, h0 | ⟨g, cap, cur, rfl, hg, hh, r⟩⟩ := ho
  · exact ⟨hl, .inl h0⟩
  · exact ⟨hl, .inr ⟨g, cap, cur, rfl, hg, h.kept hh (hn g rfl), r⟩⟩

/-- What the call owns stays its own while only younger blocks turn, whatever the elements. -/
theorem own5_below {w w' : World} {base : Nat} {e : TypeId} {size : Nat} {v : Value} {n : Nat} {xs : List Value} (h : w.ownsRow base e size v n xs) (hb : Below w.heap.size w w') : w'.ownsRow base e size v n xs :=
  (Only.of_below (bs := []) hb).own h (by intro k _ hk; cases hk)
theorem own5_lt {w : World} {base : Nat} {e : TypeId} {size : Nat} {v : Value} {n : Nat} {xs : List Value} (h : w.ownsRow base e size v n xs) {base' : Nat} (hle : base' ≤ base) : w.ownsRow base' e size v n xs := by
  obtain ⟨hl, h | ⟨g, cap, cur, rfl, hg, r⟩⟩ := h
  · exact ⟨hl, .inl h⟩
  · exact ⟨hl, .inr ⟨g, cap, cur, rfl, by omega, r⟩⟩

/-- Rows of unlike elements lie in unlike blocks. -/
theorem apart_type {w : World} {base base' : Nat} {e e' : TypeId} {s s' : Nat} {v v' : Value} {n n' : Nat} {xs xs' : List Value} (h : w.ownsRow base e s v n xs) (h' : w.ownsRow base' e' s' v' n' xs') (hne : e ≠ e') {k : Nat} (hk : v.ownBlock = some k) : v'.ownBlock ≠ some k := by
  intro hk'
  rcases h.2 with ⟨rfl, _⟩ | ⟨g, cap, cur, rfl, _, hh, _⟩
  · cases hk
  · rcases h'.2 with ⟨rfl, _⟩ | ⟨g', cap', cur', rfl, _, hh', _⟩
    · cases hk'
    · simp only [Value.ownBlock, Option.some.injEq] at hk hk'
      subst hk hk'
      rw [hh] at hh'
      cases hh'
      exact hne rfl

/-- A bind whose lists the call owns. -/
structure BOwn (w : World) (base : Nat) (x : BI) : Prop where
  o : w.ownsRow base 3 1 (.slice x.oa x.on x.oc) x.on (cI x.o)
  z : w.ownsRow base 3 1 (.slice x.za x.zn x.zc) x.zn (cI x.z)
  ob : I64s x.o
  zb : I64s x.z
  s : x.S.size ≤ maxLen

theorem BOwn.in {w : World} {base : Nat} {x : BI} (h : BOwn w base x) : x.In w := ⟨irow_own h.o h.ob, irow_own h.z h.zb, h.s⟩
theorem BOwn.below {w w' : World} {base : Nat} {x : BI} (h : BOwn w base x) (hb : Below w.heap.size w w') : BOwn w' base x := ⟨own_below h.o hb, own_below h.z hb, h.ob, h.zb, h.s⟩
theorem BOwn.lt {w : World} {base base' : Nat} {x : BI} (h : BOwn w base x) (hb : base' ≤ base) : BOwn w base' x := ⟨own_lt h.o hb, own_lt h.z hb, h.ob, h.zb, h.s⟩
theorem BOwn.only {bs : List Nat} {w w' : World} {base : Nat} {x : BI} (h : BOwn w base x) (ho : Only bs w w') (hn : ∀ b ∈ x.blks, b ∉ bs) : BOwn w' base x :=
  ⟨ho.own h.o (fun k hk => hn k (List.mem_append_left _ (mem_blkL.1 hk))), ho.own h.z (fun k hk => hn k (List.mem_append_right _ (mem_blkL.1 hk))), h.ob, h.zb, h.s⟩
theorem BOwn.blk {w : World} {base : Nat} {x : BI} (h : BOwn w base x) : ∀ b ∈ x.blks, base ≤ b ∧ b < w.heap.size := by
  intro b hb
  rcases List.mem_append.1 hb with hb | hb
  · exact h.o.lt b (mem_blkL.2 hb)
  · exact h.z.lt b (mem_blkL.2 hb)

/-- Binds that the call owns. -/
structure BOwns (w : World) (base : Nat) (ao : Option Addr) (n cap : Nat) (l : List BI) : Prop where
  row : w.ownsRow base 47 5 (.slice ao n cap) n (cBs l)
  item : ∀ x ∈ l, BOwn w base x
  apart : (l.flatMap BI.blks).Nodup

/-- All blocks of binds. -/
def allB (ao : Option Addr) (l : List BI) : List Nat := blkL ao ++ l.flatMap BI.blks

theorem bowns_nil (w : World) (base : Nat) : BOwns w base none 0 0 [] := ⟨World.ownsRow_nil _ _ _ _, (by intro x hx; cases hx), List.nodup_nil⟩

theorem BOwns.size {w : World} {base : Nat} {ao : Option Addr} {n cap : Nat} {l : List BI} (h : BOwns w base ao n cap l) : l.length = n := by
  have := h.row.1; rw [cBs_length] at this; omega

theorem BOwns.below {w w' : World} {base : Nat} {ao : Option Addr} {n cap : Nat} {l : List BI} (h : BOwns w base ao n cap l) (hb : Below w.heap.size w w') : BOwns w' base ao n cap l :=
  ⟨own5_below h.row hb, fun x hx => (h.item x hx).below hb, h.apart⟩
theorem BOwns.lt {w : World} {base base' : Nat} {ao : Option Addr} {n cap : Nat} {l : List BI} (h : BOwns w base ao n cap l) (hb : base' ≤ base) : BOwns w base' ao n cap l :=
  ⟨own5_lt h.row hb, fun x hx => (h.item x hx).lt hb, h.apart⟩
theorem BOwns.only {bs : List Nat} {w w' : World} {base : Nat} {ao : Option Addr} {n cap : Nat} {l : List BI} (h : BOwns w base ao n cap l) (ho : Only bs w w') (hn : ∀ b ∈ allB ao l, b ∉ bs) : BOwns w' base ao n cap l :=
  ⟨ho.own h.row (fun k hk => hn k (List.mem_append_left _ (mem_blkL.1 hk))), fun x hx => (h.item x hx).only ho (fun b hb => hn b (List.mem_append_right _ (List.mem_flatMap.2 ⟨x, hx, hb⟩))), h.apart⟩
theorem BOwns.blk {w : World} {base : Nat} {ao : Option Addr} {n cap : Nat} {l : List BI} (h : BOwns w base ao n cap l) : ∀ b ∈ allB ao l, base ≤ b ∧ b < w.heap.size := by
  intro b hb
  rcases List.mem_append.1 hb with hb | hb
  · exact h.row.lt b (mem_blkL.2 hb)
  · obtain ⟨x, hx, hb⟩ := List.mem_flatMap.1 hb
    exact (h.item x hx).blk b hb

theorem BOwns.brow {w : World} {base : Nat} {ao : Option Addr} {n cap : Nat} {l : List BI} (h : BOwns w base ao n cap l) : BRow w ao n cap l := by
  have hl := h.size
  have hin := fun x hx => (h.item x hx).in
  rcases h.row.2 with ⟨e, h0⟩ | ⟨g, cap', cur, e, _, _, h1, h2, _⟩
  · cases e
    exact ⟨hl, Nat.le_refl _, Nat.zero_le _, fun _ => rfl, hin, .inl rfl⟩
  · cases e
    refine ⟨hl, h1, h2, (by intro h; cases h), hin, .inr ⟨g, 0, rfl, fun i x hi => ?_⟩⟩
    obtain ⟨hil, hx⟩ := List.getElem?_eq_some_iff.1 hi
    have el : l = l.take i ++ x :: l.drop (i + 1) := by rw [← hx, ← List.drop_eq_getElem_cons hil, List.take_append_drop]
    have at_ : ∀ j, j < 5 → w.cell? ⟨g, i * 5 + j, none⟩ = x.cs[j]? := by
      intro j hj
      rw [h.row.cellAt _ (by omega)]
      have := cBs_at (l.take i) x (l.drop (i + 1)) j hj
      rw [← el, List.length_take, Nat.min_eq_left (by omega)] at this
      exact this
    have a0 := at_ 0 (by omega); have a1 := at_ 1 (by omega); have a2 := at_ 2 (by omega); have a3 := at_ 3 (by omega); have a4 := at_ 4 (by omega)
    unfold BI.At
    rw [Nat.zero_add]
    exact ⟨a0, a1, a2, a3, a4⟩

theorem BOwns.type_apart {w : World} {base : Nat} {ao : Option Addr} {n cap : Nat} {l : List BI} (h : BOwns w base ao n cap l) {x : BI} (hx : x ∈ l) : ∀ b ∈ x.blks, b ∉ blkL ao := by
  intro b hb hc
  have hne : (3 : Nat) ≠ 47 := by decide
  rcases List.mem_append.1 hb with hb | hb
  · exact apart_type (h.item x hx).o h.row hne (mem_blkL.2 hb) (mem_blkL.2 hc)
  · exact apart_type (h.item x hx).z h.row hne (mem_blkL.2 hb) (mem_blkL.2 hc)

theorem apart_mid {pre post : List BI} {x : BI} (h : ((pre ++ x :: post).flatMap BI.blks).Nodup) : x.blks.Nodup ∧ ∀ y, y ∈ pre ∨ y ∈ post → ∀ b ∈ y.blks, b ∉ x.blks := by
  rw [List.flatMap_append, List.flatMap_cons] at h
  obtain ⟨h1, h2, h3⟩ := List.nodup_append.1 h
  obtain ⟨h4, h5, h6⟩ := List.nodup_append.1 h2
  refine ⟨h4, fun y hy b hb hx => ?_⟩
  rcases hy with hy | hy
  · exact h3 b (List.mem_flatMap.2 ⟨y, hy, hb⟩) b (List.mem_append_left _ hx) rfl
  · exact h6 b hx b (List.mem_flatMap.2 ⟨y, hy, hb⟩) rfl

/-- One bind's parts turn, its blocks stay the same. -/
theorem BOwns.turn {bs : List Nat} {w w' : World} {base : Nat} {ao : Option Addr} {n cap : Nat} {pre post : List BI} {x x' : BI} (h : BOwns w base ao n cap (pre ++ x :: post)) (hb : x'.blks = x.blks) (ho : Only bs w w') (hs : ∀ b ∈ bs, b ∈ x.blks ∨ b ∈ blkL ao)
    (hr : w'.ownsRow base 47 5 (.slice ao n cap) n (cBs (pre ++ x' :: post))) (hx : BOwn w' base x') : BOwns w' base ao n cap (pre ++ x' :: post) where
  row := hr
  item := by
    intro y hy
    have hm := (apart_mid h.apart).2
    have keep : (y ∈ pre ∨ y ∈ post) → y ∈ pre ++ x :: post → BOwn w' base y := fun hy hy' => (h.item y hy').only ho (fun b hb hbs => by
      rcases hs b hbs with h1 | h1
      · exact hm y hy b hb h1
      · exact h.type_apart hy' b hb h1)
    rcases List.mem_append.1 hy with hy | hy
    · exact keep (.inl hy) (List.mem_append_left _ hy)
    · rcases List.mem_cons.1 hy with rfl | hy
      · exact hx
      · exact keep (.inr hy) (List.mem_append_right _ (List.mem_cons_of_mem _ hy))
  apart := by
    have := h.apart
    rw [List.flatMap_append, List.flatMap_cons] at this ⊢
    rw [hb]; exact this

theorem BOwns.setO {w w' : World} {base : Nat} {ao : Option Addr} {n cap : Nat} {pre post : List BI} {x : BI} {o' : List Int} (h : BOwns w base ao n cap (pre ++ x :: post)) (hg : w.grownBy w' (Value.slice x.oa x.on x.oc).ownBlock)
    (ho : w'.ownsRow base 3 1 (.slice x.oa x.on x.oc) x.on (cI o')) (hb : I64s o') : BOwns w' base ao n cap (pre ++ { x with o := o' } :: post) := by
  have O := Only.of_grown hg
  have hx : x ∈ pre ++ x :: post := by simp
  have I := h.item x hx
  have nd := (apart_mid h.apart).1
  refine h.turn (bs := blkL x.oa) (x' := { x with o := o' }) rfl O (fun b hb => .inl (List.mem_append_left _ hb)) ?_ ⟨ho, ?_, hb, I.zb, I.s⟩
  · have e : cBs (pre ++ { x with o := o' } :: post) = cBs (pre ++ x :: post) := by simp [cBs, BI.cs]
    rw [e]
    exact O.own h.row (fun k hk hk' => h.type_apart hx k (List.mem_append_left _ hk') (mem_blkL.1 hk))
  · exact O.own I.z (fun k hk hk' => (List.nodup_append.1 nd).2.2 k hk' k (mem_blkL.1 hk) rfl)

theorem BOwns.setZ {w w' : World} {base : Nat} {ao : Option Addr} {n cap : Nat} {pre post : List BI} {x : BI} {z' : List Int} (h : BOwns w base ao n cap (pre ++ x :: post)) (hg : w.grownBy w' (Value.slice x.za x.zn x.zc).ownBlock)
    (ho : w'.ownsRow base 3 1 (.slice x.za x.zn x.zc) x.zn (cI z')) (hb : I64s z') : BOwns w' base ao n cap (pre ++ { x with z := z' } :: post) := by
  have O := Only.of_grown hg
  have hx : x ∈ pre ++ x :: post := by simp
  have I := h.item x hx
  have nd := (apart_mid h.apart).1
  refine h.turn (bs := blkL x.za) (x' := { x with z := z' }) rfl O (fun b hb => .inl (List.mem_append_right _ hb)) ?_ ⟨?_, ho, I.ob, hb, I.s⟩
  · have e : cBs (pre ++ { x with z := z' } :: post) = cBs (pre ++ x :: post) := by simp [cBs, BI.cs]
    rw [e]
    exact O.own h.row (fun k hk hk' => h.type_apart hx k (List.mem_append_right _ hk') (mem_blkL.1 hk))
  · exact O.own I.o (fun k hk hk' => (List.nodup_append.1 nd).2.2 k (mem_blkL.1 hk) k hk' rfl)

theorem BOwns.at {w : World} {base : Nat} {ao : Option Addr} {n cap : Nat} {pre post : List BI} {x : BI} (h : BOwns w base ao n cap (pre ++ x :: post)) : ∃ g, ao = some ⟨g, 0, none⟩ ∧ x.At w g (pre.length * 5) ∧ x.In w ∧ ∀ j, w.frozen? ⟨g, j, none⟩ = false := by
  have hl := h.size
  have B := h.brow
  rcases h.row.2 with ⟨e, h0⟩ | ⟨g, cap', cur, e, _, _, h1, h2, _⟩
  · simp at hl; omega
  · cases e
    rcases B.cell with h0 | ⟨b, off, ha, hc⟩
    · simp at hl; omega
    · cases ha
      have := hc pre.length x (by simp)
      rw [Nat.zero_add] at this
      exact ⟨g, rfl, this, B.item x (by simp), fun j => h.row.frozenAt j⟩

theorem BOwns.store {w : World} {base : Nat} {g n cap : Nat} {pre post : List BI} {x x' : BI} {j : Nat} {u : Value} (h : BOwns w base (some ⟨g, 0, none⟩) n cap (pre ++ x :: post)) (hj : j < 5) (hc : x.cs.set j u = x'.cs) (hb : x'.blks = x.blks) (hx : BOwn w base x → BOwn w base x') :
    BOwns (w.setCell ⟨g, pre.length * 5 + j, none⟩ u) base (some ⟨g, 0, none⟩) n cap (pre ++ x' :: post) := by
  have hm : x ∈ pre ++ x :: post := by simp
  have R := (h.row.stored (pre.length * 5 + j) u).1
  rw [cBs_set pre x x' post j u hj hc] at R
  have O := Only.set w g (pre.length * 5 + j) u
  refine h.turn hb O (fun b hb => .inr (by simpa [blkL] using hb)) R ?_
  exact (hx (h.item x hm)).only O (fun b hb' hb2 => h.type_apart hm b (hb ▸ hb') (by simpa [blkL] using hb2))

theorem BOwns.setK {w : World} {base : Nat} {g n cap : Nat} {pre post : List BI} {x : BI} (h : BOwns w base (some ⟨g, 0, none⟩) n cap (pre ++ x :: post)) (K : Int) : BOwns (w.setCell ⟨g, pre.length * 5 + 1, none⟩ (.int .i64 K)) base (some ⟨g, 0, none⟩) n cap (pre ++ { x with K := K } :: post) :=
  h.store (by omega) rfl rfl (fun I => ⟨I.o, I.z, I.ob, I.zb, I.s⟩)
theorem BOwns.setN {w : World} {base : Nat} {g n cap : Nat} {pre post : List BI} {x : BI} (h : BOwns w base (some ⟨g, 0, none⟩) n cap (pre ++ x :: post)) (N : Int) : BOwns (w.setCell ⟨g, pre.length * 5 + 2, none⟩ (.int .i64 N)) base (some ⟨g, 0, none⟩) n cap (pre ++ { x with N := N } :: post) :=
  h.store (by omega) rfl rfl (fun I => ⟨I.o, I.z, I.ob, I.zb, I.s⟩)
theorem BOwns.setS {w : World} {base : Nat} {g n cap : Nat} {pre post : List BI} {x : BI} (h : BOwns w base (some ⟨g, 0, none⟩) n cap (pre ++ x :: post)) (S : ByteArray) (hS : S.size ≤ maxLen) : BOwns (w.setCell ⟨g, pre.length * 5 + 3, none⟩ (.string S)) base (some ⟨g, 0, none⟩) n cap (pre ++ { x with S := S } :: post) :=
  h.store (by omega) rfl rfl (fun I => ⟨I.o, I.z, I.ob, I.zb, hS⟩)

/-- One bind more, by append. -/
theorem BOwns.push {w w' : World} {base : Nat} {ao ao' : Option Addr} {n cap cap' : Nat} {l : List BI} {x : BI} (h : BOwns w base ao n cap l) (hx : BOwn w base x) (hnd : x.blks.Nodup) (hap : ∀ y ∈ l, ∀ b ∈ y.blks, b ∉ x.blks) (hg : w.grownBy w' (Value.slice ao n cap).ownBlock)
    (hr : w'.ownsRow base 47 5 (.slice ao' (n + 1) cap') (n + 1) (cBs l ++ x.cs)) : BOwns w' base ao' (n + 1) cap' (l ++ [x]) where
  row := by rw [cBs_append]; simpa [cBs] using hr
  item := by
    have O := Only.of_grown hg
    intro y hy
    rcases List.mem_append.1 hy with hy | hy
    · exact (h.item y hy).only O (h.type_apart hy)
    · rw [List.mem_singleton] at hy
      subst hy
      have hne : (3 : Nat) ≠ 47 := by decide
      refine hx.only O fun b hb hc => ?_
      rcases List.mem_append.1 hb with hb | hb
      · exact apart_type hx.o h.row hne (mem_blkL.2 hb) (mem_blkL.2 hc)
      · exact apart_type hx.z h.row hne (mem_blkL.2 hb) (mem_blkL.2 hc)
  apart := by
    rw [List.flatMap_append, List.nodup_append]
    refine ⟨h.apart, by simpa using hnd, ?_⟩
    intro b hb c hc e
    subst e
    obtain ⟨y, hy, hb⟩ := List.mem_flatMap.1 hb
    exact hap y hy b hb (by simpa using hc)

end Go.Proofs.Ytamglfhnhjgdjaa
