/-
  Packed: OwnGen OutOwn FrameMath FdbSpec Draw Drawb DrawVec DrawPt DrawStr FdbEnt.
-/
import Derived.Test.YtddalpglihhipaaGreatPSK01
import Derived.Test.YtddalpglihhipaaGreatPSK02
import Derived.Deep.RegionWith
import Derived.Deep.RegionHeld3
import Derived.Deep.CutRange
namespace Go.Proofs.YtddalpglihhipaaGreat
open Go.RowKit

def blkL (ao : Option Addr) : List Nat := match ao with | some a => [a.block] | none => []

theorem mem_blkL {ao : Option Addr} {n c b : Nat} : (Value.slice ao n c).ownBlock = some b ↔ b ∈ blkL ao := by
 cases ao <;> simp [Value.ownBlock, blkL, eq_comm]

structure Only (bs : List Nat) (w w' : World) : Prop where
 os : w'.os = w.os
 tape : w'.tape = w.tape
 output : w'.output = w.output
 size : w.heap.size ≤ w'.heap.size
 block : ∀ k, k < w.heap.size → k ∉ bs → w'.heap[k]? = w.heap[k]?

theorem Only.refl (bs : List Nat) (w : World) : Only bs w w := ⟨rfl, rfl, rfl, Nat.le_refl _, fun _ _ _ => rfl⟩
theorem Only.trans {bs : List Nat} {a b c : World} (h : Only bs a b) (k : Only bs b c) : Only bs a c :=
 ⟨k.os.trans h.os, k.tape.trans h.tape, k.output.trans h.output, Nat.le_trans h.size k.size, fun i hi hn => (k.block i (Nat.lt_of_lt_of_le hi h.size) hn).trans (h.block i hi hn)⟩
theorem Only.wider {bs cs : List Nat} {a b : World} (h : Only bs a b) (hs : ∀ x ∈ bs, x ∈ cs) : Only cs a b :=
 ⟨h.os, h.tape, h.output, h.size, fun k hk hn => h.block k hk (fun hb => hn (hs k hb))⟩
theorem Only.of_below {bs : List Nat} {a b : World} (h : Below a.heap.size a b) : Only bs a b := ⟨h.os, h.tape, h.output, h.size, fun k hk _ => h.block k hk⟩
theorem Only.of_grown {ao : Option Addr} {n c : Nat} {a b : World} (h : a.grownBy b (Value.slice ao n c).ownBlock) : Only (blkL ao) a b :=
 ⟨h.os, h.tape, h.output, h.size, fun k hk hn => h.block k hk (fun e => hn (mem_blkL.1 e.symm))⟩
theorem Only.set (w : World) (g j : Nat) (u : Value) : Only [g] w (w.setCell ⟨g, j, none⟩ u) :=
 ⟨rfl, rfl, rfl, by simp, fun k _ hn => Below.heap_setCell _ _ _ _ (by intro e; exact hn (by simp [e]))⟩
theorem Only.below {bs : List Nat} {w w' : World} (h : Only bs w w') {B : Nat} (hB : B ≤ w.heap.size) (hs : ∀ b ∈ bs, B ≤ b) : Below B w w' :=
 ⟨h.os, h.tape, h.output, h.size, fun k hk => h.block k (by omega) (fun hb => by have := hs k hb; omega)⟩
theorem Only.kept {bs : List Nat} {w w' : World} (h : Only bs w w') {i : Nat} {o : Obj} (hi : w.heap[i]? = some o) (hn : i ∉ bs) : w'.heap[i]? = some o := by
 rw [h.block i (Array.getElem?_eq_some_iff.1 hi).1 hn]; exact hi
theorem Only.own {bs : List Nat} {w w' : World} {base : Nat} {e : TypeId} {size : Nat} {v : Value} {n : Nat} {xs : List Value} (h : Only bs w w') (ho : w.ownsRow base e size v n xs) (hn : ∀ k, v.ownBlock = some k → k ∉ bs) : w'.ownsRow base e size v n xs := by
 obtain ⟨hl, h0 | ⟨g, cap, cur, rfl, hg, hh, r⟩⟩ := ho
 ·exact ⟨hl, .inl h0⟩
 ·exact ⟨hl, .inr ⟨g, cap, cur, rfl, hg, h.kept hh (hn g rfl), r⟩⟩

theorem own5_below {w w' : World} {base : Nat} {e : TypeId} {size : Nat} {v : Value} {n : Nat} {xs : List Value} (h : w.ownsRow base e size v n xs) (hb : Below w.heap.size w w') : w'.ownsRow base e size v n xs :=
 (Only.of_below (bs := []) hb).own h (by intro k _ hk; cases hk)
theorem own5_lt {w : World} {base : Nat} {e : TypeId} {size : Nat} {v : Value} {n : Nat} {xs : List Value} (h : w.ownsRow base e size v n xs) {base' : Nat} (hle : base' ≤ base) : w.ownsRow base' e size v n xs := by
 obtain ⟨hl, h | ⟨g, cap, cur, rfl, hg, r⟩⟩ := h
 ·exact ⟨hl, .inl h⟩
 ·exact ⟨hl, .inr ⟨g, cap, cur, rfl, by omega, r⟩⟩

theorem apart_type {w : World} {base base' : Nat} {e e' : TypeId} {s s' : Nat} {v v' : Value} {n n' : Nat} {xs xs' : List Value} (h : w.ownsRow base e s v n xs) (h' : w.ownsRow base' e' s' v' n' xs') (hne : e ≠ e') {k : Nat} (hk : v.ownBlock = some k) : v'.ownBlock ≠ some k := by
 intro hk'
 rcases h.2 with ⟨rfl, _⟩ | ⟨g, cap, cur, rfl, _, hh, _⟩
 ·cases hk
 ·rcases h'.2 with ⟨rfl, _⟩ | ⟨g', cap', cur', rfl, _, hh', _⟩
  ·cases hk'
  ·simp only [Value.ownBlock, Option.some.injEq] at hk hk'
   subst hk hk'
   rw [hh] at hh'
   cases hh'
   exact hne rfl

structure OI where
 p : Int
 d : Int
 s : Int
 t : Int
 a : Option Addr
 n : Nat
 c : Nat
 z : List Int

structure OD where
 p : Int
 d : Int
 s : Int
 t : Int
 z : List Int

def OI.v (x : OI) : OD := ⟨x.p, x.d, x.s, x.t, x.z⟩
def OI.blks (x : OI) : List Nat := blkL x.a

def outF : Flat OI where
 k := 5
 cs := fun x => [.int .i64 x.p, .int .i64 x.d, .int .i64 x.s, .int .i64 x.t, .slice x.a x.n x.c]
 len := fun _ => rfl
 pos := by decide
 one := fun _ v hv => by
  simp only [List.mem_cons, List.not_mem_nil, or_false] at hv
  rcases hv with rfl | rfl | rfl | rfl | rfl <;> rfl

theorem out_at {w : World} {ao : Option Addr} {len cap : Nat} {l : List OI} (h : GRow outF w ao len cap l) (i : Nat) (hi : i < len) : ∃ (x : OI) (b off : Nat), l[i]? = some x ∧ ao = some ⟨b, off, none⟩ ∧ w.cell? ⟨b, off + i * 5, none⟩ = some (.int .i64 x.p) ∧ w.cell? ⟨b, off + i * 5 + 1, none⟩ = some (.int .i64 x.d) ∧ w.cell? ⟨b, off + i * 5 + 2, none⟩ = some (.int .i64 x.s) ∧ w.cell? ⟨b, off + i * 5 + 3, none⟩ = some (.int .i64 x.t) ∧ w.cell? ⟨b, off + i * 5 + 4, none⟩ = some (.slice x.a x.n x.c) := by
 obtain ⟨x, b, off, hx, ha, hc⟩ := h.at i hi
 exact ⟨x, b, off, hx, ha, hc 0 _ rfl, hc 1 _ rfl, hc 2 _ rfl, hc 3 _ rfl, hc 4 _ rfl⟩

theorem outInfo : (Tryz.prog.info? 48).map (fun i => (i.zero, i.size, i.bytes)) = some (some (.agg #[.int .i64 0, .int .i64 0, .int .i64 0, .int .i64 0, .slice none 0 0]), outF.k, 56) := by kernel_rfl

structure OOwn (w : World) (base : Nat) (x : OI) : Prop where
 z : w.ownsRow base 5 1 (.slice x.a x.n x.c) x.n (cB x.z)
 zb : Byt x.z

theorem OOwn.row {w : World} {base : Nat} {x : OI} (h : OOwn w base x) : Row w x.a x.n x.c x.z := row_own h.z h.zb
theorem OOwn.below {w w' : World} {base : Nat} {x : OI} (h : OOwn w base x) (hb : Below w.heap.size w w') : OOwn w' base x := ⟨own5_below h.z hb, h.zb⟩
theorem OOwn.lt {w : World} {base base' : Nat} {x : OI} (h : OOwn w base x) (hb : base' ≤ base) : OOwn w base' x := ⟨own5_lt h.z hb, h.zb⟩
theorem OOwn.only {bs : List Nat} {w w' : World} {base : Nat} {x : OI} (h : OOwn w base x) (ho : Only bs w w') (hn : ∀ b ∈ x.blks, b ∉ bs) : OOwn w' base x :=
 ⟨ho.own h.z (fun k hk => hn k (mem_blkL.1 hk)), h.zb⟩
theorem OOwn.blk {w : World} {base : Nat} {x : OI} (h : OOwn w base x) : ∀ b ∈ x.blks, base ≤ b ∧ b < w.heap.size := fun b hb => h.z.lt b (mem_blkL.2 hb)

structure OOwns (w : World) (base : Nat) (ao : Option Addr) (n cap : Nat) (l : List OI) : Prop where
 row : w.ownsRow base 48 5 (.slice ao n cap) n (outF.all l)
 item : ∀ x ∈ l, OOwn w base x
 apart : (l.flatMap OI.blks).Nodup

def allO (ao : Option Addr) (l : List OI) : List Nat := blkL ao ++ l.flatMap OI.blks

theorem oowns_nil (w : World) (base : Nat) : OOwns w base none 0 0 [] := ⟨World.ownsRow_nil _ _ _ _, (by intro x hx; cases hx), List.nodup_nil⟩

theorem OOwns.grow {w : World} {base : Nat} {ao : Option Addr} {n cap : Nat} {l : List OI} (h : OOwns w base ao n cap l) : GRow outF w ao n cap l := grow_own (F := outF) h.row
theorem OOwns.size {w : World} {base : Nat} {ao : Option Addr} {n cap : Nat} {l : List OI} (h : OOwns w base ao n cap l) : l.length = n := h.grow.size
theorem OOwns.below {w w' : World} {base : Nat} {ao : Option Addr} {n cap : Nat} {l : List OI} (h : OOwns w base ao n cap l) (hb : Below w.heap.size w w') : OOwns w' base ao n cap l :=
 ⟨own5_below h.row hb, fun x hx => (h.item x hx).below hb, h.apart⟩
theorem OOwns.lt {w : World} {base base' : Nat} {ao : Option Addr} {n cap : Nat} {l : List OI} (h : OOwns w base ao n cap l) (hb : base' ≤ base) : OOwns w base' ao n cap l :=
 ⟨own5_lt h.row hb, fun x hx => (h.item x hx).lt hb, h.apart⟩
theorem OOwns.only {bs : List Nat} {w w' : World} {base : Nat} {ao : Option Addr} {n cap : Nat} {l : List OI} (h : OOwns w base ao n cap l) (ho : Only bs w w') (hn : ∀ b ∈ allO ao l, b ∉ bs) : OOwns w' base ao n cap l :=
 ⟨ho.own h.row (fun k hk => hn k (List.mem_append_left _ (mem_blkL.1 hk))), fun x hx => (h.item x hx).only ho (fun b hb => hn b (List.mem_append_right _ (List.mem_flatMap.2 ⟨x, hx, hb⟩))), h.apart⟩
theorem OOwns.blk {w : World} {base : Nat} {ao : Option Addr} {n cap : Nat} {l : List OI} (h : OOwns w base ao n cap l) : ∀ b ∈ allO ao l, base ≤ b ∧ b < w.heap.size := by
 intro b hb
 rcases List.mem_append.1 hb with hb | hb
 ·exact h.row.lt b (mem_blkL.2 hb)
 ·obtain ⟨x, hx, hb⟩ := List.mem_flatMap.1 hb
  exact (h.item x hx).blk b hb

theorem OOwns.type_apart {w : World} {base : Nat} {ao : Option Addr} {n cap : Nat} {l : List OI} (h : OOwns w base ao n cap l) {x : OI} (hx : x ∈ l) : ∀ b ∈ x.blks, b ∉ blkL ao := fun b hb hc =>
 apart_type (h.item x hx).z h.row (show (5 : Nat) ≠ 48 by decide) (mem_blkL.2 hb) (mem_blkL.2 hc)

theorem oapart_mid {pre post : List OI} {x : OI} (h : ((pre ++ x :: post).flatMap OI.blks).Nodup) : ∀ y, y ∈ pre ∨ y ∈ post → ∀ b ∈ y.blks, b ∉ x.blks := by
 rw [List.flatMap_append, List.flatMap_cons] at h
 obtain ⟨h1, h2, h3⟩ := List.nodup_append.1 h
 obtain ⟨h4, h5, h6⟩ := List.nodup_append.1 h2
 intro y hy b hb hx
 rcases hy with hy | hy
 ·exact h3 b (List.mem_flatMap.2 ⟨y, hy, hb⟩) b (List.mem_append_left _ hx) rfl
 ·exact h6 b hx b (List.mem_flatMap.2 ⟨y, hy, hb⟩) rfl

theorem OOwns.turn {bs : List Nat} {w w' : World} {base : Nat} {ao : Option Addr} {n cap : Nat} {pre post : List OI} {x x' : OI} (h : OOwns w base ao n cap (pre ++ x :: post)) (hb : x'.blks = x.blks) (ho : Only bs w w') (hs : ∀ b ∈ bs, b ∈ x.blks ∨ b ∈ blkL ao)
  (hr : w'.ownsRow base 48 5 (.slice ao n cap) n (outF.all (pre ++ x' :: post))) (hx : OOwn w' base x') : OOwns w' base ao n cap (pre ++ x' :: post) where
 row := hr
 item := by
  intro y hy
  have hm := oapart_mid h.apart
  have keep : (y ∈ pre ∨ y ∈ post) → y ∈ pre ++ x :: post → OOwn w' base y := fun hy hy' => (h.item y hy').only ho (fun b hb hbs => by
   rcases hs b hbs with h1 | h1
   ·exact hm y hy b hb h1
   ·exact h.type_apart hy' b hb h1)
  rcases List.mem_append.1 hy with hy | hy
  ·exact keep (.inl hy) (List.mem_append_left _ hy)
  ·rcases List.mem_cons.1 hy with rfl | hy
   ·exact hx
   ·exact keep (.inr hy) (List.mem_append_right _ (List.mem_cons_of_mem _ hy))
 apart := by
  have := h.apart
  rw [List.flatMap_append, List.flatMap_cons] at this ⊢
  rw [hb]; exact this

theorem OOwns.cells {w : World} {base g n cap : Nat} {pre post : List OI} {x : OI} (h : OOwns w base (some ⟨g, 0, none⟩) n cap (pre ++ x :: post)) : (w.cell? ⟨g, pre.length * 5, none⟩ = some (.int .i64 x.p) ∧ w.cell? ⟨g, pre.length * 5 + 1, none⟩ = some (.int .i64 x.d) ∧ w.cell? ⟨g, pre.length * 5 + 2, none⟩ = some (.int .i64 x.s) ∧ w.cell? ⟨g, pre.length * 5 + 3, none⟩ = some (.int .i64 x.t) ∧ w.cell? ⟨g, pre.length * 5 + 4, none⟩ = some (.slice x.a x.n x.c)) ∧ w.frozen? ⟨g, pre.length * 5, none⟩ = false ∧ w.frozen? ⟨g, pre.length * 5 + 1, none⟩ = false ∧ w.frozen? ⟨g, pre.length * 5 + 2, none⟩ = false ∧ w.frozen? ⟨g, pre.length * 5 + 3, none⟩ = false := by
 have hx : (pre ++ x :: post)[pre.length]? = some x := by simp
 have c := fun (j : Nat) (v : Value) (hv : (outF.cs x)[j]? = some v) => flat_cells (F := outF) h.row hx hv
 exact ⟨⟨(c 0 _ rfl).1, (c 1 _ rfl).1, (c 2 _ rfl).1, (c 3 _ rfl).1, (c 4 _ rfl).1⟩, (c 0 _ rfl).2, (c 1 _ rfl).2, (c 2 _ rfl).2, (c 3 _ rfl).2⟩

theorem OOwns.store {w : World} {base : Nat} {g n cap : Nat} {pre post : List OI} {x x' : OI} {j : Nat} {u : Value} (h : OOwns w base (some ⟨g, 0, none⟩) n cap (pre ++ x :: post)) (hj : j < 5) (hc : (outF.cs x).set j u = outF.cs x') (hb : x'.blks = x.blks) (hx : OOwn w base x → OOwn w base x') :
  OOwns (w.setCell ⟨g, pre.length * 5 + j, none⟩ u) base (some ⟨g, 0, none⟩) n cap (pre ++ x' :: post) := by
 have hm : x ∈ pre ++ x :: post := by simp
 have R := flat_stored (F := outF) h.row j u hj hc
 have O := Only.set w g (pre.length * 5 + j) u
 refine h.turn hb O (fun b hb => .inr (by simpa [blkL] using hb)) R ?_
 exact (hx (h.item x hm)).only O (fun b hb' hb2 => h.type_apart hm b (hb ▸ hb') (by simpa [blkL] using hb2))

theorem OOwns.push {w w' : World} {base : Nat} {ao ao' : Option Addr} {n cap cap' : Nat} {l : List OI} {x : OI} (h : OOwns w base ao n cap l) (hx : OOwn w base x) (hap : ∀ y ∈ l, ∀ b ∈ y.blks, b ∉ x.blks) (hg : w.grownBy w' (Value.slice ao n cap).ownBlock)
  (hr : w'.ownsRow base 48 5 (.slice ao' (n + 1) cap') (n + 1) (outF.all (l ++ [x]))) : OOwns w' base ao' (n + 1) cap' (l ++ [x]) where
 row := hr
 item := by
  have O := Only.of_grown hg
  intro y hy
  rcases List.mem_append.1 hy with hy | hy
  ·exact (h.item y hy).only O (h.type_apart hy)
  ·rw [List.mem_singleton] at hy
   subst hy
   exact hx.only O fun b hb hc => apart_type hx.z h.row (show (5 : Nat) ≠ 48 by decide) (mem_blkL.2 hb) (mem_blkL.2 hc)
 apart := by
  rw [List.flatMap_append, List.nodup_append]
  refine ⟨h.apart, ?_, ?_⟩
  ·simp only [List.flatMap_cons, List.flatMap_nil, List.append_nil]
   unfold OI.blks blkL
   split <;> simp
  ·intro b hb c hc e
   subst e
   obtain ⟨y, hy, hb⟩ := List.mem_flatMap.1 hb
   exact hap y hy b hb (by simpa using hc)

def okF (d s g : Int) (n : Nat) : Bool := decide (0 ≤ d ∧ d ≤ 9999) && (decide (1 ≤ s ∧ s ≤ 9999) && (decide (0 ≤ g ∧ g ≤ 99) && decide (n ≤ 20)))
def headF (d s : Int) : List Int := putTlv (putTlv [] 1 (putInt d)) 1 (putInt s)
def bodyF (d s g : Int) (z : List Int) : List Int := if g = 0 then putTlv (headF d s) 3 z else putTlv (putTlv (headF d s) 2 (putInt g)) 3 z
def putF (d s g : Int) (z : List Int) : List Int := if okF d s g z.length = true then bodyF d s g z else []

set_option maxRecDepth 100000 in
set_option maxHeartbeats 2000000 in
theorem specEnt_any (e : FE) (w : World) :
  Calls Tryz.prog 122 #[.agg #[.int .i64 e.t, .int .i64 e.m, .int .i64 e.p, .int .i64 e.a, .bool e.s]] w fun r w' => r = .returned (.bool (entOk e)) ∧ Below w.heap.size w w' := by
 generalize hP : entOk e = Q
 unfold entOk at hP
 cases t1 : (decide (1 ≤ e.t) && decide (e.t ≤ 99))
 ·have h : Q = false := by rw [← hP, t1]; rfl
  subst h
  have T1 := hide t1
  clear hP t1
  go_enter Tryz.func122, Tryz.ntmps122
  go_wp2_with fail
  refine (within_any e.t 1 99 _).mono ?_
  rintro r w1 ⟨rfl, rfl⟩
  rw [T1.out]
  go_wp2
  go_ret
  exact ⟨rfl, below_one _ _⟩
 cases t2 : (decide (1 ≤ e.m) && decide (e.m ≤ 9999))
 ·have h : Q = false := by rw [← hP, t1, t2]; rfl
  subst h
  have T1 := hide t1
  have T2 := hide t2
  clear hP t1 t2
  go_enter Tryz.func122, Tryz.ntmps122
  go_wp2_with fail
  refine (within_any e.t 1 99 _).mono ?_
  rintro r w1 ⟨rfl, rfl⟩
  rw [T1.out]
  go_wp2_with fail
  refine (within_any e.m 1 9999 _).mono ?_
  rintro r w2 ⟨rfl, rfl⟩
  rw [T2.out]
  go_wp2
  go_ret
  exact ⟨rfl, below_one _ _⟩
 cases t3 : (decide (0 ≤ e.p) && decide (e.p ≤ 7))
 ·have h : Q = false := by rw [← hP, t1, t2, t3]; rfl
  subst h
  have T1 := hide t1
  have T2 := hide t2
  have T3 := hide t3
  clear hP t1 t2 t3
  go_enter Tryz.func122, Tryz.ntmps122
  go_wp2_with fail
  refine (within_any e.t 1 99 _).mono ?_
  rintro r w1 ⟨rfl, rfl⟩
  rw [T1.out]
  go_wp2_with fail
  refine (within_any e.m 1 9999 _).mono ?_
  rintro r w2 ⟨rfl, rfl⟩
  rw [T2.out]
  go_wp2_with fail
  refine (within_any e.p 0 7 _).mono ?_
  rintro r w3 ⟨rfl, rfl⟩
  rw [T3.out]
  go_wp2
  go_ret
  exact ⟨rfl, below_one _ _⟩
 cases t4 : (decide (0 ≤ e.a) && decide (e.a ≤ 4))
 ·have h : Q = false := by rw [← hP, t1, t2, t3, t4]; rfl
  subst h
  have T1 := hide t1
  have T2 := hide t2
  have T3 := hide t3
  have T4 := hide t4
  clear hP t1 t2 t3 t4
  go_enter Tryz.func122, Tryz.ntmps122
  go_wp2_with fail
  refine (within_any e.t 1 99 _).mono ?_
  rintro r w1 ⟨rfl, rfl⟩
  rw [T1.out]
  go_wp2_with fail
  refine (within_any e.m 1 9999 _).mono ?_
  rintro r w2 ⟨rfl, rfl⟩
  rw [T2.out]
  go_wp2_with fail
  refine (within_any e.p 0 7 _).mono ?_
  rintro r w3 ⟨rfl, rfl⟩
  rw [T3.out]
  go_wp2_with fail
  refine (within_any e.a 0 4 _).mono ?_
  rintro r w4 ⟨rfl, rfl⟩
  rw [T4.out]
  go_wp2
  go_ret
  exact ⟨rfl, below_one _ _⟩
 rw [t1, t2, t3, t4, Bool.true_and, Bool.true_and, Bool.true_and, Bool.true_and] at hP
 have T1 := hide t1
 have T2 := hide t2
 have T3 := hide t3
 have T4 := hide t4
 clear t1 t2 t3 t4
 cases hs : e.s
 ·rw [hs] at hP
  have h : Q = true := by rw [← hP]; rfl
  subst h
  clear hP
  go_enter Tryz.func122, Tryz.ntmps122
  go_wp2_with fail
  refine (within_any e.t 1 99 _).mono ?_
  rintro r w1 ⟨rfl, rfl⟩
  rw [T1.out]
  go_wp2_with fail
  refine (within_any e.m 1 9999 _).mono ?_
  rintro r w2 ⟨rfl, rfl⟩
  rw [T2.out]
  go_wp2_with fail
  refine (within_any e.p 0 7 _).mono ?_
  rintro r w3 ⟨rfl, rfl⟩
  rw [T3.out]
  go_wp2_with fail
  refine (within_any e.a 0 4 _).mono ?_
  rintro r w4 ⟨rfl, rfl⟩
  rw [T4.out]
  go_wp2
  go_ret
  exact ⟨rfl, below_one _ _⟩
 ·rw [hs, Bool.not_true, Bool.false_or] at hP
  have HP := hide hP
  clear hP
  go_enter Tryz.func122, Tryz.ntmps122
  go_wp2_with fail
  refine (within_any e.t 1 99 _).mono ?_
  rintro r w1 ⟨rfl, rfl⟩
  rw [T1.out]
  go_wp2_with fail
  refine (within_any e.m 1 9999 _).mono ?_
  rintro r w2 ⟨rfl, rfl⟩
  rw [T2.out]
  go_wp2_with fail
  refine (within_any e.p 0 7 _).mono ?_
  rintro r w3 ⟨rfl, rfl⟩
  rw [T3.out]
  go_wp2_with fail
  refine (within_any e.a 0 4 _).mono ?_
  rintro r w4 ⟨rfl, rfl⟩
  rw [T4.out]
  go_wp2
  go_ret
  exact ⟨ret_bool HP.out, below_one _ _⟩

set_option maxRecDepth 100000 in
set_option maxHeartbeats 400000 in
theorem specAhead_any (e : FE) (t m : Int) (w : World) :
  Calls Tryz.prog 170 #[.agg #[.int .i64 e.t, .int .i64 e.m, .int .i64 e.p, .int .i64 e.a, .bool e.s], .int .i64 t, .int .i64 m] w fun r w' => r = .returned (.bool (ahead e t m)) ∧ Below w.heap.size w w' := by
 unfold ahead
 cases t1 : (e.t != t)
 ·rw [if_neg Bool.false_ne_true]
  go_enter Tryz.func170, Tryz.ntmps170
  go_wp2
  go_ret
  exact ⟨rfl, below_one _ _⟩
 ·rw [if_pos rfl]
  go_enter Tryz.func170, Tryz.ntmps170
  go_wp2
  go_ret
  exact ⟨rfl, below_one _ _⟩

def okTo (l : List FE) (k : Nat) : Prop := ∀ i x, i < k → l[i]? = some x → entOk x = true ∧ ∀ y, 0 < i → l[i - 1]? = some y → ahead y x.t x.m = true

theorem okTo_rises : ∀ (l : List FE), rises l = true ↔ okTo l l.length
 | [] => by simp [rises, okTo]
 | [e] => by
  simp only [rises, okTo, List.length_singleton]
  constructor
  ·intro h i x hi hx
   have h0 : i = 0 := by omega
   subst h0
   simp at hx
   subst hx
   exact ⟨h, fun y hy => by omega⟩
  ·intro h
   exact (h 0 e (by omega) rfl).1
 | e :: f :: r => by
  have ih := okTo_rises (f :: r)
  unfold rises
  simp only [Bool.and_eq_true, ih]
  constructor
  ·rintro ⟨h1, h2, h3⟩ i x hi hx
   match i, hx with
   | 0, hx =>
    simp at hx
    subst hx
    exact ⟨h1, fun y hy => by omega⟩
   | 1, hx =>
    simp at hx
    subst hx
    refine ⟨(h3 0 f (by simp) rfl).1, fun y _ hy => ?_⟩
    simp at hy
    subst hy
    exact h2
   | i + 2, hx =>
    obtain ⟨a1, a2⟩ := h3 (i + 1) x (by simp at hi ⊢; omega) (by simpa using hx)
    exact ⟨a1, fun y _ hy => a2 y (by omega) (by simpa using hy)⟩
  ·intro h
   refine ⟨(h 0 e (by simp) rfl).1, (h 1 f (by simp) rfl).2 e (by omega) rfl, fun i x hi hx => ?_⟩
   obtain ⟨a1, a2⟩ := h (i + 1) x (by simp at hi ⊢; omega) (by simpa using hx)
   refine ⟨a1, fun y hy hz => a2 y (by omega) ?_⟩
   obtain ⟨j, rfl⟩ : ∃ j, i = j + 1 := ⟨i - 1, by omega⟩
   simpa using hz

theorem okTo_next {l : List FE} {k : Nat} {x : FE} (h : okTo l k) (hx : l[k]? = some x) (h1 : entOk x = true) (h2 : ∀ y, 0 < k → l[k - 1]? = some y → ahead y x.t x.m = true) : okTo l (k + 1) := by
 intro i z hi hz
 by_cases e : i = k
 ·subst e
  rw [hx] at hz
  cases hz
  exact ⟨h1, h2⟩
 ·exact h i z (by omega) hz

theorem fdbOk_not {l : List FE} (h : ¬ okTo l l.length) : fdbOk l = false := by
 unfold fdbOk
 have : rises l = false := by
  cases hr : rises l
  ·rfl
  ·exact absurd ((okTo_rises l).1 hr) h
 rw [this]
 rfl

theorem fdbOk_yes {l : List FE} (h : okTo l l.length) : fdbOk l = decide ((l.length : Int) ≤ 12) := by
 unfold fdbOk
 rw [(okTo_rises l).2 h]
 rfl

theorem and_mask (x m : Int) (h : 0 ≤ m ∧ m ≤ 9223372036854775807) : 0 ≤ bits .and .i64 x m ∧ bits .and .i64 x m ≤ m := by
 have e2 : (BitVec.ofInt 64 m).toNat = m.toNat := by
  rw [BitVec.toNat_ofInt]
  have : ((2 ^ 64 : Nat) : Int) = 18446744073709551616 := by decide
  rw [this]; omega
 have e3 : ((BitVec.ofInt 64 x) &&& (BitVec.ofInt 64 m)).toNat ≤ m.toNat := by
  rw [BitVec.toNat_and, e2]; exact Nat.and_le_right
 have e : bits .and .i64 x m = IntKind.i64.wrap (((BitVec.ofInt 64 x) &&& (BitVec.ofInt 64 m)).toNat : Int) := rfl
 rw [e, IntKind.wrap_i64]
 omega

theorem grown_trans {a b c : World} {C : Nat} (h : a.grownBy b (some C)) (k : b.grownBy c (some C)) : a.grownBy c (some C) where
 os := k.os.trans h.os
 tape := k.tape.trans h.tape
 output := k.output.trans h.output
 size := Nat.le_trans h.size k.size
 block := fun j hj hne => (k.block j (Nat.lt_of_lt_of_le hj h.size) hne).trans (h.block j hj hne)

theorem grown_of_below {a b : World} (C : Nat) (h : Below a.heap.size a b) : a.grownBy b (some C) where
 os := h.os
 tape := h.tape
 output := h.output
 size := h.size
 block := fun j hj _ => h.block j hj

theorem below_of_grown {a b : World} {C B : Nat} (h : a.grownBy b (some C)) (hB : B ≤ C) (hs : C ≤ a.heap.size) : Below B a b where
 os := h.os
 tape := h.tape
 output := h.output
 size := h.size
 block := fun j hj => h.block j (by omega) (by intro e; cases e; omega)

theorem grown_drewN {a b : World} {C : Nat} (h : a.grownBy b (some C)) (n : Nat) : a.grownBy (b.drewN n) (some C) := ⟨h.os, h.tape, h.output, h.size, h.block⟩

structure Cur (w : World) (C : Nat) (a0 : Option Addr) (l0 c0 : Nat) (z0 : List Int) : Prop where
 row : ∀ w', Below C w w' → Row w' a0 l0 c0 z0
 small : l0 ≤ 1048576
 here : ∃ i h : Int, 0 ≤ i ∧ i ≤ l0 ∧ w.heap[C]? = some (.cells #[.slice a0 l0 c0, .int .i64 i, .int .i64 h] 126)

theorem Cur.lt {w : World} {C : Nat} {a0 : Option Addr} {l0 c0 : Nat} {z0 : List Int} (h : Cur w C a0 l0 c0 z0) : C < w.heap.size := by
 obtain ⟨i, x, _, _, e⟩ := h.here
 by_cases hlt : C < w.heap.size
 ·exact hlt
 ·rw [Array.getElem?_eq_none (by omega)] at e; cases e

theorem Cur.below {w w' : World} {C : Nat} {a0 : Option Addr} {l0 c0 : Nat} {z0 : List Int} (h : Cur w C a0 l0 c0 z0) (hb : Below w.heap.size w w') : Cur w' C a0 l0 c0 z0 where
 row := fun w2 h2 => h.row w2 ((hb.mono (Nat.le_of_lt h.lt)).trans h2)
 small := h.small
 here := by
  obtain ⟨i, x, h1, h2, e⟩ := h.here
  exact ⟨i, x, h1, h2, by rw [hb.block C h.lt]; exact e⟩

theorem cur_new (w : World) (a0 : Option Addr) (l0 c0 : Nat) (z0 : List Int) (x : Int) (h0 : Row w a0 l0 c0 z0) (hs : l0 ≤ 1048576) : Cur (w.alloc (.cells #[.slice a0 l0 c0, .int .i64 0, .int .i64 x] 126)) w.heap.size a0 l0 c0 z0 where
 row := fun w2 h2 => h0.below (((Below.refl _ _).alloc (Nat.le_refl _) _).trans h2)
 small := hs
 here := ⟨0, x, by omega, by omega, by show (w.heap.push _)[w.heap.size]? = _; simp⟩

theorem Cur.drew {w : World} {C : Nat} {a0 : Option Addr} {l0 c0 : Nat} {z0 : List Int} (h : Cur w C a0 l0 c0 z0) (n : Nat) : Cur (w.drewN n) C a0 l0 c0 z0 := h.below (below_drewN (Below.refl _ _) n)

set_option maxRecDepth 100000 in
set_option maxHeartbeats 400000 in
theorem new_any (a0 : Option Addr) (l0 c0 : Nat) (z0 : List Int) (w : World) (h0 : Row w a0 l0 c0 z0) (hs : l0 ≤ 1048576) :
  Calls Tryz.prog 35 #[.slice a0 l0 c0] w fun e w' => e = .returned (.pointer (some ⟨w.heap.size, 0, none⟩)) ∧ Cur w' w.heap.size a0 l0 c0 z0 ∧ Below w.heap.size w w' := by
 have hby := h0.byte
 have hcell := h0.cell
 go_enter Tryz.func35, Tryz.ntmps35
 go_wp2
 go_loop [3, 4] (fun m i => ∃ (k : Nat) (x : Int), k ≤ l0 ∧ k ≤ 4000 ∧ i = .int .i64 k ∧ m = .int .i64 x ∧ 0 ≤ x ∧ x ≤ 1073741823) (fun _ i => l0 - (intOf i).toNat)
 case atStart => exact ⟨0, _, Nat.zero_le _, by omega, rfl, rfl, by omega, by omega⟩
 case round =>
  obtain ⟨k, x, hk, hk4, rfl, rfl, hx0, hx1⟩ := hrel
  by_cases hlt : k < l0
  ·by_cases hl4 : k < 4000
   ·rcases hcell with h | ⟨b, off, rfl, hc⟩
    ·omega
    have cx := hc k hlt
    have bx := hby.at k
    clear hc
    generalize z0.getD k 0 = y at *
    go_wp2
    go_round
    case rel => exact ⟨k + 1, _, by omega, by omega, by go_num, rfl, (and_mask (x * 137 + y + 11) 1073741823 (by omega)).1, (and_mask (x * 137 + y + 11) 1073741823 (by omega)).2⟩
    case measure => simp [intOf]; omega
   ·have i1 : ¬ (k : Int) < 4000 := by omega
    go_wp2
    go_ret
    exact ⟨rfl, cur_new w a0 l0 c0 z0 x h0 hs, (Below.refl _ _).alloc (Nat.le_refl _) _⟩
  ·go_wp2
   go_ret
   exact ⟨rfl, cur_new w a0 l0 c0 z0 x h0 hs, (Below.refl _ _).alloc (Nat.le_refl _) _⟩

structure Went (w w' : World) (C : Nat) (a0 : Option Addr) (l0 c0 : Nat) (z0 : List Int) : Prop where
 cur : Cur w' C a0 l0 c0 z0
 grown : w.grownBy w' (some C)

theorem Cur.cells {w : World} {C : Nat} {c0 c1 c2 : Value} (h : w.heap[C]? = some (.cells #[c0, c1, c2] 126)) :
  w.cell? ⟨C, 0, none⟩ = some c0 ∧ w.cell? ⟨C, 1, none⟩ = some c1 ∧ w.cell? ⟨C, 2, none⟩ = some c2 ∧ (∀ j, w.frozen? ⟨C, j, none⟩ = false) := by
 refine ⟨?_, ?_, ?_, fun j => ?_⟩ <;> simp [World.cell?, World.frozen?, h]

theorem cur_set2 {w : World} {C : Nat} {a0 : Option Addr} {l0 c0 : Nat} {z0 : List Int} {i h : Int} (hc : Cur w C a0 l0 c0 z0) (hh : w.heap[C]? = some (.cells #[.slice a0 l0 c0, .int .i64 i, .int .i64 h] 126)) (H : Int) (hi : 0 ≤ i ∧ i ≤ l0) :
  (w.setCell ⟨C, 2, none⟩ (.int .i64 H)).heap[C]? = some (.cells #[.slice a0 l0 c0, .int .i64 i, .int .i64 H] 126) ∧ w.grownBy (w.setCell ⟨C, 2, none⟩ (.int .i64 H)) (some C) ∧ Cur (w.setCell ⟨C, 2, none⟩ (.int .i64 H)) C a0 l0 c0 z0 := by
 have e : (w.setCell ⟨C, 2, none⟩ (.int .i64 H)).heap[C]? = some (.cells #[.slice a0 l0 c0, .int .i64 i, .int .i64 H] 126) := by
  have := hc.lt
  simp [World.setCell, Array.getElem?_modify, hh]
 have g : w.grownBy (w.setCell ⟨C, 2, none⟩ (.int .i64 H)) (some C) := grown_setCell (World.grownBy.refl _ _) 2 _
 exact ⟨e, g, ⟨fun w2 h2 => hc.row w2 ((below_of_grown g (Nat.le_refl _) (Nat.le_of_lt hc.lt)).trans h2), hc.small, i, H, hi.1, hi.2, e⟩⟩

theorem cur_set1 {w : World} {C : Nat} {a0 : Option Addr} {l0 c0 : Nat} {z0 : List Int} {i h : Int} (hc : Cur w C a0 l0 c0 z0) (hh : w.heap[C]? = some (.cells #[.slice a0 l0 c0, .int .i64 i, .int .i64 h] 126)) (j : Int) (hj : 0 ≤ j ∧ j ≤ l0) :
  Went w (w.setCell ⟨C, 1, none⟩ (.int .i64 j)) C a0 l0 c0 z0 := by
 have e : (w.setCell ⟨C, 1, none⟩ (.int .i64 j)).heap[C]? = some (.cells #[.slice a0 l0 c0, .int .i64 j, .int .i64 h] 126) := by
  have := hc.lt
  simp [World.setCell, Array.getElem?_modify, hh]
 have g : w.grownBy (w.setCell ⟨C, 1, none⟩ (.int .i64 j)) (some C) := grown_setCell (World.grownBy.refl _ _) 1 _
 exact ⟨⟨fun w2 h2 => hc.row w2 ((below_of_grown g (Nat.le_refl _) (Nat.le_of_lt hc.lt)).trans h2), hc.small, j, h, hj.1, hj.2, e⟩, g⟩

set_option maxRecDepth 100000 in
set_option maxHeartbeats 400000 in
theorem byte_any (C : Nat) (a0 : Option Addr) (l0 c0 : Nat) (z0 : List Int) (w : World) (hc : Cur w C a0 l0 c0 z0) :
  Calls Tryz.prog 104 #[.pointer (some ⟨C, 0, none⟩)] w fun e w' => ∃ x : Int, e = .returned (.int .i64 x) ∧ 0 ≤ x ∧ x ≤ 255 ∧ Went w w' C a0 l0 c0 z0 := by
 obtain ⟨i, h, hi0, hi1, hh⟩ := hc.here
 obtain ⟨k0, k1, k2, kf⟩ := Cur.cells hh
 have kf2 := kf 2
 clear kf
 obtain ⟨k, rfl⟩ : ∃ k : Nat, i = k := ⟨i.toNat, by omega⟩
 go_enter Tryz.func104, Tryz.ntmps104
 go_wp2
 generalize wrap64 (wrap64 (h * 6364136223846793005) + 1442695040888963407) = H
 have st := cur_set2 hc hh H ⟨hi0, hi1⟩
 generalize w.setCell ⟨C, 2, none⟩ (.int .i64 H) = W at *
 obtain ⟨hW, hg, hcw⟩ := st
 clear k0 k1 k2 kf2 hh hc
 obtain ⟨k0, k1, k2, kf⟩ := Cur.cells hW
 have kf1 := kf 1
 clear kf
 have hrow := hcw.row W (Below.refl _ _)
 have hl0 := hcw.small
 have hby := hrow.byte
 have hcell := hrow.cell
 go_quiet (fail)
 go_wp2
 have hx := and_mask (bits BinOp.xor IntKind.i64 (H / 8589934592) (H / 140737488355328)) 255 (by omega)
 generalize bits BinOp.and IntKind.i64 (bits BinOp.xor IntKind.i64 (H / 8589934592) (H / 140737488355328)) 255 = x at *
 by_cases hlt : k < l0
 ·rcases hcell with h | ⟨b, off, rfl, hc⟩
  ·omega
  have cx := hc k hlt
  have bx := hby.at k
  clear hc
  generalize z0.getD k 0 = y at *
  have g1 : (k : Int) < l0 := by omega
  go_quiet (fail)
  go_wp2
  go_quiet (fail)
  go_wp2
  go_ret
  refine ⟨_, rfl, (and_mask _ 255 (by omega)).1, (and_mask _ 255 (by omega)).2, ?_⟩
  have t := fun n => cur_set1 (hcw.drew n) (by exact hW) ((k : Int) + 1) (by omega)
  exact ⟨(t _).cur, grown_trans (grown_drewN hg _) (t _).grown⟩
 ·have g1 : ¬ (k : Int) < l0 := by omega
  go_quiet (fail)
  go_wp2
  go_ret
  exact ⟨x, rfl, hx.1, hx.2, hcw.drew _, grown_drewN hg _⟩

theorem mod_bd (x n : Int) (hx : 0 ≤ x) (hn : 0 < n) : 0 ≤ x % n ∧ x % n < n ∧ x % n ≤ x := by
 refine ⟨Int.emod_nonneg _ (by omega), Int.emod_lt_of_pos _ hn, ?_⟩
 have h1 := Int.emod_add_mul_ediv x n
 have h2 : 0 ≤ x / n := Int.ediv_nonneg hx (by omega)
 have h3 : 0 ≤ n * (x / n) := Int.mul_nonneg (by omega) h2
 omega

theorem Went.trans {a b c : World} {C : Nat} {a0 : Option Addr} {l0 c0 : Nat} {z0 : List Int} (h : Went a b C a0 l0 c0 z0) (k : Went b c C a0 l0 c0 z0) : Went a c C a0 l0 c0 z0 := ⟨k.cur, grown_trans h.grown k.grown⟩

theorem Went.made {a b c : World} {C : Nat} {a0 : Option Addr} {l0 c0 : Nat} {z0 : List Int} (h : Went a b C a0 l0 c0 z0) (k : Below b.heap.size b c) : Went a c C a0 l0 c0 z0 := ⟨h.cur.below k, grown_trans h.grown (grown_of_below C k)⟩

theorem Went.start {a b : World} {C : Nat} {a0 : Option Addr} {l0 c0 : Nat} {z0 : List Int} (h : Cur a C a0 l0 c0 z0) (k : Below a.heap.size a b) : Went a b C a0 l0 c0 z0 := ⟨h.below k, grown_of_below C k⟩

set_option maxRecDepth 100000 in
set_option maxHeartbeats 400000 in
theorem below_any (C : Nat) (a0 : Option Addr) (l0 c0 : Nat) (z0 : List Int) (n : Int) (w : World) (hc : Cur w C a0 l0 c0 z0) (hn : n ≤ 1099511627776) :
  Calls Tryz.prog 37 #[.pointer (some ⟨C, 0, none⟩), .int .i64 n] w fun e w' => ∃ x : Int, e = .returned (.int .i64 x) ∧ 0 ≤ x ∧ (0 < n → x < n) ∧ x ≤ 16777215 ∧ Went w w' C a0 l0 c0 z0 := by
 by_cases k0 : n ≤ 0
 ·go_enter Tryz.func37, Tryz.ntmps37
  go_wp2
  go_ret
  exact ⟨0, rfl, by omega, by omega, by omega, Went.start hc (Below.refl _ _)⟩
 by_cases k1 : n ≤ 256
 ·go_enter Tryz.func37, Tryz.ntmps37
  go_wp2_with fail
  refine (byte_any C a0 l0 c0 z0 _ hc).mono ?_
  rintro e w1 ⟨x, rfl, hx0, hx1, went⟩
  have hne : (n == 0) = false := by simp; omega
  go_wp2
  go_ret
  exact ⟨_, rfl, (mod_bd x n hx0 (by omega)).1, fun _ => (mod_bd x n hx0 (by omega)).2.1, by have := (mod_bd x n hx0 (by omega)).2.2; omega, went⟩
 ·go_enter Tryz.func37, Tryz.ntmps37
  go_wp2_with fail
  refine (byte_any C a0 l0 c0 z0 _ hc).mono ?_
  rintro e w1 ⟨x, rfl, hx0, hx1, went1⟩
  go_wp2_with fail
  refine (byte_any C a0 l0 c0 z0 _ went1.cur).mono ?_
  rintro e w2 ⟨y, rfl, hy0, hy1, went2⟩
  go_wp2_with fail
  refine (byte_any C a0 l0 c0 z0 _ went2.cur).mono ?_
  rintro e w3 ⟨z, rfl, hz0, hz1, went3⟩
  have hne : (n == 0) = false := by simp; omega
  go_wp2
  go_ret
  have hm := mod_bd (x * 65536 + y * 256 + z) n (by omega) (by omega)
  exact ⟨_, rfl, hm.1, fun _ => hm.2.1, by omega, (went1.trans went2).trans went3⟩

set_option maxRecDepth 100000 in
set_option maxHeartbeats 400000 in
theorem once_any (C : Nat) (a0 : Option Addr) (l0 c0 : Nat) (z0 : List Int) (n : Int) (w : World) (hc : Cur w C a0 l0 c0 z0) (hn : n ≤ 1099511627776) :
  Calls Tryz.prog 101 #[.pointer (some ⟨C, 0, none⟩), .int .i64 n] w fun e w' => ∃ x : Bool, e = .returned (.bool x) ∧ Went w w' C a0 l0 c0 z0 := by
 go_enter Tryz.func101, Tryz.ntmps101
 go_wp2_with fail
 refine (below_any C a0 l0 c0 z0 n _ hc hn).mono ?_
 rintro e w1 ⟨x, rfl, hx0, hx1, hx2, went⟩
 go_wp2
 go_ret
 exact ⟨_, rfl, went⟩

theorem ints_lit (w : World) (xs : List Int) (j : Nat) (hj : j < xs.length) : (w.alloc (.cells (xs.map (Value.int .i64)).toArray 3)).cell? ⟨w.heap.size, j, none⟩ = some (.int .i64 (xs.getD j 0)) := by
 have : (w.alloc (.cells (xs.map (Value.int .i64)).toArray 3)).cell? ⟨w.heap.size, j, none⟩ = (xs.map (Value.int .i64)).toArray[j]? := by simp
 rw [this]
 simp [hj]

set_option maxRecDepth 100000 in
set_option maxHeartbeats 400000 in
theorem int_any (C : Nat) (a0 : Option Addr) (l0 c0 : Nat) (z0 : List Int) (B n : Nat) (xs : List Int) (w : World) (hc : Cur w C a0 l0 c0 z0) (hB : C < B) (hcell : ∀ j, j < n → w.cell? ⟨B, j, none⟩ = some (.int .i64 (xs.getD j 0))) (hxs : xs.length = n) (hn0 : 0 < n) (hn : n ≤ 1000) :
  Calls Tryz.prog 103 #[.pointer (some ⟨C, 0, none⟩), .slice (some ⟨B, 0, none⟩) n n] w fun e w' => ∃ x : Int, x ∈ xs ∧ e = .returned (.int .i64 x) ∧ Went w w' C a0 l0 c0 z0 := by
 have HC := hide hcell
 clear hcell
 go_enter Tryz.func103, Tryz.ntmps103
 go_wp2_with fail
 refine (below_any C a0 l0 c0 z0 n _ hc (by omega)).mono ?_
 rintro e w1 ⟨x, rfl, hx0, hx1, hx2, went⟩
 have hx1 := hx1 (by omega)
 obtain ⟨j, rfl⟩ : ∃ j : Nat, x = j := ⟨x.toNat, by omega⟩
 have cx : w1.cell? ⟨B, j, none⟩ = some (.int .i64 (xs.getD j 0)) := went.grown.cell (HC.out j (by omega)) (by intro e; simp at e; omega)
 have hm : xs.getD j 0 ∈ xs := by
  rw [List.getD_eq_getElem?_getD, List.getElem?_eq_getElem (by omega)]; exact List.getElem_mem _
 generalize xs.getD j 0 = y at *
 go_wp2
 go_ret
 exact ⟨y, hm, rfl, went⟩

theorem Cur.belowAt {w w' : World} {C B : Nat} {a0 : Option Addr} {l0 c0 : Nat} {z0 : List Int} (h : Cur w C a0 l0 c0 z0) (hb : Below B w w') (hC : C < B) : Cur w' C a0 l0 c0 z0 where
 row := fun w2 h2 => h.row w2 ((hb.mono (Nat.le_of_lt hC)).trans h2)
 small := h.small
 here := by
  obtain ⟨i, x, h1, h2, e⟩ := h.here
  exact ⟨i, x, h1, h2, by rw [hb.block C hC]; exact e⟩

theorem Went.madeAt {a b c : World} {C B : Nat} {a0 : Option Addr} {l0 c0 : Nat} {z0 : List Int} (h : Went a b C a0 l0 c0 z0) (k : Below B b c) (hC : C < B) (hB : a.heap.size ≤ B) : Went a c C a0 l0 c0 z0 where
 cur := h.cur.belowAt k hC
 grown := ⟨k.os.trans h.grown.os, k.tape.trans h.grown.tape, k.output.trans h.grown.output, Nat.le_trans h.grown.size k.size, fun j hj hne => (k.block j (by omega)).trans (h.grown.block j hj hne)⟩

theorem Went.own {a b : World} {C : Nat} {a0 : Option Addr} {l0 c0 : Nat} {z0 : List Int} (h : Went a b C a0 l0 c0 z0) {base : Nat} {v : Value} {n : Nat} {xs : List Value} (ho : a.ownsRow base 5 1 v n xs) (hC : C < base) : b.ownsRow base 5 1 v n xs :=
 own_above ho h.grown (by intro k hk; cases hk; exact hC)

set_option maxRecDepth 100000 in
set_option maxHeartbeats 400000 in
theorem bytes_any (C : Nat) (a0 : Option Addr) (l0 c0 : Nat) (z0 : List Int) (x : Int) (m : Nat) (w : World) (hc : Cur w C a0 l0 c0 z0) (hx : x = m) (hm : m ≤ 4000) :
  Calls Tryz.prog 157 #[.pointer (some ⟨C, 0, none⟩), .int .i64 x] w fun e w' => ∃ ao cap zs, e = .returned (.slice ao m cap) ∧ Byt zs ∧ zs.length = m ∧ w'.ownsRow w.heap.size 5 1 (.slice ao m cap) m (cB zs) ∧ Went w w' C a0 l0 c0 z0 := by
 subst hx
 have hlt := hc.lt
 go_enter Tryz.func157, Tryz.ntmps157
 go_wp2
 go_loopw [5, 6] (fun v i wr => ∃ (k : Nat) (zs : List Int) (ao : Option Addr) (cap : Nat), k ≤ m ∧ i = .int .i64 k ∧ v = .slice ao k cap ∧ zs.length = k ∧ Byt zs ∧ wr.ownsRow w.heap.size 5 1 (.slice ao k cap) k (cB zs) ∧ Went w wr C a0 l0 c0 z0) (fun _ i _ => m - (intOf i).toNat)
 case atStart => exact ⟨0, [], _, _, Nat.zero_le _, rfl, rfl, rfl, (by intro z hz; cases hz), World.ownsRow_lit w #[] 0 (Nat.le_refl _) (Nat.zero_le _) rfl, Went.start hc ((Below.refl _ _).alloc (Nat.le_refl _) _)⟩
 case round =>
  obtain ⟨k, zs, ao, cap, hk, rfl, rfl, hz, hby, how, went⟩ := hrel
  by_cases hlk : k < m
  ·go_wp2_with fail
   refine (byte_any C a0 l0 c0 z0 _ went.cur).mono ?_
   rintro e w1 ⟨y, rfl, hy0, hy1, went1⟩
   have how1 := went1.own how hlt
   have wn1 := went.trans went1
   have hs1 := wn1.grown.size
   clear how went went1
   go_wp2_with (at_builtin; refine wpList_append_row _ rfl _ _ 22 rfl w.heap.size Tryz.underlying22 Tryz.infoU8 _ k zs rfl (own_below how1 ((Below.refl _ _).alloc (Nat.le_refl _) _)) hby _ 1 1 [y] rfl (row_one w1 y ⟨hy0, hy1⟩) (by omega) (by simp; omega) ?_)
   intro ao2 cp2 w2 how2 row2 hb2
   have wn2 : Went w w2 C a0 l0 c0 z0 := (wn1.made ((Below.refl _ _).alloc (Nat.le_refl _) _)).madeAt hb2 hlt (Nat.le_refl _)
   have hby2 := row2.byte
   clear how1 hb2 row2
   go_wp2
   go_roundw
   case rel => exact ⟨k + 1, zs ++ [y], ao2, cp2, by omega, by go_num, rfl, by simp; omega, hby2, how2, wn2⟩
   case measure => simp [intOf]; omega
  ·obtain rfl : k = m := by omega
   go_wp2
   go_ret
   exact ⟨ao, cap, zs, rfl, hby, hz, how, went⟩

theorem pick_any (C : Nat) (a0 : Option Addr) (l0 c0 : Nat) (z0 : List Int) (xs : List Int) (B n : Nat) (w : World) (hc : Cur w C a0 l0 c0 z0) (hB : B = w.heap.size) (hxs : xs.length = n) (hn0 : 0 < n) (hn : n ≤ 1000) :
  Calls Tryz.prog 103 #[.pointer (some ⟨C, 0, none⟩), .slice (some ⟨B, 0, none⟩) n n] (w.alloc (.cells (xs.map (Value.int .i64)).toArray 3)) fun e w' => ∃ x : Int, x ∈ xs ∧ e = .returned (.int .i64 x) ∧ Went w w' C a0 l0 c0 z0 := by
 subst hB hxs
 have hb : Below w.heap.size w (w.alloc (.cells (xs.map (Value.int .i64)).toArray 3)) := (Below.refl _ _).alloc (Nat.le_refl _) _
 refine (int_any C a0 l0 c0 z0 w.heap.size xs.length xs _ (hc.below hb) hc.lt (fun j hj => ints_lit w xs j hj) rfl hn0 hn).mono ?_
 rintro e w' ⟨x, hx, rfl, went⟩
 exact ⟨x, hx, rfl, (Went.start hc hb).trans went⟩

set_option maxRecDepth 100000 in
set_option maxHeartbeats 400000 in
theorem some_any (C : Nat) (a0 : Option Addr) (l0 c0 : Nat) (z0 : List Int) (w : World) (hc : Cur w C a0 l0 c0 z0) :
  Calls Tryz.prog 105 #[.pointer (some ⟨C, 0, none⟩)] w fun e w' => ∃ ao m cap zs, e = .returned (.slice ao m cap) ∧ m ≤ 9 ∧ Byt zs ∧ zs.length = m ∧ w'.ownsRow w.heap.size 5 1 (.slice ao m cap) m (cB zs) ∧ Went w w' C a0 l0 c0 z0 := by
 go_enter Tryz.func105, Tryz.ntmps105
 go_wp2_with fail
 refine (pick_any C a0 l0 c0 z0 [0, 1, 2, 5, 9] _ _ w hc rfl rfl (by simp) (by simp)).mono ?_
 rintro e w1 ⟨x, hx, rfl, went1⟩
 have hx' : 0 ≤ x ∧ x ≤ 9 := by simp at hx; omega
 clear hx
 go_wp2_with fail
 refine (bytes_any C a0 l0 c0 z0 x x.toNat _ went1.cur (by omega) (by omega)).mono ?_
 rintro e w2 ⟨ao, cap, zs, rfl, hby, hz, how, went2⟩
 go_wp2
 go_ret
 exact ⟨ao, _, cap, zs, rfl, by omega, hby, hz, own_lt how went1.grown.size, went1.trans went2⟩

set_option maxRecDepth 100000 in
set_option maxHeartbeats 1000000 in
theorem l7Draw_ok (C : Nat) (a0 : Option Addr) (l0 c0 : Nat) (z0 : List Int) (w : World) (hc : Cur w C a0 l0 c0 z0) :
  Calls Tryz.prog 152 #[.pointer (some ⟨C, 0, none⟩)] w fun e w' => ∃ (R K H B P : Int), e = .returned (.agg #[.int .i64 R, .int .i64 K, .int .i64 H, .int .i64 B, .int .i64 P]) ∧ okVc R K H B P = true ∧ Went w w' C a0 l0 c0 z0 := by
 have hlt := hc.lt
 have q0 := below_one w (.cells #[.int .i64 0, .int .i64 0, .int .i64 0, .int .i64 0, .int .i64 0] 93)
 have wn0 := Went.start hc q0
 have hk0 := block_last w (.cells #[.int .i64 0, .int .i64 0, .int .i64 0, .int .i64 0, .int .i64 0] 93)
 go_enter Tryz.func152, Tryz.ntmps152
 go_wp2_with fail
 refine (below_any C a0 l0 c0 z0 5 _ wn0.cur (by omega)).mono ?_
 rintro e w1 ⟨r1, rfl, hx1, hy1, -, went1⟩
 have hy1 := hy1 (by omega)
 have wn1 := wn0.trans went1
 have k1 := kept_grown hk0 went1.grown (fun j hj => by cases hj; omega)
 clear wn0 went1 hk0
 go_wp2_with fail
 refine (pick_any C a0 l0 c0 z0 [0, 1, 2, 5, 10, 100] _ _ w1 wn1.cur rfl rfl (by simp) (by simp)).mono ?_
 rintro e w2 ⟨K, hK, rfl, went2⟩
 have HK : Hid (0 ≤ K ∧ K ≤ 100) := hide (by simp at hK; omega)
 clear hK
 have wn2 := wn1.trans went2
 have k2 := kept_grown k1 went2.grown (fun j hj => by cases hj; omega)
 clear wn1 went2 k1
 go_wp2_with fail
 refine (pick_any C a0 l0 c0 z0 [0, 1, 2, 9, 10] _ _ w2 wn2.cur rfl rfl (by simp) (by simp)).mono ?_
 rintro e w3 ⟨H, hH, rfl, went3⟩
 have HH : Hid (0 ≤ H ∧ H ≤ 10) := hide (by simp at hH; omega)
 clear hH
 have wn3 := wn2.trans went3
 have k3 := kept_grown k2 went3.grown (fun j hj => by cases hj; omega)
 clear wn2 went3 k2
 go_wp2_with fail
 refine (below_any C a0 l0 c0 z0 5 _ wn3.cur (by omega)).mono ?_
 rintro e w4 ⟨r4, rfl, hx4, hy4, -, went4⟩
 have hy4 := hy4 (by omega)
 have wn4 := wn3.trans went4
 have k4 := kept_grown k3 went4.grown (fun j hj => by cases hj; omega)
 clear wn3 went4 k3
 go_wp2_with fail
 refine (below_any C a0 l0 c0 z0 4 _ wn4.cur (by omega)).mono ?_
 rintro e w5 ⟨r5, rfl, hx5, hy5, -, went5⟩
 have hy5 := hy5 (by omega)
 have HOK : Hid (okVc (1 + r1) K H (1 + r4) r5 = true) := hide (by have h1 := HK.out; have h2 := HH.out; unfold okVc; simp; omega)
 have wn5 := wn4.trans went5
 have k5 := kept_grown k4 went5.grown (fun j hj => by cases hj; omega)
 obtain ⟨⟨x0, x1, x2, x3, x4⟩, f0, f1, f2, f3, f4⟩ := cells5 k5
 clear wn4 went5 k4 k5
 go_wp2
 exact bodyPost_ret (v := .agg #[.int .i64 (1 + r1), .int .i64 K, .int .i64 H, .int .i64 (1 + r4), .int .i64 r5]) (by simp [results, Tryz.results152, go_sem, *]) rfl ⟨_, _, _, _, _, rfl, HOK.out, wn5.madeAt (below_set5 (Below.refl _ _) (Nat.le_refl w.heap.size) _ _ _ _ _) hlt (Nat.le_refl _)⟩

set_option maxRecDepth 100000 in
set_option maxHeartbeats 4000000 in
theorem l10Draw_any (C : Nat) (a0 : Option Addr) (l0 c0 : Nat) (z0 : List Int) (N : Int) (m : Nat) (w : World) (hc : Cur w C a0 l0 c0 z0) (hN : N = m) (hm : m ≤ 1000) :
  Calls Tryz.prog 98 #[.pointer (some ⟨C, 0, none⟩), .int .i64 N] w fun e w' => ∃ (ao : Option Addr) (cap : Nat) (l : List PT), e = .returned (.slice ao m cap) ∧ l.length = m ∧ (∀ x ∈ l, ptOk x = true) ∧ w'.ownsRow w.heap.size 95 8 (.slice ao m cap) m (ptF.all l) ∧ Went w w' C a0 l0 c0 z0 := by
 subst hN
 have hlt := hc.lt
 go_enter Tryz.func98, Tryz.ntmps98
 go_wp2_with fail
 generalize hw1 : w.alloc (Obj.cells #[] 95) = w1
 have b1 : Below w.heap.size w w1 := by rw [← hw1]; exact below_one _ _
 have o1 : w1.ownsRow w.heap.size 95 8 (.slice (some ⟨w.heap.size, 0, none⟩) 0 0) 0 (ptF.all []) := flat_nil ptF w w1 95 w.heap.size (by rw [← hw1]; exact block_last _ _) (Nat.le_refl _)
 have wn1 := Went.start hc b1
 clear hw1 b1
 go_loopw [5, 6] (fun o i wr => ∃ (k : Nat) (ao : Option Addr) (cap : Nat) (l : List PT), k ≤ m ∧ i = .int .i64 k ∧ o = .slice ao k cap ∧ l.length = k ∧ (∀ x ∈ l, ptOk x = true) ∧ wr.ownsRow w.heap.size 95 8 (.slice ao k cap) k (ptF.all l) ∧ Went w wr C a0 l0 c0 z0) (fun _ i _ => m - (intOf i).toNat)
 case atStart => exact ⟨0, _, _, [], Nat.zero_le _, rfl, rfl, rfl, (by intro x hx; cases hx), o1, wn1⟩
 case round =>
  obtain ⟨k, ao, cap, l, hk, rfl, rfl, hl, hall, o2, wn2⟩ := hrel
  have HA := hide hall
  clear hall
  clear wn1 o1
  have HL := hide hl
  clear hl
  by_cases hk0 : k < m
  ·go_wp2_with fail
   refine (once_any C a0 l0 c0 z0 4 _ wn2.cur (by omega)).mono ?_
   rintro e w3 ⟨q, rfl, wt⟩
   have wn3 := wn2.trans wt
   have o3 := gown_apart o2 wt.grown (fun b hb => by cases hb; exact hlt)
   clear wt wn2 o2
   go_wp2_with fail
   refine (pick_any C a0 l0 c0 z0 [1, 1, 2, 5, 10] _ _ w3 wn3.cur rfl rfl (by simp) (by simp)).mono ?_
   rintro e w4 ⟨K, hK, rfl, wt⟩
   have HK : Hid ((decide (1 ≤ K) && decide (K ≤ 1000)) = true) := hide (by simp at hK; simp; omega)
   clear hK
   have wn4 := wn3.trans wt
   have o4 := gown_apart o3 wt.grown (fun b hb => by cases hb; exact hlt)
   clear wt wn3 o3
   have ob := hide (own_box8 o4)
   have hX : w.heap.size ≤ w4.heap.size := wn4.grown.size
   have HX := hide hX
   have hCX : C ≠ w4.heap.size := by omega
   have HCX := hide hCX
   clear hX hCX
   cases q
   ·go_upto_region 6 with fail
    generalize hw5 : w4.alloc (.cells #[.bool true, .int .i64 K, .bool false, .int .i64 0, .int .i64 0, .int .i64 0, .int .i64 0, .int .i64 0] 95) = w5
    have b5 : Below w4.heap.size w4 w5 := by rw [← hw5]; exact below_one _ _
    have kX : w5.heap[w4.heap.size]? = some (.cells #[.bool true, .int .i64 K, .bool false, .int .i64 0, .int .i64 0, .int .i64 0, .int .i64 0, .int .i64 0] 95) := by rw [← hw5]; exact block_last _ _
    have o5 := gown_below o4 b5
    have wn5 := wn4.made b5
    obtain ⟨d0, d1, d2, d3, d4, d5, d6, d7⟩ := cells8 kX
    clear o4 wn4 b5
    go_wp2_with fail
    refine (once_any C a0 l0 c0 z0 4 _ wn5.cur (by omega)).mono ?_
    rintro e w6 ⟨r, rfl, wt⟩
    have wn6 := wn5.trans wt
    have o6 := gown_apart o5 wt.grown (fun b hb => by cases hb; exact hlt)
    have kX := kept_grown kX wt.grown (fun i e => by cases e; exact HCX.out)
    clear wt wn5 o5 hw5 d0 d1 d2 d3 d4 d5 d6 d7
    cases r
    ·obtain ⟨d0, d1, d2, d3, d4, d5, d6, d7⟩ := cells8 kX
     have f2 := frozen8 kX 2
     generalize hw7 : w6.setCell ⟨w4.heap.size, 2, none⟩ (.bool true) = w7
     have kY : w7.heap[w4.heap.size]? = some (.cells #[.bool true, .int .i64 K, .bool true, .int .i64 0, .int .i64 0, .int .i64 0, .int .i64 0, .int .i64 0] 95) := by rw [← hw7]; exact set_block8 kX _
     have o7 := gown_other o6 (grown_set (rb := w4.heap.size) 2 (.bool true)) (fun b hb => Nat.ne_of_lt (ob.out b hb))
     rw [hw7] at o7
     have wn7 := wn6.madeAt (below_set (Below.refl w.heap.size w6) (g := w4.heap.size) HX.out 2 (.bool true)) hlt (Nat.le_refl _)
     rw [hw7] at wn7
     clear wn6 o6 kX
     go_wp2_with fail
     refine (l7Draw_ok C a0 l0 c0 z0 _ wn7.cur).mono ?_
     rintro e w8 ⟨vr, vc, vh, vb, vp, rfl, hok, wt⟩
     have HV := hide hok
     clear hok
     have wn8 := wn7.trans wt
     have o8 := gown_apart o7 wt.grown (fun b hb => by cases hb; exact hlt)
     have kX := kept_grown kY wt.grown (fun i e => by cases e; exact HCX.out)
     clear wt wn7 o7 hw7 kY d0 d1 d2 d3 d4 d5 d6 d7 f2
     obtain ⟨d0, d1, d2, d3, d4, d5, d6, d7⟩ := cells8 kX
     have f3 := frozen8 kX 3
     have f4 := frozen8 kX 4
     have f5 := frozen8 kX 5
     have f6 := frozen8 kX 6
     have f7 := frozen8 kX 7
     generalize hw9 : ((((w8.setCell ⟨w4.heap.size, 3, none⟩ (.int .i64 vr)).setCell ⟨w4.heap.size, 4, none⟩ (.int .i64 vc)).setCell ⟨w4.heap.size, 5, none⟩ (.int .i64 vh)).setCell ⟨w4.heap.size, 6, none⟩ (.int .i64 vb)).setCell ⟨w4.heap.size, 7, none⟩ (.int .i64 vp) = w9
     have kY : w9.heap[w4.heap.size]? = some (.cells #[.bool true, .int .i64 K, .bool true, .int .i64 vr, .int .i64 vc, .int .i64 vh, .int .i64 vb, .int .i64 vp] 95) := by rw [← hw9]; exact set_heard kX _ _ _ _ _
     have hne : ∀ b, (Value.slice ao k cap).ownBlock = some b → b ≠ w4.heap.size := fun b hb => Nat.ne_of_lt (ob.out b hb)
     have o9' := gown_other (gown_other (gown_other (gown_other (gown_other o8 (grown_set (rb := w4.heap.size) 3 (.int .i64 vr)) hne) (grown_set (rb := w4.heap.size) 4 (.int .i64 vc)) hne) (grown_set (rb := w4.heap.size) 5 (.int .i64 vh)) hne) (grown_set (rb := w4.heap.size) 6 (.int .i64 vb)) hne) (grown_set (rb := w4.heap.size) 7 (.int .i64 vp)) hne
     rw [hw9] at o9'
     have wn9 := wn8.madeAt (below_set (below_set (below_set (below_set (below_set (Below.refl w.heap.size w8) (g := w4.heap.size) HX.out 3 (.int .i64 vr)) HX.out 4 (.int .i64 vc)) HX.out 5 (.int .i64 vh)) HX.out 6 (.int .i64 vb)) HX.out 7 (.int .i64 vp)) hlt (Nat.le_refl _)
     rw [hw9] at wn9
     clear wn8 o8 kX hne
     go_upto_region 9 with fail
     clear d0 d1 d2 d3 d4 d5 d6 d7 f3 f4 f5 f6 f7 hw9
     have HCS : Hid (#[Value.bool true, .int .i64 K, .bool true, .int .i64 vr, .int .i64 vc, .int .i64 vh, .int .i64 vb, .int .i64 vp].toList = ptF.cs ⟨true, K, true, ⟨vr, vc, vh, vb, vp⟩⟩) := hide rfl
     obtain ⟨d0, d1, d2, d3, d4, d5, d6, d7⟩ := cells8 kY
     have o9 := gown_below o9' (below_one w9 (.cells #[.bool true, .int .i64 K, .bool true, .int .i64 vr, .int .i64 vc, .int .i64 vh, .int .i64 vb, .int .i64 vp] 95))
     have hbase9 : w.heap.size ≤ (w9.alloc (.cells #[.bool true, .int .i64 K, .bool true, .int .i64 vr, .int .i64 vc, .int .i64 vh, .int .i64 vb, .int .i64 vp] 95)).heap.size := by have := wn9.grown.size; simp; omega
     have HW9 : Hid (Went w (w9.alloc (.cells #[.bool true, .int .i64 K, .bool true, .int .i64 vr, .int .i64 vc, .int .i64 vh, .int .i64 vb, .int .i64 vp] 95)) C a0 l0 c0 z0) := hide (wn9.made (below_one w9 _))
     go_wp2_with (at_builtin; refine pt_append _ rfl _ _ rfl w.heap.size _ k l rfl o9 _ 1 1 [⟨true, K, true, ⟨vr, vc, vh, vb, vp⟩⟩] rfl (grow_one ptF _ _ _ _ HCS.out) (by omega) hbase9 ?_)
     rintro ao' cap' wz oz - gz bz
     have HO := hide oz
     have HWZ := hide (HW9.out.madeAt bz hlt (Nat.le_refl _))
     have HLN : Hid ((l ++ [(⟨true, K, true, ⟨vr, vc, vh, vb, vp⟩⟩ : PT)]).length = k + 1) := hide (by simp [HL.out])
     have HAN : Hid (∀ y ∈ l ++ [(⟨true, K, true, ⟨vr, vc, vh, vb, vp⟩⟩ : PT)], ptOk y = true) := hide (by
      intro y hy
      rcases List.mem_append.1 hy with hy | hy
      ·exact HA.out y hy
      ·have e : y = _ := List.mem_singleton.1 hy
       subst e
       unfold ptOk
       simp only
       rw [HK.out]
       exact HV.out)
     clear oz gz bz o9 hbase9 d0 d1 d2 d3 d4 d5 d6 d7
     go_wp2
     go_roundw
     case rel => exact ⟨k + 1, ao', cap', _, by omega, by go_num, rfl, HLN.out, HAN.out, HO.out, HWZ.out⟩
     case measure => simp [intOf]; omega
    ·go_upto_region 9 with fail
     have HCS : Hid (#[Value.bool true, .int .i64 K, .bool false, .int .i64 0, .int .i64 0, .int .i64 0, .int .i64 0, .int .i64 0].toList = ptF.cs ⟨true, K, false, ⟨0, 0, 0, 0, 0⟩⟩) := hide rfl
     obtain ⟨d0, d1, d2, d3, d4, d5, d6, d7⟩ := cells8 kX
     have o9 := gown_below o6 (below_one w6 (.cells #[.bool true, .int .i64 K, .bool false, .int .i64 0, .int .i64 0, .int .i64 0, .int .i64 0, .int .i64 0] 95))
     have hbase9 : w.heap.size ≤ (w6.alloc (.cells #[.bool true, .int .i64 K, .bool false, .int .i64 0, .int .i64 0, .int .i64 0, .int .i64 0, .int .i64 0] 95)).heap.size := by have := wn6.grown.size; simp; omega
     have HW9 : Hid (Went w (w6.alloc (.cells #[.bool true, .int .i64 K, .bool false, .int .i64 0, .int .i64 0, .int .i64 0, .int .i64 0, .int .i64 0] 95)) C a0 l0 c0 z0) := hide (wn6.made (below_one w6 _))
     go_wp2_with (at_builtin; refine pt_append _ rfl _ _ rfl w.heap.size _ k l rfl o9 _ 1 1 [⟨true, K, false, ⟨0, 0, 0, 0, 0⟩⟩] rfl (grow_one ptF _ _ _ _ HCS.out) (by omega) hbase9 ?_)
     rintro ao' cap' wz oz - gz bz
     have HO := hide oz
     have HWZ := hide (HW9.out.madeAt bz hlt (Nat.le_refl _))
     have HLN : Hid ((l ++ [(⟨true, K, false, ⟨0, 0, 0, 0, 0⟩⟩ : PT)]).length = k + 1) := hide (by simp [HL.out])
     have HAN : Hid (∀ y ∈ l ++ [(⟨true, K, false, ⟨0, 0, 0, 0, 0⟩⟩ : PT)], ptOk y = true) := hide (by
      intro y hy
      rcases List.mem_append.1 hy with hy | hy
      ·exact HA.out y hy
      ·have e : y = _ := List.mem_singleton.1 hy
       subst e
       unfold ptOk
       simp only
       rw [HK.out]
       rfl)
     clear oz gz bz o9 hbase9 d0 d1 d2 d3 d4 d5 d6 d7
     go_wp2
     go_roundw
     case rel => exact ⟨k + 1, ao', cap', _, by omega, by go_num, rfl, HLN.out, HAN.out, HO.out, HWZ.out⟩
     case measure => simp [intOf]; omega
   ·go_upto_region 6 with fail
    generalize hw5 : w4.alloc (.cells #[.bool false, .int .i64 K, .bool false, .int .i64 0, .int .i64 0, .int .i64 0, .int .i64 0, .int .i64 0] 95) = w5
    have b5 : Below w4.heap.size w4 w5 := by rw [← hw5]; exact below_one _ _
    have kX : w5.heap[w4.heap.size]? = some (.cells #[.bool false, .int .i64 K, .bool false, .int .i64 0, .int .i64 0, .int .i64 0, .int .i64 0, .int .i64 0] 95) := by rw [← hw5]; exact block_last _ _
    have o5 := gown_below o4 b5
    have wn5 := wn4.made b5
    obtain ⟨e0, e1, e2, e3, e4, e5, e6, e7⟩ := cells8 kX
    clear o4 wn4 b5
    go_upto_region 9 with fail
    clear e0 e1 e2 e3 e4 e5 e6 e7 hw5
    have HCS : Hid (#[Value.bool false, .int .i64 K, .bool false, .int .i64 0, .int .i64 0, .int .i64 0, .int .i64 0, .int .i64 0].toList = ptF.cs ⟨false, K, false, ⟨0, 0, 0, 0, 0⟩⟩) := hide rfl
    obtain ⟨d0, d1, d2, d3, d4, d5, d6, d7⟩ := cells8 kX
    have o9 := gown_below o5 (below_one w5 (.cells #[.bool false, .int .i64 K, .bool false, .int .i64 0, .int .i64 0, .int .i64 0, .int .i64 0, .int .i64 0] 95))
    have hbase9 : w.heap.size ≤ (w5.alloc (.cells #[.bool false, .int .i64 K, .bool false, .int .i64 0, .int .i64 0, .int .i64 0, .int .i64 0, .int .i64 0] 95)).heap.size := by have := wn5.grown.size; simp; omega
    have HW9 : Hid (Went w (w5.alloc (.cells #[.bool false, .int .i64 K, .bool false, .int .i64 0, .int .i64 0, .int .i64 0, .int .i64 0, .int .i64 0] 95)) C a0 l0 c0 z0) := hide (wn5.made (below_one w5 _))
    go_wp2_with (at_builtin; refine pt_append _ rfl _ _ rfl w.heap.size _ k l rfl o9 _ 1 1 [⟨false, K, false, ⟨0, 0, 0, 0, 0⟩⟩] rfl (grow_one ptF _ _ _ _ HCS.out) (by omega) hbase9 ?_)
    rintro ao' cap' wz oz - gz bz
    have HO := hide oz
    have HWZ := hide (HW9.out.madeAt bz hlt (Nat.le_refl _))
    have HLN : Hid ((l ++ [(⟨false, K, false, ⟨0, 0, 0, 0, 0⟩⟩ : PT)]).length = k + 1) := hide (by simp [HL.out])
    have HAN : Hid (∀ y ∈ l ++ [(⟨false, K, false, ⟨0, 0, 0, 0, 0⟩⟩ : PT)], ptOk y = true) := hide (by
     intro y hy
     rcases List.mem_append.1 hy with hy | hy
     ·exact HA.out y hy
     ·have e : y = _ := List.mem_singleton.1 hy
      subst e
      unfold ptOk
      simp only
      rw [HK.out]
      rfl)
    clear oz gz bz o9 hbase9 d0 d1 d2 d3 d4 d5 d6 d7
    go_wp2
    go_roundw
    case rel => exact ⟨k + 1, ao', cap', _, by omega, by go_num, rfl, HLN.out, HAN.out, HO.out, HWZ.out⟩
    case measure => simp [intOf]; omega
  ·have hkm : k = m := by omega
   subst hkm
   go_wp2
   go_ret
   exact ⟨ao, cap, l, rfl, HL.out, HA.out, o2, wn2⟩

def strUpto (N : Nat) : Value → Bool
 | .string S => decide (S.size ≤ N)
 | _ => false
def strOk (v : Value) : Bool := strUpto 30 v

theorem strUpto_is {N : Nat} {v : Value} (h : strUpto N v = true) : ∃ S : ByteArray, v = .string S ∧ S.size ≤ N := by
 cases v with
 | string S => exact ⟨S, rfl, of_decide_eq_true h⟩
 | _ => cases h

set_option maxRecDepth 100000 in
set_option maxHeartbeats 400000 in
theorem pickS_upto (N : Nat) (C : Nat) (a0 : Option Addr) (l0 c0 : Nat) (z0 : List Int) (cs : Array Value) (B n : Nat) (w : World) (hc : Cur w C a0 l0 c0 z0) (hB : B = w.heap.size) (hn : cs.size = n) (hall : cs.all (strUpto N) = true) (hn0 : 0 < n) (hn1 : n ≤ 1000) :
  Calls Tryz.prog 97 #[.pointer (some ⟨C, 0, none⟩), .slice (some ⟨B, 0, none⟩) n n] (w.alloc (.cells cs 9)) fun e w' => ∃ S : ByteArray, S.size ≤ N ∧ e = .returned (.string S) ∧ Went w w' C a0 l0 c0 z0 := by
 subst hB
 have hb : Below w.heap.size w (w.alloc (.cells cs 9)) := (Below.refl _ _).alloc (Nat.le_refl _) _
 have hst := Went.start hc hb
 have hlt := hc.lt
 have hcell : ∀ j, j < n → ∃ S : ByteArray, (w.alloc (.cells cs 9)).cell? ⟨w.heap.size, j, none⟩ = some (.string S) ∧ S.size ≤ N := by
  intro j hj
  have hj' : j < cs.size := by omega
  have h1 : strUpto N cs[j] = true := (Array.all_eq_true.1 hall) j hj'
  obtain ⟨S, e, hS⟩ := strUpto_is h1
  refine ⟨S, ?_, hS⟩
  have : (w.alloc (.cells cs 9)).cell? ⟨w.heap.size, j, none⟩ = cs[j]? := by simp
  rw [this, Array.getElem?_eq_getElem hj', e]
 have HC := hide hcell
 clear hcell hall
 generalize w.alloc (.cells cs 9) = w1 at *
 go_enter Tryz.func97, Tryz.ntmps97
 go_wp2_with fail
 refine (below_any C a0 l0 c0 z0 n _ hst.cur (by omega)).mono ?_
 rintro e w2 ⟨x, rfl, hx0, hx1, hx2, went⟩
 have hx1 := hx1 (by omega)
 obtain ⟨j, rfl⟩ : ∃ j : Nat, x = j := ⟨x.toNat, by omega⟩
 obtain ⟨S, hS, hSs⟩ := HC.out j (by omega)
 have cx : w2.cell? ⟨w.heap.size, j, none⟩ = some (.string S) := went.grown.cell hS (by intro e; simp at e; omega)
 clear hS
 go_wp2
 go_ret
 exact ⟨S, hSs, rfl, hst.trans went⟩

theorem ent_rng {e : FE} (h : entOk e = true) : e.Rng := by
 rw [entOk_iff] at h
 exact ⟨by omega, by omega, by omega, by omega⟩

end Go.Proofs.YtddalpglihhipaaGreat
