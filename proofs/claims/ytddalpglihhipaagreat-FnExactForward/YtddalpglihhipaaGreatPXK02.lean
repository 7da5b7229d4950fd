/-
  Packed: OutOwn VecHelp Pieces Num Tlv GetNum VecMath Copy FrameHelp VecSpec PtMem FdbMath FentMem.
-/
import Derived.Test.YtddalpglihhipaaGreatPXK01
import Derived.Deep.RegionWith
namespace Go.Proofs.YtddalpglihhipaaGreat
open Go.RowKit

structure OI where
 p : Int
 d : Int
 s : Int
 t : Int
 a : Option Addr
 n : Nat
 c : Nat
 z : List Int

structure OD where
 p : Int
 d : Int
 s : Int
 t : Int
 z : List Int

def OI.v (x : OI) : OD := ⟨x.p, x.d, x.s, x.t, x.z⟩
def OI.blks (x : OI) : List Nat := blkL x.a

def outF : Flat OI where
 k := 5
 cs := fun x => [.int .i64 x.p, .int .i64 x.d, .int .i64 x.s, .int .i64 x.t, .slice x.a x.n x.c]
 len := fun _ => rfl
 pos := by decide
 one := fun _ v hv => by
  simp only [List.mem_cons, List.not_mem_nil, or_false] at hv
  rcases hv with rfl | rfl | rfl | rfl | rfl <;> rfl

theorem out_at {w : World} {ao : Option Addr} {len cap : Nat} {l : List OI} (h : GRow outF w ao len cap l) (i : Nat) (hi : i < len) : ∃ (x : OI) (b off : Nat), l[i]? = some x ∧ ao = some ⟨b, off, none⟩ ∧ w.cell? ⟨b, off + i * 5, none⟩ = some (.int .i64 x.p) ∧ w.cell? ⟨b, off + i * 5 + 1, none⟩ = some (.int .i64 x.d) ∧ w.cell? ⟨b, off + i * 5 + 2, none⟩ = some (.int .i64 x.s) ∧ w.cell? ⟨b, off + i * 5 + 3, none⟩ = some (.int .i64 x.t) ∧ w.cell? ⟨b, off + i * 5 + 4, none⟩ = some (.slice x.a x.n x.c) := by
 obtain ⟨x, b, off, hx, ha, hc⟩ := h.at i hi
 exact ⟨x, b, off, hx, ha, hc 0 _ rfl, hc 1 _ rfl, hc 2 _ rfl, hc 3 _ rfl, hc 4 _ rfl⟩

theorem outInfo : (Tryz.prog.info? 48).map (fun i => (i.zero, i.size, i.bytes)) = some (some (.agg #[.int .i64 0, .int .i64 0, .int .i64 0, .int .i64 0, .slice none 0 0]), outF.k, 56) := by kernel_rfl

structure OOwn (w : World) (base : Nat) (x : OI) : Prop where
 z : w.ownsRow base 5 1 (.slice x.a x.n x.c) x.n (cB x.z)
 zb : Byt x.z

theorem OOwn.row {w : World} {base : Nat} {x : OI} (h : OOwn w base x) : Row w x.a x.n x.c x.z := row_own h.z h.zb
theorem OOwn.below {w w' : World} {base : Nat} {x : OI} (h : OOwn w base x) (hb : Below w.heap.size w w') : OOwn w' base x := ⟨own5_below h.z hb, h.zb⟩
theorem OOwn.lt {w : World} {base base' : Nat} {x : OI} (h : OOwn w base x) (hb : base' ≤ base) : OOwn w base' x := ⟨own5_lt h.z hb, h.zb⟩
theorem OOwn.only {bs : List Nat} {w w' : World} {base : Nat} {x : OI} (h : OOwn w base x) (ho : Only bs w w') (hn : ∀ b ∈ x.blks, b ∉ bs) : OOwn w' base x :=
 ⟨ho.own h.z (fun k hk => hn k (mem_blkL.1 hk)), h.zb⟩
theorem OOwn.blk {w : World} {base : Nat} {x : OI} (h : OOwn w base x) : ∀ b ∈ x.blks, base ≤ b ∧ b < w.heap.size := fun b hb => h.z.lt b (mem_blkL.2 hb)

structure OOwns (w : World) (base : Nat) (ao : Option Addr) (n cap : Nat) (l : List OI) : Prop where
 row : w.ownsRow base 48 5 (.slice ao n cap) n (outF.all l)
 item : ∀ x ∈ l, OOwn w base x
 apart : (l.flatMap OI.blks).Nodup

def allO (ao : Option Addr) (l : List OI) : List Nat := blkL ao ++ l.flatMap OI.blks

theorem oowns_nil (w : World) (base : Nat) : OOwns w base none 0 0 [] := ⟨World.ownsRow_nil _ _ _ _, (by intro x hx; cases hx), List.nodup_nil⟩

theorem OOwns.grow {w : World} {base : Nat} {ao : Option Addr} {n cap : Nat} {l : List OI} (h : OOwns w base ao n cap l) : GRow outF w ao n cap l := grow_own (F := outF) h.row
theorem OOwns.size {w : World} {base : Nat} {ao : Option Addr} {n cap : Nat} {l : List OI} (h : OOwns w base ao n cap l) : l.length = n := h.grow.size
theorem OOwns.below {w w' : World} {base : Nat} {ao : Option Addr} {n cap : Nat} {l : List OI} (h : OOwns w base ao n cap l) (hb : Below w.heap.size w w') : OOwns w' base ao n cap l :=
 ⟨own5_below h.row hb, fun x hx => (h.item x hx).below hb, h.apart⟩
theorem OOwns.lt {w : World} {base base' : Nat} {ao : Option Addr} {n cap : Nat} {l : List OI} (h : OOwns w base ao n cap l) (hb : base' ≤ base) : OOwns w base' ao n cap l :=
 ⟨own5_lt h.row hb, fun x hx => (h.item x hx).lt hb, h.apart⟩
theorem OOwns.only {bs : List Nat} {w w' : World} {base : Nat} {ao : Option Addr} {n cap : Nat} {l : List OI} (h : OOwns w base ao n cap l) (ho : Only bs w w') (hn : ∀ b ∈ allO ao l, b ∉ bs) : OOwns w' base ao n cap l :=
 ⟨ho.own h.row (fun k hk => hn k (List.mem_append_left _ (mem_blkL.1 hk))), fun x hx => (h.item x hx).only ho (fun b hb => hn b (List.mem_append_right _ (List.mem_flatMap.2 ⟨x, hx, hb⟩))), h.apart⟩
theorem OOwns.blk {w : World} {base : Nat} {ao : Option Addr} {n cap : Nat} {l : List OI} (h : OOwns w base ao n cap l) : ∀ b ∈ allO ao l, base ≤ b ∧ b < w.heap.size := by
 intro b hb
 rcases List.mem_append.1 hb with hb | hb
 ·exact h.row.lt b (mem_blkL.2 hb)
 ·obtain ⟨x, hx, hb⟩ := List.mem_flatMap.1 hb
  exact (h.item x hx).blk b hb

theorem OOwns.type_apart {w : World} {base : Nat} {ao : Option Addr} {n cap : Nat} {l : List OI} (h : OOwns w base ao n cap l) {x : OI} (hx : x ∈ l) : ∀ b ∈ x.blks, b ∉ blkL ao := fun b hb hc =>
 apart_type (h.item x hx).z h.row (show (5 : Nat) ≠ 48 by decide) (mem_blkL.2 hb) (mem_blkL.2 hc)

theorem oapart_mid {pre post : List OI} {x : OI} (h : ((pre ++ x :: post).flatMap OI.blks).Nodup) : ∀ y, y ∈ pre ∨ y ∈ post → ∀ b ∈ y.blks, b ∉ x.blks := by
 rw [List.flatMap_append, List.flatMap_cons] at h
 obtain ⟨h1, h2, h3⟩ := List.nodup_append.1 h
 obtain ⟨h4, h5, h6⟩ := List.nodup_append.1 h2
 intro y hy b hb hx
 rcases hy with hy | hy
 ·exact h3 b (List.mem_flatMap.2 ⟨y, hy, hb⟩) b (List.mem_append_left _ hx) rfl
 ·exact h6 b hx b (List.mem_flatMap.2 ⟨y, hy, hb⟩) rfl

theorem OOwns.turn {bs : List Nat} {w w' : World} {base : Nat} {ao : Option Addr} {n cap : Nat} {pre post : List OI} {x x' : OI} (h : OOwns w base ao n cap (pre ++ x :: post)) (hb : x'.blks = x.blks) (ho : Only bs w w') (hs : ∀ b ∈ bs, b ∈ x.blks ∨ b ∈ blkL ao)
  (hr : w'.ownsRow base 48 5 (.slice ao n cap) n (outF.all (pre ++ x' :: post))) (hx : OOwn w' base x') : OOwns w' base ao n cap (pre ++ x' :: post) where
 row := hr
 item := by
  intro y hy
  have hm := oapart_mid h.apart
  have keep : (y ∈ pre ∨ y ∈ post) → y ∈ pre ++ x :: post → OOwn w' base y := fun hy hy' => (h.item y hy').only ho (fun b hb hbs => by
   rcases hs b hbs with h1 | h1
   ·exact hm y hy b hb h1
   ·exact h.type_apart hy' b hb h1)
  rcases List.mem_append.1 hy with hy | hy
  ·exact keep (.inl hy) (List.mem_append_left _ hy)
  ·rcases List.mem_cons.1 hy with rfl | hy
   ·exact hx
   ·exact keep (.inr hy) (List.mem_append_right _ (List.mem_cons_of_mem _ hy))
 apart := by
  have := h.apart
  rw [List.flatMap_append, List.flatMap_cons] at this ⊢
  rw [hb]; exact this

theorem OOwns.setZ {w w' : World} {base : Nat} {ao : Option Addr} {n cap : Nat} {pre post : List OI} {x : OI} {z' : List Int} (h : OOwns w base ao n cap (pre ++ x :: post)) (hg : w.grownBy w' (Value.slice x.a x.n x.c).ownBlock)
  (ho : w'.ownsRow base 5 1 (.slice x.a x.n x.c) x.n (cB z')) (hb : Byt z') : OOwns w' base ao n cap (pre ++ { x with z := z' } :: post) := by
 have O := Only.of_grown hg
 have hx : x ∈ pre ++ x :: post := by simp
 refine h.turn (bs := blkL x.a) (x' := { x with z := z' }) rfl O (fun b hb => .inl hb) ?_ ⟨ho, hb⟩
 have e : outF.all (pre ++ { x with z := z' } :: post) = outF.all (pre ++ x :: post) := by simp [Flat.all, outF]
 rw [e]
 exact O.own h.row (fun k hk hk' => h.type_apart hx k hk' (mem_blkL.1 hk))

theorem OOwns.cells {w : World} {base g n cap : Nat} {pre post : List OI} {x : OI} (h : OOwns w base (some ⟨g, 0, none⟩) n cap (pre ++ x :: post)) : (w.cell? ⟨g, pre.length * 5, none⟩ = some (.int .i64 x.p) ∧ w.cell? ⟨g, pre.length * 5 + 1, none⟩ = some (.int .i64 x.d) ∧ w.cell? ⟨g, pre.length * 5 + 2, none⟩ = some (.int .i64 x.s) ∧ w.cell? ⟨g, pre.length * 5 + 3, none⟩ = some (.int .i64 x.t) ∧ w.cell? ⟨g, pre.length * 5 + 4, none⟩ = some (.slice x.a x.n x.c)) ∧ w.frozen? ⟨g, pre.length * 5, none⟩ = false ∧ w.frozen? ⟨g, pre.length * 5 + 1, none⟩ = false ∧ w.frozen? ⟨g, pre.length * 5 + 2, none⟩ = false ∧ w.frozen? ⟨g, pre.length * 5 + 3, none⟩ = false := by
 have hx : (pre ++ x :: post)[pre.length]? = some x := by simp
 have c := fun (j : Nat) (v : Value) (hv : (outF.cs x)[j]? = some v) => flat_cells (F := outF) h.row hx hv
 exact ⟨⟨(c 0 _ rfl).1, (c 1 _ rfl).1, (c 2 _ rfl).1, (c 3 _ rfl).1, (c 4 _ rfl).1⟩, (c 0 _ rfl).2, (c 1 _ rfl).2, (c 2 _ rfl).2, (c 3 _ rfl).2⟩

theorem OOwns.store {w : World} {base : Nat} {g n cap : Nat} {pre post : List OI} {x x' : OI} {j : Nat} {u : Value} (h : OOwns w base (some ⟨g, 0, none⟩) n cap (pre ++ x :: post)) (hj : j < 5) (hc : (outF.cs x).set j u = outF.cs x') (hb : x'.blks = x.blks) (hx : OOwn w base x → OOwn w base x') :
  OOwns (w.setCell ⟨g, pre.length * 5 + j, none⟩ u) base (some ⟨g, 0, none⟩) n cap (pre ++ x' :: post) := by
 have hm : x ∈ pre ++ x :: post := by simp
 have R := flat_stored (F := outF) h.row j u hj hc
 have O := Only.set w g (pre.length * 5 + j) u
 refine h.turn hb O (fun b hb => .inr (by simpa [blkL] using hb)) R ?_
 exact (hx (h.item x hm)).only O (fun b hb' hb2 => h.type_apart hm b (hb ▸ hb') (by simpa [blkL] using hb2))

theorem OOwns.set4 {w : World} {base : Nat} {g n cap : Nat} {pre post : List OI} {x : OI} (h : OOwns w base (some ⟨g, 0, none⟩) n cap (pre ++ x :: post)) (p d s t : Int) :
  OOwns ((((w.setCell ⟨g, pre.length * 5, none⟩ (.int .i64 p)).setCell ⟨g, pre.length * 5 + 1, none⟩ (.int .i64 d)).setCell ⟨g, pre.length * 5 + 2, none⟩ (.int .i64 s)).setCell ⟨g, pre.length * 5 + 3, none⟩ (.int .i64 t)) base (some ⟨g, 0, none⟩) n cap (pre ++ { x with p := p, d := d, s := s, t := t } :: post) :=
 (((h.store (x' := { x with p := p }) (j := 0) (by omega) rfl rfl (fun I => ⟨I.z, I.zb⟩)).store (x' := { x with p := p, d := d }) (j := 1) (by omega) rfl rfl (fun I => ⟨I.z, I.zb⟩)).store (x' := { x with p := p, d := d, s := s }) (j := 2) (by omega) rfl rfl (fun I => ⟨I.z, I.zb⟩)).store (j := 3) (by omega) rfl rfl (fun I => ⟨I.z, I.zb⟩)

theorem OOwns.push {w w' : World} {base : Nat} {ao ao' : Option Addr} {n cap cap' : Nat} {l : List OI} {x : OI} (h : OOwns w base ao n cap l) (hx : OOwn w base x) (hap : ∀ y ∈ l, ∀ b ∈ y.blks, b ∉ x.blks) (hg : w.grownBy w' (Value.slice ao n cap).ownBlock)
  (hr : w'.ownsRow base 48 5 (.slice ao' (n + 1) cap') (n + 1) (outF.all (l ++ [x]))) : OOwns w' base ao' (n + 1) cap' (l ++ [x]) where
 row := hr
 item := by
  have O := Only.of_grown hg
  intro y hy
  rcases List.mem_append.1 hy with hy | hy
  ·exact (h.item y hy).only O (h.type_apart hy)
  ·rw [List.mem_singleton] at hy
   subst hy
   exact hx.only O fun b hb hc => apart_type hx.z h.row (show (5 : Nat) ≠ 48 by decide) (mem_blkL.2 hb) (mem_blkL.2 hc)
 apart := by
  rw [List.flatMap_append, List.nodup_append]
  refine ⟨h.apart, ?_, ?_⟩
  ·simp only [List.flatMap_cons, List.flatMap_nil, List.append_nil]
   unfold OI.blks blkL
   split <;> simp
  ·intro b hb c hc e
   subst e
   obtain ⟨y, hy, hb⟩ := List.mem_flatMap.1 hb
   exact hap y hy b hb (by simpa using hc)

set_option maxRecDepth 100000 in
set_option maxHeartbeats 400000 in
theorem toVec_made (R C H B P : Int) (w : World) :
  Calls Tryz.prog 180 #[.agg #[.int .i64 R, .int .i64 C, .int .i64 H, .int .i64 B, .int .i64 P]] w fun e w' => e = .returned (.agg #[.int .i64 R, .int .i64 C, .int .i64 H, .int .i64 B, .int .i64 P]) ∧ Below w.heap.size w w' := by
 go_enter Tryz.func180, Tryz.ntmps180
 go_wp2
 exact bodyPost_ret (v := .agg #[.int .i64 R, .int .i64 C, .int .i64 H, .int .i64 B, .int .i64 P]) (by simp [results, Tryz.results180, go_sem, *]) rfl ⟨rfl, below_three _ _ _ _⟩

set_option maxRecDepth 100000 in
set_option maxHeartbeats 400000 in
theorem eqVec_same (R C H B P : Int) (w : World) :
  Calls Tryz.prog 182 #[.agg #[.int .i64 R, .int .i64 C, .int .i64 H, .int .i64 B, .int .i64 P], .agg #[.int .i64 R, .int .i64 C, .int .i64 H, .int .i64 B, .int .i64 P]] w fun e w' => e = .returned (.bool true) ∧ Below w.heap.size w w' := by
 go_enter Tryz.func182, Tryz.ntmps182
 go_wp2
 go_ret
 exact ⟨rfl, below_two _ _ _⟩

theorem block_at {w : World} {o : Obj} {i : Nat} (h : i = w.heap.size) : (w.alloc o).heap[i]? = some o := by subst h; exact block_last w o

theorem drew_block {w : World} {o : Obj} {i : Nat} (h : w.heap[i]? = some o) : w.drew.heap[i]? = some o := h

structure Piece where
 ao : Option Addr
 len : Nat
 cap : Nat
 zs : List Int

def noPiece : Piece := ⟨none, 0, 0, []⟩

def tot (ps : List Piece) (k : Nat) : Nat := ((ps.take k).map Piece.len).sum
def flat (ps : List Piece) (k : Nat) : List Int := ((ps.take k).map Piece.zs).flatten

theorem take_snoc (ps : List Piece) (k : Nat) (h : k < ps.length) : ps.take (k + 1) = ps.take k ++ [ps.getD k noPiece] := by
 rw [List.take_succ_eq_append_getElem h]; simp [h]
theorem tot_succ (ps : List Piece) (k : Nat) (h : k < ps.length) : tot ps (k + 1) = tot ps k + (ps.getD k noPiece).len := by
 unfold tot; rw [take_snoc ps k h]; simp
theorem flat_succ (ps : List Piece) (k : Nat) (h : k < ps.length) : flat ps (k + 1) = flat ps k ++ (ps.getD k noPiece).zs := by
 unfold flat; rw [take_snoc ps k h]; simp
theorem tot_le (ps : List Piece) (k : Nat) : tot ps k ≤ tot ps ps.length := by
 unfold tot
 rw [List.take_length]
 have := List.take_append_drop k ps
 conv => rhs; rw [← this, List.map_append, List.sum_append]
 omega

structure Pieces (w : World) (po : Option Addr) (m c : Nat) (ps : List Piece) : Prop where
 size : ps.length = m
 small : m ≤ 1000
 cell : m = 0 ∨ ∃ b off, po = some ⟨b, off, none⟩ ∧ ∀ i, i < m → w.cell? ⟨b, off + i, none⟩ = some (.slice (ps.getD i noPiece).ao (ps.getD i noPiece).len (ps.getD i noPiece).cap)
 row : ∀ i, i < m → Row w (ps.getD i noPiece).ao (ps.getD i noPiece).len (ps.getD i noPiece).cap (ps.getD i noPiece).zs

set_option maxRecDepth 100000 in
set_option maxHeartbeats 1000000 in
theorem pieces_any (a1 : Option Addr) (l1 c1 : Nat) (z1 : List Int) (po : Option Addr) (m c : Nat) (ps : List Piece) (w : World) (h1 : Row w a1 l1 c1 z1) (hp : Pieces w po m c ps) (hs : l1 + tot ps m ≤ 16777216) :
  Calls Tryz.prog 163 #[.slice a1 l1 c1, .slice po m c] w fun e w' => e = .returned (.slice (some ⟨w.heap.size, 0, none⟩) (l1 + tot ps m) (l1 + tot ps m)) ∧
   w'.ownsRow w.heap.size 5 1 (.slice (some ⟨w.heap.size, 0, none⟩) (l1 + tot ps m) (l1 + tot ps m)) (l1 + tot ps m) (cB (z1 ++ flat ps m)) ∧ Below w.heap.size w w' := by
 obtain ⟨i0, hi, hz0, hz1, hz2⟩ := info_parts Tryz.infoU8
 have s1 := h1.size
 have hm := hp.small
 have hps := hp.size
 have htm : ∀ k, tot ps k ≤ tot ps m := fun k => by rw [← hps]; exact tot_le ps k
 have HTM : Hid (∀ k, tot ps k ≤ tot ps m) := htm
 clear htm
 go_enter Tryz.func163, Tryz.ntmps163
 go_wp2
 go_loop [5, 15] (fun s i => ∃ k : Nat, k ≤ m ∧ i = .int .i64 k ∧ s = .int .i64 ((l1 + tot ps k : Nat) : Int)) (fun _ i => m - (intOf i).toNat)
 case atStart => exact ⟨0, Nat.zero_le _, rfl, by simp [tot]⟩
 case round =>
  obtain ⟨k, hk, rfl, rfl⟩ := hrel
  by_cases hlt : k < m
  ·rcases hp.cell with h0 | ⟨b, off, rfl, hc⟩
   ·omega
   have cx := hc k hlt
   have ht := tot_succ ps k (by omega)
   have h2 := HTM.out (k + 1)
   have HT : Hid (tot ps (k + 1) = tot ps k + (ps.getD k noPiece).len) := ht
   rw [ht] at h2
   generalize hx : ps.getD k noPiece = p at cx h2
   have HX : Hid (ps.getD k noPiece = p) := hx
   clear hx ht hc
   go_wp2
   go_round
   case rel => exact ⟨k + 1, by omega, by go_num, by rw [HT.out, HX.out]; go_num⟩
   case measure => simp [intOf]; omega
  ·have hk' : k = m := by omega
   subst hk'
   go_wp2_with (at_make; refine wpList_make_own _ rfl _ _ 22 rfl w.heap.size 5 i0 (.int .u8 0) 1 Tryz.underlying22 hi hz0 hz1 .i64 .i64 _ (l1 + tot ps k) rfl rfl rfl ?c1 ?c2 ?c3 ?_)
   case c1 => omega
   case c2 => unfold maxLen; omega
   intro w1 how1 hgr1
   have hb1 : Below w.heap.size w w1 := (Below.refl _ _).grown hgr1 (Nat.le_refl _) (by intro k hk; cases hk)
   have hr1 := h1.below hb1
   clear hgr1
   go_wp2_with (at_builtin; refine wpList_append_fits_any _ rfl _ _ 22 rfl w.heap.size 5 i0 1 Tryz.underlying22 hi hz1 w.heap.size 0 (l1 + tot ps k) [] rfl how1 a1 l1 c1 (cB z1) rfl ?d1 ?d2 ?d3 ?d4 ?d5 ?_)
   case d1 => rw [cB_length]; omega
   case d2 => exact hr1.none_zero
   case d3 => exact fun ad ha j u hu => hr1.news ad ha j u hu
   case d4 => exact cB_oneCell z1
   case d5 => omega
   intro w2 how2 hgr2
   have hb2 : Below w.heap.size w w2 := hb1.grown hgr2 (by have := hb1.size; omega) (by intro k hk; cases hk; exact Nat.le_refl _)
   clear how1 hgr2 hb1 hr1
   go_wp2
   go_loopw [8, 30] (fun v i wr => ∃ j : Nat, j ≤ k ∧ i = .int .i64 j ∧ v = .slice (some ⟨w.heap.size, 0, none⟩) (l1 + tot ps j) (l1 + tot ps k) ∧ wr.ownsRow w.heap.size 5 1 (.slice (some ⟨w.heap.size, 0, none⟩) (l1 + tot ps j) (l1 + tot ps k)) (l1 + tot ps j) (cB (z1 ++ flat ps j)) ∧ Below w.heap.size w wr) (fun _ i _ => k - (intOf i).toNat)
   case atStart => exact ⟨0, Nat.zero_le _, rfl, by simp [tot], by simpa [tot, flat] using how2, hb2⟩
   case round =>
    obtain ⟨j, hj, rfl, rfl, how, hb⟩ := hrel
    by_cases hlj : j < k
    ·rcases hp.cell with h0 | ⟨b, off, rfl, hc⟩
     ·omega
     have cx : wr.cell? ⟨b, off + j, none⟩ = some (.slice (ps.getD j noPiece).ao (ps.getD j noPiece).len (ps.getD j noPiece).cap) := by rw [hb.cell (block_lt (hc j hlj))]; exact hc j hlj
     have rx := (hp.row j hlj).below hb
     have ht := tot_succ ps j (by omega)
     have hf := flat_succ ps j (by omega)
     have h2 := HTM.out (j + 1)
     rw [ht] at h2
     generalize hx : ps.getD j noPiece = p at cx h2 rx ht hf
     have HT : Hid (tot ps (j + 1) = tot ps j + p.len) := ht
     have HF : Hid (flat ps (j + 1) = flat ps j ++ p.zs) := hf
     clear hx ht hc hf
     go_wp2_with (at_builtin; refine wpList_append_fits_any _ rfl _ _ 22 rfl w.heap.size 5 i0 1 Tryz.underlying22 hi hz1 w.heap.size (l1 + tot ps j) (l1 + tot ps k) _ rfl how p.ao p.len p.cap (cB p.zs) rfl ?e1 ?e2 ?e3 ?e4 ?e5 ?_)
     case e1 => rw [cB_length, rx.size]; omega
     case e2 => exact rx.none_zero
     case e3 => exact fun ad ha j u hu => rx.news ad ha j u hu
     case e4 => exact cB_oneCell _
     case e5 => omega
     intro w3 how3 hgr3
     have hb3 : Below w.heap.size w w3 := hb.grown hgr3 (by have := hb.size; omega) (by intro k hk; cases hk; exact Nat.le_refl _)
     rw [← cB_append, List.append_assoc, ← HF.out, Nat.add_assoc, ← HT.out] at how3
     clear hgr3 how hb
     go_wp2
     go_roundw
     case rel => exact ⟨j + 1, by omega, by go_num, by rw [HT.out, Nat.add_assoc], how3, hb3⟩
     case measure => simp [intOf]; omega
    ·have hj' : j = k := by omega
     subst hj'
     go_wp2
     go_ret
     exact ⟨rfl, how, hb⟩

def clip (n : Int) : Int := if 2147483647 < n then 2147483647 else if n < -2147483648 then -2147483648 else n

def ints : Nat → Int → List Int → List Int
 | 0, _, out => out
 | f + 1, n, out => if n < -128 ∨ 127 < n then ints f (n / 256) (n / 256 % 256 :: out) else out

def putInt (n : Int) : List Int := ints 3 (clip n) [clip n % 256]

def lenB (n : Nat) : List Int := if n < 128 then [(n : Int)] else [129, (n : Int)]
def putTlv (b : List Int) (tag : Int) (body : List Int) : List Int :=
 if tag < 0 ∨ 255 < tag ∨ 250 < body.length then b else b ++ ([tag] ++ lenB body.length ++ body)

theorem pieces_none (w : World) : Pieces w none 0 0 [] := ⟨rfl, by omega, .inl rfl, fun i hi => by omega⟩

def sgn (b : Int) : Int := if 127 < b then b - 256 else b
def val (zs : List Int) : Nat → Int
 | 0 => sgn (zs.getD 0 0)
 | k + 1 => val zs k * 256 + zs.getD (k + 1) 0

structure VD where
 r : Int
 c : Int
 h : Int
 b : Int
 p : Int

def okVc (r c h b p : Int) : Bool := decide (1 ≤ r ∧ r ≤ 99) && (decide (0 ≤ c ∧ c ≤ 100000) && (decide (0 ≤ h ∧ h ≤ 10) && (decide (1 ≤ b ∧ b ≤ 99) && decide (0 ≤ p ∧ p ≤ 7))))
def bodyVc (r c h b p : Int) : List Int := putTlv (putTlv (putTlv (putTlv (putTlv [] 2 (putInt r)) 2 (putInt c)) 2 (putInt h)) 2 (putInt b)) 2 (putInt p)
def putVc (r c h b p : Int) : List Int := if okVc r c h b p = true then bodyVc r c h b p else []

theorem okVc_parts {r c h b p : Int} (k : okVc r c h b p = true) : (1 ≤ r ∧ r ≤ 99) ∧ (0 ≤ c ∧ c ≤ 100000) ∧ (0 ≤ h ∧ h ≤ 10) ∧ (1 ≤ b ∧ b ≤ 99) ∧ (0 ≤ p ∧ p ≤ 7) := by
 unfold okVc at k
 simp only [Bool.and_eq_true, decide_eq_true_eq] at k
 exact k

theorem copy_made (a1 : Option Addr) (l1 c1 : Nat) (z1 : List Int) (w : World) (h1 : Row w a1 l1 c1 z1) (hs : l1 ≤ 16777216) :
  Calls Tryz.prog 82 #[.slice a1 l1 c1] w fun e w' => ∃ ao cap, e = .returned (.slice ao l1 cap) ∧
   w'.ownsRow w.heap.size 5 1 (.slice ao l1 cap) l1 (cB z1) ∧ Row w' ao l1 cap z1 ∧ Below w.heap.size w w' := by
 refine (copy_any a1 l1 c1 z1 w h1 hs).mono ?_
 rintro e w' ⟨rfl, ho, hb⟩
 exact ⟨_, _, rfl, ho, row_own ho h1.byte, hb⟩

set_option maxRecDepth 100000 in
set_option maxHeartbeats 400000 in
theorem within_any (x lo hi : Int) (w : World) :
  Calls Tryz.prog 74 #[.int .i64 x, .int .i64 lo, .int .i64 hi] w fun e w' => e = .returned (.bool (decide (lo ≤ x) && decide (x ≤ hi))) ∧ w' = w := by
 by_cases h1 : lo ≤ x
 ·go_enter Tryz.func74, Tryz.ntmps74
  go_wp2
  go_ret
  exact ⟨ret_bool (by simp [h1]), rfl⟩
 ·go_enter Tryz.func74, Tryz.ntmps74
  go_wp2
  go_ret
  exact ⟨ret_bool (by rw [decide_eq_false (show ¬ lo ≤ x by omega)]; rfl), rfl⟩

def sameF (K N S : Int) (z : List Int) (K' N' S' : Int) (z' : List Int) : Bool := (K == K') && ((N == N') && ((S == S') && decide (z = z')))

theorem sameF_self (K N S : Int) (z : List Int) : sameF K N S z K N S z = true := by simp [sameF]

theorem fsame_noK {K N S : Int} {z : List Int} {K' N' S' : Int} {z' : List Int} (h : (K != K') = true) : false = sameF K N S z K' N' S' z' := by
 simp at h; simp [sameF, h]
theorem fsame_noN {K N S : Int} {z : List Int} {K' N' S' : Int} {z' : List Int} (h : (N != N') = true) : false = sameF K N S z K' N' S' z' := by
 simp at h; simp [sameF, h]
theorem fsame_noS {K N S : Int} {z : List Int} {K' N' S' : Int} {z' : List Int} (h : (S != S') = true) : false = sameF K N S z K' N' S' z' := by
 simp at h; simp [sameF, h]
theorem fsame_noO {K N S : Int} {z : List Int} {K' N' S' : Int} {z' : List Int} (h : decide (z = z') = false) : false = sameF K N S z K' N' S' z' := by
 simp at h; simp [sameF, h]
theorem fsame_yes {K N S : Int} {z : List Int} {K' N' S' : Int} {z' : List Int} (h1 : (K != K') = false) (h2 : (N != N') = false) (h3 : (S != S') = false) (h4 : decide (z = z') = true) : true = sameF K N S z K' N' S' z' := by
 simp at h1 h2 h3 h4; simp [sameF, h1, h2, h3, h4]

set_option maxRecDepth 100000 in
set_option maxHeartbeats 400000 in
theorem toFrame_made (K N S : Int) (a1 : Option Addr) (l1 c1 : Nat) (z1 : List Int) (w : World) (h1 : Row w a1 l1 c1 z1) (hs : l1 ≤ 16777216) :
  Calls Tryz.prog 26 #[.agg #[.int .i64 K, .int .i64 N, .int .i64 S, .slice a1 l1 c1]] w fun e w' => ∃ ao cap, e = .returned (.agg #[.int .i64 K, .int .i64 N, .int .i64 S, .slice ao l1 cap]) ∧
   w'.ownsRow w.heap.size 5 1 (.slice ao l1 cap) l1 (cB z1) ∧ Row w' ao l1 cap z1 ∧ Below w.heap.size w w' := by
 go_enter Tryz.func26, Tryz.ntmps26
 go_wp2_with fail
 refine (copy_made a1 l1 c1 z1 _ (h1.below (below_three _ _ _ _)) hs).mono ?_
 rintro e w1 ⟨ao, cp, rfl, ho, hr, hb⟩
 obtain ⟨k0, k1, k2⟩ := kept_three hb
 obtain ⟨⟨p0, p1, p2, p3⟩, f0, f1, f2, f3⟩ := cells4 k1
 obtain ⟨⟨q0, q1, q2, q3⟩, g0, g1, g2, g3⟩ := cells4 k2
 have b1 : Below w.heap.size w w1 := (below_three w _ _ _).trans (hb.mono (below_three w _ _ _).size)
 have ho' := own_lt ho (base' := w.heap.size + 1 + 1 + 1) (by simp)
 have hby := hr.byte
 have HB := hide b1
 have HO := hide ho'
 clear k0 k1 k2 hb ho ho' b1 hr h1
 go_wp2
 have o5 := own_set (own_set (own_set (own_set (own_set HO.out (g := w.heap.size + 1 + 1) (j := 3) (u := .slice ao l1 cp) (by omega)) (g := w.heap.size + 1) (j := 0) (u := .int .i64 K) (by omega)) (g := w.heap.size + 1) (j := 1) (u := .int .i64 N) (by omega)) (g := w.heap.size + 1) (j := 2) (u := .int .i64 S) (by omega)) (g := w.heap.size + 1) (j := 3) (u := .slice ao l1 cp) (by omega)
 refine bodyPost_ret (v := .agg #[.int .i64 K, .int .i64 N, .int .i64 S, .slice ao l1 cp]) (by simp [results, Tryz.results26, go_sem, *]) rfl ⟨ao, cp, rfl, own_lt o5 (by omega), row_own o5 hby, ?_⟩
 exact below_set (below_set (below_set (below_set (below_set HB.out (by omega) _ _) (by omega) _ _) (by omega) _ _) (by omega) _ _) (by omega) _ _

set_option maxRecDepth 100000 in
set_option maxHeartbeats 400000 in
theorem eqFrame_any (K N S : Int) (a1 : Option Addr) (l1 c1 : Nat) (z1 : List Int) (K' N' S' : Int) (a2 : Option Addr) (l2 c2 : Nat) (z2 : List Int) (w : World) (h1 : Row w a1 l1 c1 z1) (h2 : Row w a2 l2 c2 z2) :
  Calls Tryz.prog 29 #[.agg #[.int .i64 K, .int .i64 N, .int .i64 S, .slice a1 l1 c1], .agg #[.int .i64 K', .int .i64 N', .int .i64 S', .slice a2 l2 c2]] w fun e w' => e = .returned (.bool (sameF K N S z1 K' N' S' z2)) ∧ Below w.heap.size w w' := by
 generalize hP : sameF K N S z1 K' N' S' z2 = P
 have HP := hide hP
 clear hP
 go_enter Tryz.func29, Tryz.ntmps29
 go_wp2_with fail
 ·go_ret
  exact ⟨ret_bool ((fsame_noK ‹_›).trans HP.out), below_two _ _ _⟩
 ·go_ret
  exact ⟨ret_bool ((fsame_noN ‹_›).trans HP.out), below_two _ _ _⟩
 ·go_ret
  exact ⟨ret_bool ((fsame_noS ‹_›).trans HP.out), below_two _ _ _⟩
 ·have t1 := ‹(K != K') = false›
  have t2 := ‹(N != N') = false›
  have t3 := ‹(S != S') = false›
  cases hD : decide (z1 = z2)
  ·refine (eq_any a1 l1 c1 z1 a2 l2 c2 z2 _ (h1.below (below_two _ _ _)) (h2.below (below_two _ _ _))).mono ?_
   rintro e w1 ⟨rfl, n, rfl⟩
   rw [hD]
   have HD := hide hD
   clear hD
   go_wp2
   go_ret
   exact ⟨ret_bool ((fsame_noO HD.out).trans HP.out), below_drewN (below_two _ _ _) n⟩
  ·refine (eq_any a1 l1 c1 z1 a2 l2 c2 z2 _ (h1.below (below_two _ _ _)) (h2.below (below_two _ _ _))).mono ?_
   rintro e w1 ⟨rfl, n, rfl⟩
   rw [hD]
   have HD := hide hD
   clear hD
   go_wp2
   go_ret
   exact ⟨ret_bool ((fsame_yes t1 t2 t3 HD.out).trans HP.out), below_drewN (below_two _ _ _) n⟩

theorem eqFrame_same (K N S : Int) (a1 : Option Addr) (l1 c1 : Nat) (a2 : Option Addr) (l2 c2 : Nat) (zs : List Int) (w : World) (h1 : Row w a1 l1 c1 zs) (h2 : Row w a2 l2 c2 zs) :
  Calls Tryz.prog 29 #[.agg #[.int .i64 K, .int .i64 N, .int .i64 S, .slice a1 l1 c1], .agg #[.int .i64 K, .int .i64 N, .int .i64 S, .slice a2 l2 c2]] w fun e w' => e = .returned (.bool true) ∧ Below w.heap.size w w' := by
 refine (eqFrame_any K N S a1 l1 c1 zs K N S a2 l2 c2 zs w h1 h2).mono ?_
 rintro e w' ⟨rfl, hb⟩
 exact ⟨by rw [sameF_self], hb⟩

set_option maxRecDepth 100000 in
set_option maxHeartbeats 400000 in
theorem szFrame_any (K N S : Int) (a1 : Option Addr) (l1 c1 : Nat) (left : Int) (w : World) (hl : l1 ≤ maxLen) (h0 : 0 ≤ left) (h1 : left ≤ 1048576) :
  Calls Tryz.prog 24 #[.agg #[.int .i64 K, .int .i64 N, .int .i64 S, .slice a1 l1 c1], .int .i64 left] w fun e w' => e = .returned (.int .i64 (if (l1 : Int) ≤ left then left - l1 else -1)) ∧ Below w.heap.size w w' := by
 unfold maxLen at hl
 go_enter Tryz.func24, Tryz.ntmps24
 go_wp2
 all_goals go_ret
 all_goals exact ⟨rfl, below_one _ _⟩

set_option maxRecDepth 100000 in
set_option maxHeartbeats 400000 in
theorem markFrame_grown (K N S : Int) (base : Nat) (ao : Option Addr) (n cap : Nat) (zs : List Int) (k : Int) (w : World) (hown : w.ownsRow base 5 1 (.slice ao n cap) n (cB zs)) (hn : n ≤ 16777216) (hk0 : 0 ≤ k) (hk1 : k ≤ 1099511627776) :
  Calls Tryz.prog 31 #[.agg #[.int .i64 K, .int .i64 N, .int .i64 S, .slice ao n cap], .int .i64 k] w fun e w' => e = .returned (.int .i64 (k + n)) ∧
   w'.ownsRow base 5 1 (.slice ao n cap) n (cB (marks k n)) ∧ w.grownBy w' (Value.slice ao n cap).ownBlock := by
 go_enter Tryz.func31, Tryz.ntmps31
 go_wp2_with fail
 refine (mark_grown base ao n cap zs k _ (own_below hown (below_one _ _)) hn hk0 hk1).mono ?_
 rintro e w1 ⟨rfl, ho, hg⟩
 go_wp2
 go_ret
 exact ⟨rfl, ho, grown_below (below_one _ _) hg⟩

theorem okVc_is (R C H B P : Int) : okVc R C H B P = ((decide (1 ≤ R) && decide (R ≤ 99)) && ((decide (0 ≤ C) && decide (C ≤ 100000)) && ((decide (0 ≤ H) && decide (H ≤ 10)) && ((decide (1 ≤ B) && decide (B ≤ 99)) && (decide (0 ≤ P) && decide (P ≤ 7)))))) := by
 unfold okVc
 have e1 : ∀ a x b : Int, decide (a ≤ x ∧ x ≤ b) = (decide (a ≤ x) && decide (x ≤ b)) := fun a x b => by rw [Bool.eq_iff_iff]; simp
 rw [e1, e1, e1, e1, e1]

set_option maxRecDepth 100000 in
set_option maxHeartbeats 2000000 in
theorem specVecOk_any (R C H B P : Int) (w : World) :
  Calls Tryz.prog 188 #[.agg #[.int .i64 R, .int .i64 C, .int .i64 H, .int .i64 B, .int .i64 P]] w fun e w' => e = .returned (.bool (okVc R C H B P)) ∧ Below w.heap.size w w' := by
 generalize hP : okVc R C H B P = Q
 rw [okVc_is] at hP
 cases t1 : (decide (1 ≤ R) && decide (R ≤ 99))
 ·have e : Q = false := by rw [← hP, t1]; rfl
  subst e
  have T1 := hide t1
  clear hP t1
  go_enter Tryz.func188, Tryz.ntmps188
  go_wp2_with fail
  refine (within_any R 1 99 _).mono ?_
  rintro e w1 ⟨rfl, rfl⟩
  rw [T1.out]
  go_wp2
  go_ret
  exact ⟨rfl, below_one _ _⟩
 cases t2 : (decide (0 ≤ C) && decide (C ≤ 100000))
 ·have e : Q = false := by rw [← hP, t1, t2]; rfl
  subst e
  have T1 := hide t1
  have T2 := hide t2
  clear hP t1 t2
  go_enter Tryz.func188, Tryz.ntmps188
  go_wp2_with fail
  refine (within_any R 1 99 _).mono ?_
  rintro e w1 ⟨rfl, rfl⟩
  rw [T1.out]
  go_wp2_with fail
  refine (within_any C 0 100000 _).mono ?_
  rintro e w2 ⟨rfl, rfl⟩
  rw [T2.out]
  go_wp2
  go_ret
  exact ⟨rfl, below_one _ _⟩
 cases t3 : (decide (0 ≤ H) && decide (H ≤ 10))
 ·have e : Q = false := by rw [← hP, t1, t2, t3]; rfl
  subst e
  have T1 := hide t1
  have T2 := hide t2
  have T3 := hide t3
  clear hP t1 t2 t3
  go_enter Tryz.func188, Tryz.ntmps188
  go_wp2_with fail
  refine (within_any R 1 99 _).mono ?_
  rintro e w1 ⟨rfl, rfl⟩
  rw [T1.out]
  go_wp2_with fail
  refine (within_any C 0 100000 _).mono ?_
  rintro e w2 ⟨rfl, rfl⟩
  rw [T2.out]
  go_wp2_with fail
  refine (within_any H 0 10 _).mono ?_
  rintro e w3 ⟨rfl, rfl⟩
  rw [T3.out]
  go_wp2
  go_ret
  exact ⟨rfl, below_one _ _⟩
 cases t4 : (decide (1 ≤ B) && decide (B ≤ 99))
 ·have e : Q = false := by rw [← hP, t1, t2, t3, t4]; rfl
  subst e
  have T1 := hide t1
  have T2 := hide t2
  have T3 := hide t3
  have T4 := hide t4
  clear hP t1 t2 t3 t4
  go_enter Tryz.func188, Tryz.ntmps188
  go_wp2_with fail
  refine (within_any R 1 99 _).mono ?_
  rintro e w1 ⟨rfl, rfl⟩
  rw [T1.out]
  go_wp2_with fail
  refine (within_any C 0 100000 _).mono ?_
  rintro e w2 ⟨rfl, rfl⟩
  rw [T2.out]
  go_wp2_with fail
  refine (within_any H 0 10 _).mono ?_
  rintro e w3 ⟨rfl, rfl⟩
  rw [T3.out]
  go_wp2_with fail
  refine (within_any B 1 99 _).mono ?_
  rintro e w4 ⟨rfl, rfl⟩
  rw [T4.out]
  go_wp2
  go_ret
  exact ⟨rfl, below_one _ _⟩
 cases t5 : (decide (0 ≤ P) && decide (P ≤ 7))
 ·have e : Q = false := by rw [← hP, t1, t2, t3, t4, t5]; rfl
  subst e
  have T1 := hide t1
  have T2 := hide t2
  have T3 := hide t3
  have T4 := hide t4
  have T5 := hide t5
  clear hP t1 t2 t3 t4 t5
  go_enter Tryz.func188, Tryz.ntmps188
  go_wp2_with fail
  refine (within_any R 1 99 _).mono ?_
  rintro e w1 ⟨rfl, rfl⟩
  rw [T1.out]
  go_wp2_with fail
  refine (within_any C 0 100000 _).mono ?_
  rintro e w2 ⟨rfl, rfl⟩
  rw [T2.out]
  go_wp2_with fail
  refine (within_any H 0 10 _).mono ?_
  rintro e w3 ⟨rfl, rfl⟩
  rw [T3.out]
  go_wp2_with fail
  refine (within_any B 1 99 _).mono ?_
  rintro e w4 ⟨rfl, rfl⟩
  rw [T4.out]
  go_wp2_with fail
  refine (within_any P 0 7 _).mono ?_
  rintro e w5 ⟨rfl, rfl⟩
  rw [T5.out]
  go_wp2
  go_ret
  exact ⟨rfl, below_one _ _⟩
 have e : Q = true := by rw [← hP, t1, t2, t3, t4, t5]; rfl
 subst e
 have T1 := hide t1
 have T2 := hide t2
 have T3 := hide t3
 have T4 := hide t4
 have T5 := hide t5
 clear hP t1 t2 t3 t4 t5
 go_enter Tryz.func188, Tryz.ntmps188
 go_wp2_with fail
 refine (within_any R 1 99 _).mono ?_
 rintro e w1 ⟨rfl, rfl⟩
 rw [T1.out]
 go_wp2_with fail
 refine (within_any C 0 100000 _).mono ?_
 rintro e w2 ⟨rfl, rfl⟩
 rw [T2.out]
 go_wp2_with fail
 refine (within_any H 0 10 _).mono ?_
 rintro e w3 ⟨rfl, rfl⟩
 rw [T3.out]
 go_wp2_with fail
 refine (within_any B 1 99 _).mono ?_
 rintro e w4 ⟨rfl, rfl⟩
 rw [T4.out]
 go_wp2_with fail
 refine (within_any P 0 7 _).mono ?_
 rintro e w5 ⟨rfl, rfl⟩
 rw [T5.out]
 go_wp2
 go_ret
 exact ⟨rfl, below_one _ _⟩

def lessVc (R C B P R' C' B' P' : Int) : Bool :=
 if (R != R') = true then decide (R < R') else if (C != C') = true then decide (C < C') else if (B != B') = true then decide (B < B') else decide (P < P')

set_option maxRecDepth 100000 in
set_option maxHeartbeats 2000000 in
theorem specLessVec_any (R C H B P R' C' H' B' P' : Int) (w : World) :
  Calls Tryz.prog 168 #[.agg #[.int .i64 R, .int .i64 C, .int .i64 H, .int .i64 B, .int .i64 P], .agg #[.int .i64 R', .int .i64 C', .int .i64 H', .int .i64 B', .int .i64 P']] w fun e w' => e = .returned (.bool (lessVc R C B P R' C' B' P')) ∧ Below w.heap.size w w' := by
 cases t1 : (R != R')
 ·cases t2 : (C != C')
  ·cases t3 : (B != B')
   ·have e : lessVc R C B P R' C' B' P' = decide (P < P') := by unfold lessVc; rw [t1, t2, t3]; rfl
    rw [e]
    clear e
    go_enter Tryz.func168, Tryz.ntmps168
    go_wp2
    go_ret
    exact ⟨rfl, below_two _ _ _⟩
   ·have e : lessVc R C B P R' C' B' P' = decide (B < B') := by unfold lessVc; rw [t1, t2, t3]; rfl
    rw [e]
    clear e
    go_enter Tryz.func168, Tryz.ntmps168
    go_wp2
    go_ret
    exact ⟨rfl, below_two _ _ _⟩
  ·have e : lessVc R C B P R' C' B' P' = decide (C < C') := by unfold lessVc; rw [t1, t2]; rfl
   rw [e]
   clear e
   go_enter Tryz.func168, Tryz.ntmps168
   go_wp2
   go_ret
   exact ⟨rfl, below_two _ _ _⟩
 ·have e : lessVc R C B P R' C' B' P' = decide (R < R') := by unfold lessVc; rw [t1]; rfl
  rw [e]
  clear e
  go_enter Tryz.func168, Tryz.ntmps168
  go_wp2
  go_ret
  exact ⟨rfl, below_two _ _ _⟩

def stepOk (R C H B P k : Int) : Bool := okVc R C H B P && ((decide (1 ≤ k) && decide (k ≤ 1000)) && okVc R (C + k) (H + 1) B P)

set_option maxRecDepth 100000 in
set_option maxHeartbeats 4000000 in
theorem specStepVec_any (R C H B P k : Int) (w : World) :
  Calls Tryz.prog 189 #[.agg #[.int .i64 R, .int .i64 C, .int .i64 H, .int .i64 B, .int .i64 P], .int .i64 k] w fun e w' => e = .returned (.tuple #[if stepOk R C H B P k = true then .agg #[.int .i64 R, .int .i64 (C + k), .int .i64 (H + 1), .int .i64 B, .int .i64 P] else .agg #[.int .i64 R, .int .i64 C, .int .i64 H, .int .i64 B, .int .i64 P], .bool (stepOk R C H B P k)]) ∧ Below w.heap.size w w' := by
 have q2 := below_two w (.cells #[.int .i64 R, .int .i64 C, .int .i64 H, .int .i64 B, .int .i64 P] 93) (.cells #[.int .i64 0, .int .i64 0, .int .i64 0, .int .i64 0, .int .i64 0] 93)
 cases t1 : okVc R C H B P
 ·have e : stepOk R C H B P k = false := by unfold stepOk; rw [t1]; rfl
  rw [e, if_neg (by simp)]
  have T1 := hide t1
  clear e t1
  go_enter Tryz.func189, Tryz.ntmps189
  go_wp2_with fail
  refine (specVecOk_any R C H B P _).mono ?_
  rintro e w1 ⟨rfl, hb1⟩
  rw [T1.out]
  obtain ⟨k0, k1⟩ := kept_two hb1
  obtain ⟨⟨x0, x1, x2, x3, x4⟩, f0, f1, f2, f3, f4⟩ := cells5 k0
  obtain ⟨⟨y0, y1, y2, y3, y4⟩, g0, g1, g2, g3, g4⟩ := cells5 k1
  have HB := hide (gr_trans q2 hb1)
  clear hb1 k0 k1
  go_wp2
  exact bodyPost_ret (v := .tuple #[.agg #[.int .i64 R, .int .i64 C, .int .i64 H, .int .i64 B, .int .i64 P], .bool false]) (by simp [results, Tryz.results189, go_sem, *]) rfl ⟨rfl, below_set5 HB.out (by omega) _ _ _ _ _⟩
 cases t2 : (decide (1 ≤ k) && decide (k ≤ 1000))
 ·have e : stepOk R C H B P k = false := by unfold stepOk; rw [t1, t2]; rfl
  rw [e, if_neg (by simp)]
  have T1 := hide t1
  have T2 := hide t2
  clear e t1 t2
  go_enter Tryz.func189, Tryz.ntmps189
  go_wp2_with fail
  refine (specVecOk_any R C H B P _).mono ?_
  rintro e w1 ⟨rfl, hb1⟩
  rw [T1.out]
  obtain ⟨k0, k1⟩ := kept_two hb1
  obtain ⟨⟨x0, x1, x2, x3, x4⟩, f0, f1, f2, f3, f4⟩ := cells5 k0
  obtain ⟨⟨y0, y1, y2, y3, y4⟩, g0, g1, g2, g3, g4⟩ := cells5 k1
  have HB := hide (gr_trans q2 hb1)
  clear hb1 k0 k1
  go_wp2_with fail
  refine (within_any k 1 1000 _).mono ?_
  rintro e w2 ⟨rfl, rfl⟩
  rw [T2.out]
  go_wp2
  exact bodyPost_ret (v := .tuple #[.agg #[.int .i64 R, .int .i64 C, .int .i64 H, .int .i64 B, .int .i64 P], .bool false]) (by simp [results, Tryz.results189, go_sem, *]) rfl ⟨rfl, below_set5 HB.out (by omega) _ _ _ _ _⟩
 obtain ⟨-, o2, o3, -, -⟩ := okVc_parts t1
 have hk : 1 ≤ k ∧ k ≤ 1000 := by simpa using t2
 have es : stepOk R C H B P k = okVc R (C + k) (H + 1) B P := by unfold stepOk; rw [t1, t2]; rfl
 rw [es]
 clear es
 cases t3 : okVc R (C + k) (H + 1) B P
 ·rw [if_neg (by simp)]
  have T1 := hide t1
  have T2 := hide t2
  have T3 := hide t3
  clear t1 t2 t3
  go_enter Tryz.func189, Tryz.ntmps189
  go_wp2_with fail
  refine (specVecOk_any R C H B P _).mono ?_
  rintro e w1 ⟨rfl, hb1⟩
  rw [T1.out]
  obtain ⟨k0, k1⟩ := kept_two hb1
  obtain ⟨⟨x0, x1, x2, x3, x4⟩, f0, f1, f2, f3, f4⟩ := cells5 k0
  have HB := hide (gr_trans q2 hb1)
  have K0 := hide k0
  have K1 := hide k1
  clear hb1 k0 k1
  go_wp2_with fail
  refine (within_any k 1 1000 _).mono ?_
  rintro e w2 ⟨rfl, rfl⟩
  rw [T2.out]
  have lt0 := (Array.getElem?_eq_some_iff.1 K0.out).1
  have ne1 : ¬ w.heap.size = w2.heap.size := by omega
  have ne2 : ¬ w2.heap.size = w.heap.size := by omega
  go_wp2_with fail
  refine (specVecOk_any R (C + k) (H + 1) B P _).mono ?_
  rintro e w3 ⟨rfl, hb3⟩
  rw [T3.out]
  clear x0 x1 x2 x3 x4 f0 f1 f2 f3 f4
  have b3 := gr_trans (below_one w2 _) hb3
  obtain ⟨⟨x0, x1, x2, x3, x4⟩, f0, f1, f2, f3, f4⟩ := cells5 (kept_block K0.out b3)
  obtain ⟨⟨y0, y1, y2, y3, y4⟩, g0, g1, g2, g3, g4⟩ := cells5 (kept_block K1.out b3)
  have HB3 := hide (gr_trans HB.out b3)
  clear hb3 b3
  go_wp2
  exact bodyPost_ret (v := .tuple #[.agg #[.int .i64 R, .int .i64 C, .int .i64 H, .int .i64 B, .int .i64 P], .bool false]) (by simp [results, Tryz.results189, go_sem, *]) rfl ⟨rfl, below_set5 HB3.out (by omega) _ _ _ _ _⟩
 ·rw [if_pos rfl]
  have T1 := hide t1
  have T2 := hide t2
  have T3 := hide t3
  clear t1 t2 t3
  go_enter Tryz.func189, Tryz.ntmps189
  go_wp2_with fail
  refine (specVecOk_any R C H B P _).mono ?_
  rintro e w1 ⟨rfl, hb1⟩
  rw [T1.out]
  obtain ⟨k0, k1⟩ := kept_two hb1
  obtain ⟨⟨x0, x1, x2, x3, x4⟩, f0, f1, f2, f3, f4⟩ := cells5 k0
  have HB := hide (gr_trans q2 hb1)
  have K0 := hide k0
  have K1 := hide k1
  clear hb1 k0 k1
  go_wp2_with fail
  refine (within_any k 1 1000 _).mono ?_
  rintro e w2 ⟨rfl, rfl⟩
  rw [T2.out]
  have lt0 := (Array.getElem?_eq_some_iff.1 K0.out).1
  have ne1 : ¬ w.heap.size = w2.heap.size := by omega
  have ne2 : ¬ w2.heap.size = w.heap.size := by omega
  go_wp2_with fail
  refine (specVecOk_any R (C + k) (H + 1) B P _).mono ?_
  rintro e w3 ⟨rfl, hb3⟩
  rw [T3.out]
  clear x0 x1 x2 x3 x4 f0 f1 f2 f3 f4
  have b3 := gr_trans (below_one w2 _) hb3
  obtain ⟨⟨x0, x1, x2, x3, x4⟩, f0, f1, f2, f3, f4⟩ := cells5 (kept_block (block_last w2 _) hb3)
  obtain ⟨⟨y0, y1, y2, y3, y4⟩, g0, g1, g2, g3, g4⟩ := cells5 (kept_block K1.out b3)
  have HB3 := hide (gr_trans HB.out b3)
  clear hb3 b3
  go_wp2
  exact bodyPost_ret (v := .tuple #[.agg #[.int .i64 R, .int .i64 (C + k), .int .i64 (H + 1), .int .i64 B, .int .i64 P], .bool true]) (by simp [results, Tryz.results189, go_sem, *]) rfl ⟨rfl, below_set5 HB3.out (by omega) _ _ _ _ _⟩

structure PT where
 up : Bool
 k : Int
 has : Bool
 v : VD

def ptF : Flat PT where
 k := 8
 cs := fun x => [.bool x.up, .int .i64 x.k, .bool x.has, .int .i64 x.v.r, .int .i64 x.v.c, .int .i64 x.v.h, .int .i64 x.v.b, .int .i64 x.v.p]
 len := fun _ => rfl
 pos := by decide
 one := fun _ v hv => by
  simp only [List.mem_cons, List.not_mem_nil, or_false] at hv
  rcases hv with rfl | rfl | rfl | rfl | rfl | rfl | rfl | rfl <;> rfl

theorem pt_at {w : World} {ao : Option Addr} {len cap : Nat} {l : List PT} (h : GRow ptF w ao len cap l) (i : Nat) (hi : i < len) : ∃ (x : PT) (b off : Nat), l[i]? = some x ∧ ao = some ⟨b, off, none⟩ ∧
  w.cell? ⟨b, off + i * 8, none⟩ = some (.bool x.up) ∧ w.cell? ⟨b, off + i * 8 + 1, none⟩ = some (.int .i64 x.k) ∧ w.cell? ⟨b, off + i * 8 + 2, none⟩ = some (.bool x.has) ∧
  w.cell? ⟨b, off + i * 8 + 3, none⟩ = some (.int .i64 x.v.r) ∧ w.cell? ⟨b, off + i * 8 + 4, none⟩ = some (.int .i64 x.v.c) ∧ w.cell? ⟨b, off + i * 8 + 5, none⟩ = some (.int .i64 x.v.h) ∧ w.cell? ⟨b, off + i * 8 + 6, none⟩ = some (.int .i64 x.v.b) ∧ w.cell? ⟨b, off + i * 8 + 7, none⟩ = some (.int .i64 x.v.p) := by
 obtain ⟨x, b, off, hx, ha, hc⟩ := h.at i hi
 exact ⟨x, b, off, hx, ha, hc 0 _ rfl, hc 1 _ rfl, hc 2 _ rfl, hc 3 _ rfl, hc 4 _ rfl, hc 5 _ rfl, hc 6 _ rfl, hc 7 _ rfl⟩

def zeroVc (v : VD) : Bool := v.r == 0 && (v.c == 0 && (v.h == 0 && (v.b == 0 && v.p == 0)))
def okVd (v : VD) : Bool := okVc v.r v.c v.h v.b v.p
def ptOk (x : PT) : Bool := (decide (1 ≤ x.k) && decide (x.k ≤ 1000)) && ((x.up || !x.has) && (if x.has then okVd x.v else zeroVc x.v))

def stepV (v : VD) (k : Int) : VD := ⟨v.r, v.c + k, v.h + 1, v.b, v.p⟩
def stepsV (v : VD) (k : Int) : Bool := stepOk v.r v.c v.h v.b v.p k
def lessV (u v : VD) : Bool := lessVc u.r u.c u.b u.p v.r v.c v.b v.p

def offers (id : Int) (x : PT) : Bool := x.up && (x.has && (stepsV x.v x.k && decide (x.v.r < id)))

def bestStep (id : Int) (s : Option (VD × Nat)) (i : Nat) (x : PT) : Option (VD × Nat) :=
 if offers id x = true then
  match s with
  | none => some (stepV x.v x.k, i)
  | some (f, j) => if lessV (stepV x.v x.k) f = true then some (stepV x.v x.k, i) else some (f, j)
 else s
def bestTo (id : Int) (l : List PT) : Nat → Option (VD × Nat)
 | 0 => none
 | k + 1 => match l[k]? with
  | some x => bestStep id (bestTo id l k) k x
  | none => bestTo id l k
def bestOf (id : Int) (l : List PT) : Option (VD × Nat) := bestTo id l l.length

def bestV (id : Int) : Option (VD × Nat) → VD
 | none => ⟨id, 0, 0, id, 0⟩
 | some (f, _) => ⟨f.r, f.c, f.h, id, 0⟩
def bestP : Option (VD × Nat) → Int
 | none => -1
 | some (_, j) => (j : Int)
def fromV : Option (VD × Nat) → VD
 | none => ⟨0, 0, 0, 0, 0⟩
 | some (f, _) => f

theorem bestTo_next {id : Int} {l : List PT} {k : Nat} {x : PT} (h : l[k]? = some x) : bestTo id l (k + 1) = bestStep id (bestTo id l k) k x := by
 rw [bestTo, h]

theorem bestStep_no {id : Int} {s : Option (VD × Nat)} {i : Nat} {x : PT} (h : offers id x = false) : bestStep id s i x = s := by
 unfold bestStep
 rw [if_neg (by simp [h])]

def sayV (id : Int) (l : List PT) (port : Int) : VD := ⟨(bestV id (bestOf id l)).r, (bestV id (bestOf id l)).c, (bestV id (bestOf id l)).h, id, port⟩

def roleAt (id : Int) (l : List PT) (i : Nat) (x : PT) : Int :=
 if x.up = false then 4
 else if bestP (bestOf id l) = (i : Int) then 1
 else if (!x.has || lessV (sayV id l i) x.v) = true then 2
 else 3
def roleOf (id : Int) (l : List PT) (port : Int) : Int :=
 if (decide (0 ≤ port) && decide (port ≤ (l.length : Int) - 1)) = true then
  match l[port.toNat]? with
  | some x => roleAt id l port.toNat x
  | none => 4
 else 4

def sendsTo (id : Int) (l : List PT) : Nat → Int
 | 0 => 0
 | k + 1 => if roleOf id l (k : Int) ≤ 2 then bits .or .i64 (sendsTo id l k) (2 ^ k) else sendsTo id l k
def sendsOf (id : Int) (l : List PT) : Int := sendsTo id l (min l.length 6)

structure FE where
 t : Int
 m : Int
 p : Int
 a : Int
 s : Bool

def entOk (e : FE) : Bool :=
 (decide (1 ≤ e.t) && decide (e.t ≤ 99)) && ((decide (1 ≤ e.m) && decide (e.m ≤ 9999)) && ((decide (0 ≤ e.p) && decide (e.p ≤ 7)) && ((decide (0 ≤ e.a) && decide (e.a ≤ 4)) && (!e.s || (e.a == 0)))))

theorem entOk_iff (e : FE) : entOk e = true ↔ (1 ≤ e.t ∧ e.t ≤ 99) ∧ (1 ≤ e.m ∧ e.m ≤ 9999) ∧ (0 ≤ e.p ∧ e.p ≤ 7) ∧ (0 ≤ e.a ∧ e.a ≤ 4) ∧ (e.s = true → e.a = 0) := by
 unfold entOk
 cases e.s <;> simp

def ahead (e : FE) (t m : Int) : Bool := if (e.t != t) = true then decide (e.t < t) else decide (e.m < m)

def both (e : FE) (t m : Int) : Bool := (e.t == t) && (e.m == m)

theorem both_iff {e : FE} {t m : Int} : both e t m = true ↔ e.t = t ∧ e.m = m := by simp [both]
theorem both_not {e : FE} {t m : Int} : both e t m = false ↔ ¬ (e.t = t ∧ e.m = m) := by
 rw [← both_iff]; simp

theorem ahead_iff {e : FE} {t m : Int} : ahead e t m = true ↔ e.t < t ∨ (e.t = t ∧ e.m < m) := by
 unfold ahead
 by_cases h : e.t = t
 ·simp [h]
 ·simp [h]
theorem ahead_not {e : FE} {t m : Int} : ahead e t m = false ↔ ¬ (e.t < t ∨ (e.t = t ∧ e.m < m)) := by
 rw [← ahead_iff]; simp

def rises : List FE → Bool
 | [] => true
 | [e] => entOk e
 | e :: f :: r => entOk e && (ahead e f.t f.m && rises (f :: r))

def fdbOk (l : List FE) : Bool := rises l && decide ((l.length : Int) ≤ 12)

def Sorted (l : List FE) : Prop := (∀ e ∈ l, entOk e = true) ∧ l.Pairwise (fun e f => ahead e f.t f.m = true)

theorem ahead_trans {e f g : FE} (h1 : ahead e f.t f.m = true) (h2 : ahead f g.t g.m = true) : ahead e g.t g.m = true := by
 rw [ahead_iff] at *
 omega

theorem rises_sorted : ∀ (l : List FE), rises l = true ↔ Sorted l
 | [] => by simp [rises, Sorted]
 | [e] => by simp [rises, Sorted]
 | e :: f :: r => by
  have ih := rises_sorted (f :: r)
  unfold rises
  simp only [Bool.and_eq_true, ih]
  constructor
  ·rintro ⟨h1, h2, h3, h4⟩
   refine ⟨?_, ?_⟩
   ·intro x hx
    rcases List.mem_cons.1 hx with rfl | hx
    ·exact h1
    ·exact h3 x hx
   ·refine List.pairwise_cons.2 ⟨?_, h4⟩
    intro x hx
    rcases List.mem_cons.1 hx with rfl | hx
    ·exact h2
    ·exact ahead_trans h2 ((List.pairwise_cons.1 h4).1 x hx)
  ·rintro ⟨h1, h2⟩
   obtain ⟨h3, h4⟩ := List.pairwise_cons.1 h2
   exact ⟨h1 e (by simp), h3 f (by simp), fun x hx => h1 x (List.mem_cons_of_mem _ hx), h4⟩

theorem fdbOk_iff (l : List FE) : fdbOk l = true ↔ Sorted l ∧ l.length ≤ 12 := by
 unfold fdbOk
 rw [Bool.and_eq_true, rises_sorted, decide_eq_true_eq]
 constructor <;> rintro ⟨h1, h2⟩ <;> exact ⟨h1, by omega⟩

theorem sorted_tail {e : FE} {l : List FE} (h : Sorted (e :: l)) : Sorted l := ⟨fun x hx => h.1 x (List.mem_cons_of_mem _ hx), (List.pairwise_cons.1 h.2).2⟩
theorem sorted_head {e : FE} {l : List FE} (h : Sorted (e :: l)) : entOk e = true ∧ ∀ x ∈ l, ahead e x.t x.m = true := ⟨h.1 e (by simp), (List.pairwise_cons.1 h.2).1⟩

def lookE (l : List FE) (t m : Int) : Option FE := l.find? (fun e => both e t m)

def lookUp (l : List FE) (t m : Int) : Int :=
 match lookE l t m with
 | some e => e.p
 | none => -1

theorem look_mem {l : List FE} (h : Sorted l) {e : FE} (he : e ∈ l) : lookE l e.t e.m = some e := by
 induction l with
 | nil => cases he
 | cons x r ih =>
  obtain ⟨_, hx⟩ := sorted_head h
  unfold lookE
  rw [List.find?_cons]
  rcases List.mem_cons.1 he with rfl | he
  ·rw [both_iff.2 ⟨rfl, rfl⟩]
  ·have := hx e he
   rw [ahead_iff] at this
   rw [both_not.2 (by omega)]
   exact ih (sorted_tail h) he

theorem look_some {l : List FE} {t m : Int} {e : FE} (h : lookE l t m = some e) : e ∈ l ∧ e.t = t ∧ e.m = m :=
 ⟨List.mem_of_find?_eq_some h, both_iff.1 (List.find?_some (p := fun e => both e t m) h)⟩

theorem look_none {l : List FE} {t m : Int} : lookE l t m = none ↔ ∀ e ∈ l, ¬ (e.t = t ∧ e.m = m) := by
 unfold lookE
 rw [List.find?_eq_none]
 constructor
 ·intro h e he hb
  exact h e he (both_iff.2 hb)
 ·intro h e he hb
  exact h e he (both_iff.1 hb)

def putGo (e : FE) : Bool → List FE → List FE
 | d, [] => if d = true then [] else [e]
 | d, x :: r =>
  if (!d && !ahead x e.t e.m) = true then e :: (if both x e.t e.m = true then putGo e true r else x :: putGo e true r)
  else if both x e.t e.m = true then putGo e d r else x :: putGo e d r

def putF8 (e : FE) (l : List FE) : List FE := putGo e false l

theorem putGo_behind {e : FE} {l : List FE} (h : ∀ x ∈ l, ahead e x.t x.m = true) : putGo e true l = l := by
 induction l with
 | nil => rfl
 | cons x r ih =>
  unfold putGo
  have hx := h x (by simp)
  rw [ahead_iff] at hx
  rw [both_not.2 (by omega)]
  simp [ih (fun y hy => h y (List.mem_cons_of_mem _ hy))]

def insF (e : FE) : List FE → List FE
 | [] => [e]
 | x :: r => if ahead x e.t e.m = true then x :: insF e r else if both x e.t e.m = true then e :: r else e :: x :: r

theorem putF8_sorted {e : FE} {l : List FE} (h : Sorted l) : putF8 e l = insF e l := by
 unfold putF8
 induction l with
 | nil => rfl
 | cons x r ih =>
  obtain ⟨_, hx⟩ := sorted_head h
  unfold putGo insF
  cases ha : ahead x e.t e.m
  ·have hb : ∀ y ∈ r, ahead e y.t y.m = true := by
    intro y hy
    have := hx y hy
    rw [ahead_iff] at *
    rw [ahead_not] at ha
    omega
   rw [putGo_behind hb]
   simp
   split <;> rfl
  ·have ha' := ha
   rw [ahead_iff] at ha'
   rw [both_not.2 (by omega)]
   simp [ih (sorted_tail h)]

theorem mem_insF {e : FE} {l : List FE} (h : Sorted l) {x : FE} : x ∈ insF e l ↔ x = e ∨ (x ∈ l ∧ ¬ (x.t = e.t ∧ x.m = e.m)) := by
 induction l with
 | nil => simp [insF]
 | cons y r ih =>
  obtain ⟨_, hy⟩ := sorted_head h
  unfold insF
  cases ha : ahead y e.t e.m
  ·have hr : ∀ z ∈ r, ¬ (z.t = e.t ∧ z.m = e.m) := by
    intro z hz
    have := hy z hz
    rw [ahead_iff] at this
    rw [ahead_not] at ha
    omega
   cases hb : both y e.t e.m
   ·rw [both_not] at hb
    simp only [Bool.false_eq_true, if_false, List.mem_cons]
    constructor
    ·rintro (rfl | rfl | hx)
     ·exact .inl rfl
     ·exact .inr ⟨.inl rfl, hb⟩
     ·exact .inr ⟨.inr hx, hr x hx⟩
    ·rintro (rfl | ⟨rfl | hx, _⟩)
     ·exact .inl rfl
     ·exact .inr (.inl rfl)
     ·exact .inr (.inr hx)
   ·rw [both_iff] at hb
    simp only [Bool.false_eq_true, if_false, if_true, List.mem_cons]
    constructor
    ·rintro (rfl | hx)
     ·exact .inl rfl
     ·exact .inr ⟨.inr hx, hr x hx⟩
    ·rintro (rfl | ⟨rfl | hx, hn⟩)
     ·exact .inl rfl
     ·exact absurd hb hn
     ·exact .inr hx
  ·simp only [if_true, List.mem_cons, ih (sorted_tail h)]
   have hb : ¬ (y.t = e.t ∧ y.m = e.m) := by rw [ahead_iff] at ha; omega
   constructor
   ·rintro (rfl | rfl | ⟨hx, hn⟩)
    ·exact .inr ⟨.inl rfl, hb⟩
    ·exact .inl rfl
    ·exact .inr ⟨.inr hx, hn⟩
   ·rintro (rfl | ⟨rfl | hx, hn⟩)
    ·exact .inr (.inl rfl)
    ·exact .inl rfl
    ·exact .inr (.inr ⟨hx, hn⟩)

theorem sorted_insF {e : FE} (he : entOk e = true) {l : List FE} (h : Sorted l) : Sorted (insF e l) := by
 refine ⟨?_, ?_⟩
 ·intro x hx
  rcases (mem_insF h).1 hx with rfl | ⟨hx, _⟩
  ·exact he
  ·exact h.1 x hx
 ·induction l with
  | nil => simp [insF]
  | cons y r ih =>
   obtain ⟨_, hy⟩ := sorted_head h
   unfold insF
   cases ha : ahead y e.t e.m
   ·have hr : ∀ z ∈ r, ahead e z.t z.m = true := by
     intro z hz
     have := hy z hz
     rw [ahead_iff] at *
     rw [ahead_not] at ha
     omega
    cases hb : both y e.t e.m
    ·simp only [Bool.false_eq_true, if_false]
     refine List.pairwise_cons.2 ⟨?_, h.2⟩
     intro z hz
     rcases List.mem_cons.1 hz with rfl | hz
     ·rw [ahead_not] at ha
      rw [both_not] at hb
      rw [ahead_iff]
      omega
     ·exact hr z hz
    ·simp only [Bool.false_eq_true, if_false, if_true]
     exact List.pairwise_cons.2 ⟨hr, (List.pairwise_cons.1 h.2).2⟩
   ·simp only [if_true]
    refine List.pairwise_cons.2 ⟨?_, ih (sorted_tail h)⟩
    intro z hz
    rcases (mem_insF (sorted_tail h)).1 hz with rfl | ⟨hz, _⟩
    ·exact ha
    ·exact hy z hz

theorem length_insF {e : FE} {l : List FE} (h : Sorted l) : (insF e l).length = if (lookE l e.t e.m).isSome = true then l.length else l.length + 1 := by
 induction l with
 | nil => rfl
 | cons y r ih =>
  obtain ⟨_, hy⟩ := sorted_head h
  unfold insF lookE
  rw [List.find?_cons]
  cases ha : ahead y e.t e.m
  ·cases hb : both y e.t e.m
   ·have hr : lookE r e.t e.m = none := look_none.2 (by
     intro z hz
     have := hy z hz
     rw [ahead_iff] at this
     rw [ahead_not] at ha
     omega)
    unfold lookE at hr
    simp [hr]
   ·simp
  ·have hb : both y e.t e.m = false := both_not.2 (by rw [ahead_iff] at ha; omega)
   rw [hb]
   have ih := ih (sorted_tail h)
   unfold lookE at ih
   simp only [if_true, List.length_cons, ih]
   split <;> rfl

def atF (l : List FE) (t m : Int) : Int :=
 match l.findIdx? (fun e => both e t m) with
 | some i => i
 | none => -1

def canLearn (l : List FE) (t m p : Int) : Bool :=
 fdbOk l && (entOk ⟨t, m, p, 0, false⟩ && (match lookE l t m with | some e => !e.s | none => decide (l.length < 12)))
def learnF (l : List FE) (t m p : Int) : List FE := if canLearn l t m p = true then putF8 ⟨t, m, p, 0, false⟩ l else l

def ageE (e : FE) : Option FE := if e.s = true then some e else if e.a < 4 then some ⟨e.t, e.m, e.p, e.a + 1, e.s⟩ else none
def ageF (l : List FE) : List FE := l.filterMap ageE

def flushF (l : List FE) (p : Int) : List FE := l.filter (fun e => e.s || (e.p != p))

def canSet (l : List FE) (t m p : Int) : Bool :=
 fdbOk l && (entOk ⟨t, m, p, 0, true⟩ && ((lookE l t m).isSome || decide (l.length < 12)))
def setF (l : List FE) (t m p : Int) : List FE := if canSet l t m p = true then putF8 ⟨t, m, p, 0, true⟩ l else l

def dropF : List FE → Int → Int → List FE
 | [], _, _ => []
 | e :: r, t, m => if (e.s && both e t m) = true then r else e :: dropF r t m
def canDrop (l : List FE) (t m : Int) : Bool := l.any (fun e => e.s && both e t m)

theorem learn_ok {l : List FE} (h : fdbOk l = true) (t m p : Int) : fdbOk (learnF l t m p) = true := by
 unfold learnF
 split
 ·rename_i hc
  unfold canLearn at hc
  simp only [Bool.and_eq_true] at hc
  obtain ⟨_, he, hm⟩ := hc
  obtain ⟨hs, hl⟩ := (fdbOk_iff l).1 h
  rw [putF8_sorted hs, fdbOk_iff]
  refine ⟨sorted_insF he hs, ?_⟩
  rw [length_insF hs]
  cases hk : lookE l t m with
  | some e => simp [hl]
  | none =>
   rw [hk] at hm
   simp at hm
   simp
   omega
 ·exact h

theorem drop_sub : ∀ (l : List FE) (t m : Int), (dropF l t m).Sublist l
 | [], _, _ => by simp [dropF]
 | e :: r, t, m => by
  unfold dropF
  split
  ·exact List.sublist_cons_self e r
  ·exact (drop_sub r t m).cons_cons e

section
open Go.RowKit

def fentF : Flat FE where
 k := 5
 cs := fun e => [.int .i64 e.t, .int .i64 e.m, .int .i64 e.p, .int .i64 e.a, .bool e.s]
 len := fun _ => rfl
 pos := by decide
 one := fun _ v hv => by
  simp only [List.mem_cons, List.not_mem_nil, or_false] at hv
  rcases hv with rfl | rfl | rfl | rfl | rfl <;> rfl

theorem wf_i64 {n : Int} (h : (Lit.int .i64 n).wf = true) : -9223372036854775808 ≤ n ∧ n ≤ 9223372036854775807 := by
 simp [Lit.wf, IntKind.min, IntKind.max, IntKind.bits, IntKind.signed] at h
 omega

def FE.Rng (e : FE) : Prop := (-9223372036854775808 ≤ e.t ∧ e.t ≤ 9223372036854775807) ∧ (-9223372036854775808 ≤ e.m ∧ e.m ≤ 9223372036854775807) ∧ (-9223372036854775808 ≤ e.p ∧ e.p ≤ 9223372036854775807) ∧ (-9223372036854775808 ≤ e.a ∧ e.a ≤ 9223372036854775807)

theorem fent_at {w : World} {ao : Option Addr} {len cap : Nat} {l : List FE} (h : GRow fentF w ao len cap l) (i : Nat) (hi : i < len) : ∃ (x : FE) (b off : Nat), l[i]? = some x ∧ ao = some ⟨b, off, none⟩ ∧
  w.cell? ⟨b, off + i * 5, none⟩ = some (.int .i64 x.t) ∧ w.cell? ⟨b, off + i * 5 + 1, none⟩ = some (.int .i64 x.m) ∧ w.cell? ⟨b, off + i * 5 + 2, none⟩ = some (.int .i64 x.p) ∧ w.cell? ⟨b, off + i * 5 + 3, none⟩ = some (.int .i64 x.a) ∧ w.cell? ⟨b, off + i * 5 + 4, none⟩ = some (.bool x.s) := by
 obtain ⟨x, b, off, hx, ha, hc⟩ := h.at i hi
 exact ⟨x, b, off, hx, ha, hc 0 _ rfl, hc 1 _ rfl, hc 2 _ rfl, hc 3 _ rfl, hc 4 _ rfl⟩

section
open Go.ChangeShapes Go.WideShapes Go.ChangeAt
variable {H : Type} {enc : TypeId × Value → H} {P : Program} {w : World}

theorem fent_trod {tp ti tb : TypeId} {g0 g1 g2 g3 g4 : Field} (hs : P.underlying tp = some (.struct #[g0, g1, g2, g3, g4])) (hi : P.underlying ti = some (.int .i64)) (hb : P.underlying tb = some .bool)
  (e0 : g0.type = ti ∧ g0.offset = 0) (e1 : g1.type = ti ∧ g1.offset = 1) (e2 : g2.type = ti ∧ g2.offset = 2) (e3 : g3.type = ti ∧ g3.offset = 3) (e4 : g4.type = tb ∧ g4.offset = 4) (hC : P.cellsOf tp = 5) (hti : P.cellsOf ti = 1) (htb : P.cellsOf tb = 1)
  {fuel : Nat} {cs : List Value} {x : DataW H × List MemPlace} (h : DataW.trod enc P w 0 (fun _ => true) true fuel tp cs = some x) : ∃ y, cs = fentF.cs y ∧ y.Rng := by
 obtain ⟨xs, n, _, _, hlen, hxl, hq⟩ := DataW.trod_struct hs h
 rw [hC] at hlen
 match xs, hxl, cs, hlen with
 | [y0, y1, y2, y3, y4], _, [v0, v1, v2, v3, v4], _ =>
  have k0 := hq 0 g0 rfl
  have k1 := hq 1 g1 rfl
  have k2 := hq 2 g2 rfl
  have k3 := hq 3 g3 rfl
  have k4 := hq 4 g4 rfl
  rw [e0.1, e0.2, hti] at k0
  rw [e1.1, e1.2, hti] at k1
  rw [e2.1, e2.2, hti] at k2
  rw [e3.1, e3.2, hti] at k3
  rw [e4.1, e4.2, htb] at k4
  simp at k0 k1 k2 k3 k4
  obtain ⟨T, i0, -, r0⟩ := DataW.trod_int hi k0
  obtain ⟨M, i1, -, r1⟩ := DataW.trod_int hi k1
  obtain ⟨P', i2, -, r2⟩ := DataW.trod_int hi k2
  obtain ⟨A, i3, -, r3⟩ := DataW.trod_int hi k3
  obtain ⟨S, i4, -⟩ := DataW.trod_bool hb k4
  simp only [List.cons.injEq, and_true] at i0 i1 i2 i3 i4
  subst i0 i1 i2 i3 i4
  exact ⟨⟨T, M, P', A, S⟩, rfl, wf_i64 r0, wf_i64 r1, wf_i64 r2, wf_i64 r3⟩
end

end

end Go.Proofs.YtddalpglihhipaaGreat
