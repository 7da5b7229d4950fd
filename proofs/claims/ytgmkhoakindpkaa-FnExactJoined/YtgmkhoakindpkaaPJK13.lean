/-
  Packed: NetOwn NetOwnA ToNetO NetMark NetMarkG NetMarkN NetMarkM.
-/
import Derived.Test.YtgmkhoakindpkaaPJK01
import Derived.Test.YtgmkhoakindpkaaPJK03
import Derived.Test.YtgmkhoakindpkaaPJK11
import Derived.Test.YtgmkhoakindpkaaPJMarkText
import Derived.Deep.RegionHeld3
namespace Go.Proofs.Ytgmkhoakindpkaa
open Go.RowKit

def BV.blks (x : BV) : List Nat := blkL x.a ++ (blkL x.fa ++ (blkL x.ra ++ blkL x.oa))

theorem mem_blks {x : BV} {b : Nat} : b ∈ x.blks ↔ b ∈ blkL x.a ∨ b ∈ blkL x.fa ∨ b ∈ blkL x.ra ∨ b ∈ blkL x.oa := by
 unfold BV.blks; simp [List.mem_append]

theorem BV.Own.blk {w : World} {base : Nat} {x : BV} (h : x.Own w base) : ∀ b ∈ x.blks, base ≤ b ∧ b < w.heap.size := by
 intro b hb
 rcases mem_blks.1 hb with hb | hb | hb | hb
 ·exact h.ports.lt b (mem_blkL.2 hb)
 ·exact h.f.lt b (mem_blkL.2 hb)
 ·exact h.v.rows.lt b (mem_blkL.2 hb)
 ·exact h.v.own.lt b (mem_blkL.2 hb)

theorem BV.Own.only {bs : List Nat} {w w' : World} {base : Nat} {x : BV} (h : x.Own w base) (ho : Only bs w w') (hn : ∀ b ∈ x.blks, b ∉ bs) : x.Own w' base :=
 ⟨ho.own h.ports (fun k hk => hn k (mem_blks.2 (.inl (mem_blkL.1 hk)))), ho.own h.f (fun k hk => hn k (mem_blks.2 (.inr (.inl (mem_blkL.1 hk))))),
  ⟨ho.own h.v.rows (fun k hk => hn k (mem_blks.2 (.inr (.inr (.inl (mem_blkL.1 hk)))))), ho.own h.v.own (fun k hk => hn k (mem_blks.2 (.inr (.inr (.inr (mem_blkL.1 hk)))))), h.v.i64⟩⟩

theorem blkL_nodup (a : Option Addr) : (blkL a).Nodup := by cases a <;> simp [blkL]

theorem BV.Own.nd {w : World} {base : Nat} {x : BV} (h : x.Own w base) : x.blks.Nodup := by
 unfold BV.blks
 have d : ∀ {e e' : TypeId} {s s' n n' m m' c c' : Nat} {a a' : Option Addr} {xs xs' : List Value}, w.ownsRow base e s (.slice a n c) m xs → w.ownsRow base e' s' (.slice a' n' c') m' xs' → e ≠ e' → ∀ b ∈ blkL a, b ∉ blkL a' := fun h h' hne b hb hc => apart_type h h' hne (mem_blkL.2 hb) (mem_blkL.2 hc)
 have h12 := d h.ports h.f (by decide)
 have h13 := d h.ports h.v.rows (by decide)
 have h14 := d h.ports h.v.own (by decide)
 have h23 := d h.f h.v.rows (by decide)
 have h24 := d h.f h.v.own (by decide)
 have h34 := d h.v.rows h.v.own (by decide)
 refine List.nodup_append.2 ⟨blkL_nodup _, List.nodup_append.2 ⟨blkL_nodup _, List.nodup_append.2 ⟨blkL_nodup _, blkL_nodup _, ?_⟩, ?_⟩, ?_⟩
 ·intro a ha b hb e; subst e; exact h34 a ha hb
 ·intro a ha b hb e; subst e
  rcases List.mem_append.1 hb with hb | hb
  ·exact h23 a ha hb
  ·exact h24 a ha hb
 ·intro a ha b hb e; subst e
  rcases List.mem_append.1 hb with hb | hb
  ·exact h12 a ha hb
  ·rcases List.mem_append.1 hb with hb | hb
   ·exact h13 a ha hb
   ·exact h14 a ha hb

structure BOs (w : World) (base : Nat) (ao : Option Addr) (n cap : Nat) (l : List BV) : Prop where
 row : w.ownsRow base 98 11 (.slice ao n cap) n (brF.all l)
 item : ∀ x ∈ l, x.Own w base
 apart : (l.flatMap BV.blks).Nodup

def allB (ao : Option Addr) (l : List BV) : List Nat := blkL ao ++ l.flatMap BV.blks

theorem BOs.grow {w : World} {base : Nat} {ao : Option Addr} {n cap : Nat} {l : List BV} (h : BOs w base ao n cap l) : GRow brF w ao n cap l := grow_own (F := brF) h.row
theorem BOs.below {w w' : World} {base : Nat} {ao : Option Addr} {n cap : Nat} {l : List BV} (h : BOs w base ao n cap l) (hb : Below w.heap.size w w') : BOs w' base ao n cap l :=
 ⟨own5_below h.row hb, fun x hx => (h.item x hx).below hb, h.apart⟩
theorem BOs.lt {w : World} {base base' : Nat} {ao : Option Addr} {n cap : Nat} {l : List BV} (h : BOs w base ao n cap l) (hb : base' ≤ base) : BOs w base' ao n cap l :=
 ⟨own5_lt h.row hb, fun x hx => (h.item x hx).lt hb, h.apart⟩
theorem BOs.only {bs : List Nat} {w w' : World} {base : Nat} {ao : Option Addr} {n cap : Nat} {l : List BV} (h : BOs w base ao n cap l) (ho : Only bs w w') (hn : ∀ b ∈ allB ao l, b ∉ bs) : BOs w' base ao n cap l :=
 ⟨ho.own h.row (fun k hk => hn k (List.mem_append_left _ (mem_blkL.1 hk))), fun x hx => (h.item x hx).only ho (fun b hb => hn b (List.mem_append_right _ (List.mem_flatMap.2 ⟨x, hx, hb⟩))), h.apart⟩
theorem BOs.blk {w : World} {base : Nat} {ao : Option Addr} {n cap : Nat} {l : List BV} (h : BOs w base ao n cap l) : ∀ b ∈ allB ao l, base ≤ b ∧ b < w.heap.size := by
 intro b hb
 rcases List.mem_append.1 hb with hb | hb
 ·exact h.row.lt b (mem_blkL.2 hb)
 ·obtain ⟨x, hx, hb⟩ := List.mem_flatMap.1 hb
  exact (h.item x hx).blk b hb

theorem BV.Own.row_apart {w : World} {base base' : Nat} {ao : Option Addr} {n cap : Nat} {xs : List Value} (hr : w.ownsRow base' 98 11 (.slice ao n cap) n xs) {x : BV} (h : x.Own w base) : ∀ b ∈ x.blks, b ∉ blkL ao := by
 intro b hb hc
 rcases mem_blks.1 hb with hb | hb | hb | hb
 ·exact apart_type h.ports hr (by decide) (mem_blkL.2 hb) (mem_blkL.2 hc)
 ·exact apart_type h.f hr (by decide) (mem_blkL.2 hb) (mem_blkL.2 hc)
 ·exact apart_type h.v.rows hr (by decide) (mem_blkL.2 hb) (mem_blkL.2 hc)
 ·exact apart_type h.v.own hr (by decide) (mem_blkL.2 hb) (mem_blkL.2 hc)

theorem bapart_mid {pre post : List BV} {x : BV} (h : ((pre ++ x :: post).flatMap BV.blks).Nodup) : ∀ y, y ∈ pre ∨ y ∈ post → ∀ b ∈ y.blks, b ∉ x.blks := by
 rw [List.flatMap_append, List.flatMap_cons] at h
 obtain ⟨h1, h2, h3⟩ := List.nodup_append.1 h
 obtain ⟨h4, h5, h6⟩ := List.nodup_append.1 h2
 intro y hy b hb hx
 rcases hy with hy | hy
 ·exact h3 b (List.mem_flatMap.2 ⟨y, hy, hb⟩) b (List.mem_append_left _ hx) rfl
 ·exact h6 b hx b (List.mem_flatMap.2 ⟨y, hy, hb⟩) rfl

theorem mem_mid {pre post : List BV} {x y : BV} (h : y ∈ pre ∨ y ∈ post) : y ∈ pre ++ x :: post := by
 rcases h with h | h
 ·exact List.mem_append_left _ h
 ·exact List.mem_append_right _ (List.mem_cons_of_mem _ h)

theorem BOs.turn {bs : List Nat} {w w' : World} {base : Nat} {ao : Option Addr} {n cap : Nat} {pre post : List BV} {x x' : BV} (h : BOs w base ao n cap (pre ++ x :: post)) (hb : ∀ y, y ∈ pre ∨ y ∈ post → ∀ b ∈ y.blks, b ∉ x'.blks) (ho : Only bs w w') (hs : ∀ b ∈ bs, b ∈ x.blks ∨ b ∈ blkL ao)
  (hr : w'.ownsRow base 98 11 (.slice ao n cap) n (brF.all (pre ++ x' :: post))) (hx : x'.Own w' base) : BOs w' base ao n cap (pre ++ x' :: post) where
 row := hr
 item := by
  intro y hy
  have hm := bapart_mid h.apart
  have keep : (y ∈ pre ∨ y ∈ post) → y.Own w' base := fun hy => (h.item y (mem_mid hy)).only ho (fun b hb hbs => by
   rcases hs b hbs with h1 | h1
   ·exact hm y hy b hb h1
   ·exact BV.Own.row_apart h.row (h.item y (mem_mid hy)) b hb h1)
  rcases List.mem_append.1 hy with hy | hy
  ·exact keep (.inl hy)
  ·rcases List.mem_cons.1 hy with rfl | hy
   ·exact hx
   ·exact keep (.inr hy)
 apart := by
  have ha := h.apart
  rw [List.flatMap_append, List.flatMap_cons] at ha ⊢
  obtain ⟨h1, h2, h3⟩ := List.nodup_append.1 ha
  obtain ⟨-, h5, -⟩ := List.nodup_append.1 h2
  refine List.nodup_append.2 ⟨h1, List.nodup_append.2 ⟨hx.nd, h5, ?_⟩, ?_⟩
  ·intro a ha b hb' e
   subst e
   obtain ⟨z, hz, hb'⟩ := List.mem_flatMap.1 hb'
   exact hb z (.inr hz) a hb' ha
  ·intro a ha b hb' e
   subst e
   rcases List.mem_append.1 hb' with hb' | hb'
   ·obtain ⟨z, hz, ha⟩ := List.mem_flatMap.1 ha
    exact hb z (.inl hz) a ha hb'
   ·exact h3 a ha a (List.mem_append_right _ hb') rfl

theorem BOs.put {w w1 w' : World} {base g n cap : Nat} {pre post : List BV} {x y : BV} (h : BOs w base (some ⟨g, 0, none⟩) n cap (pre ++ x :: post)) (hb : Below w.heap.size w w1) (hy : y.Own w1 w.heap.size) (hbs : base ≤ w.heap.size) (hg : w1.grownBy w' (some g))
  (hr : w'.ownsRow base 98 11 (.slice (some ⟨g, 0, none⟩) n cap) n (brF.all (pre ++ y :: post))) : BOs w' base (some ⟨g, 0, none⟩) n cap (pre ++ y :: post) := by
 have O : Only [g] w1 w' := by have := Only.of_grown (ao := some ⟨g, 0, none⟩) (n := n) (c := cap) hg; simpa [blkL] using this
 have hgl : g < w.heap.size := (h.row.lt g rfl).2
 refine (h.below hb).turn (bs := [g]) ?_ O (fun b hb' => .inr (by simpa [blkL] using hb')) hr ((hy.only O (fun b hb' hc => by have := (hy.blk b hb').1; simp at hc; omega)).lt hbs)
 intro z hz b hb1 hb2
 have h1 := ((h.item z (mem_mid hz)).blk b hb1).2
 have h2 := (hy.blk b hb2).1
 omega

theorem BOs.push {w w1 w' : World} {base : Nat} {ao ao' : Option Addr} {n cap cap' : Nat} {l : List BV} {y : BV} (h : BOs w base ao n cap l) (hb : Below w.heap.size w w1) (hy : y.Own w1 w.heap.size) (hbs : base ≤ w.heap.size) (hg : w1.grownBy w' (Value.slice ao n cap).ownBlock)
  (hr : w'.ownsRow base 98 11 (.slice ao' (n + 1) cap') (n + 1) (brF.all (l ++ [y]))) : BOs w' base ao' (n + 1) cap' (l ++ [y]) := by
 have O := Only.of_grown hg
 have hk := h.below hb
 have hlt := h.row.lt
 refine ⟨hr, ?_, ?_⟩
 ·intro z hz
  rcases List.mem_append.1 hz with hz | hz
  ·exact (hk.item z hz).only O (BV.Own.row_apart hk.row (hk.item z hz))
  ·rw [List.mem_singleton.1 hz]
   exact (hy.only O (fun b hb' hc => by have h1 := (hy.blk b hb').1; have h2 := (hlt b (mem_blkL.2 hc)).2; omega)).lt hbs
 ·rw [List.flatMap_append]
  refine List.nodup_append.2 ⟨h.apart, by simpa using hy.nd, ?_⟩
  intro a ha b hb' e
  subst e
  obtain ⟨z, hz, ha⟩ := List.mem_flatMap.1 ha
  have h1 := ((h.item z hz).blk a ha).2
  have h2 := (hy.blk a (by simpa using hb')).1
  omega

structure NetOwn (w : World) (base : Nat) (M : NV) : Prop where
 b : BOs w base M.ba M.bn M.bc M.bs
 l : w.ownsRow base 57 4 (.slice M.la M.ln M.lc) M.ln (linkF.all M.ls)
 s : M.sa = none ∧ M.sn = 0 ∧ M.sc = 0 ∧ M.ss = []

theorem NetOwn.row {w : World} {base : Nat} {M : NV} (h : NetOwn w base M) : NetRow w M :=
 ⟨h.b.grow, fun x hx => (h.b.item x hx).row, grow_own (F := linkF) h.l, by rw [h.s.1, h.s.2.1, h.s.2.2.1, h.s.2.2.2]; exact grow_nil _ _⟩
theorem NetOwn.below {w w' : World} {base : Nat} {M : NV} (h : NetOwn w base M) (hb : Below w.heap.size w w') : NetOwn w' base M := ⟨h.b.below hb, gown_below h.l hb, h.s⟩
theorem NetOwn.lt {w : World} {base base' : Nat} {M : NV} (h : NetOwn w base M) (hb : base' ≤ base) : NetOwn w base' M := ⟨h.b.lt hb, gown_lt h.l hb, h.s⟩
theorem NetOwn.apart {w w' : World} {base : Nat} {M : NV} (h : NetOwn w base M) {g : Nat} (hg : w.grownBy w' (some g)) (hlt : g < base) : NetOwn w' base M := by
 have O : Only [g] w w' := ⟨hg.os, hg.tape, hg.output, hg.size, fun k hk hn => hg.block k hk (by intro e; cases e; exact hn (by simp))⟩
 exact ⟨h.b.only O (fun b hb hc => by have := (h.b.blk b hb).1; simp at hc; omega), O.own h.l (fun k hk hc => by have := (h.l.lt k hk).1; simp at hc; omega), h.s⟩

structure NOwn (w : World) (base : Nat) (M : NV) : Prop where
 b : BOs w base M.ba M.bn M.bc M.bs
 l : w.ownsRow base 57 4 (.slice M.la M.ln M.lc) M.ln (linkF.all M.ls)
 s : w.ownsRow base 104 7 (.slice M.sa M.sn M.sc) M.sn (sayF.all M.ss)

theorem NetOwn.all {w : World} {base : Nat} {M : NV} (h : NetOwn w base M) : NOwn w base M :=
 ⟨h.b, h.l, by rw [h.s.1, h.s.2.1, h.s.2.2.1, h.s.2.2.2]; exact World.ownsRow_nil _ _ _ _⟩
theorem NOwn.row {w : World} {base : Nat} {M : NV} (h : NOwn w base M) : NetRow w M :=
 ⟨h.b.grow, fun x hx => (h.b.item x hx).row, grow_own (F := linkF) h.l, grow_own (F := sayF) h.s⟩
theorem NOwn.below {w w' : World} {base : Nat} {M : NV} (h : NOwn w base M) (hb : Below w.heap.size w w') : NOwn w' base M := ⟨h.b.below hb, gown_below h.l hb, gown_below h.s hb⟩
theorem NOwn.lt {w : World} {base base' : Nat} {M : NV} (h : NOwn w base M) (hb : base' ≤ base) : NOwn w base' M := ⟨h.b.lt hb, gown_lt h.l hb, gown_lt h.s hb⟩

def HalfO (w wr : World) (l : List BV) (n k : Nat) : Prop :=
 ∃ ys : List BV, ys.length = k ∧ ys.map BV.B = (l.take k).map BV.B ∧ wr.ownsRow w.heap.size 98 11 (.slice (some ⟨w.heap.size, 0, none⟩) n n) n (brF.all (ys ++ List.replicate (n - k) BV.zero)) ∧ (∀ y ∈ ys, y.Own wr w.heap.size) ∧ (ys.flatMap BV.blks).Nodup

set_option maxRecDepth 100000 in
set_option maxHeartbeats 4000000 in
theorem toBridges_own (ao : Option Addr) (n c : Nat) (l : List BV) (w : World) (hl : GRow brF w ao n c l) (hr : ∀ x ∈ l, x.Reads w) (hs : n ≤ 1048576) (hm : ∀ x ∈ l, x.Small) :
  Calls Try.prog 25 #[.slice ao n c] w fun r w' => ∃ ao' cap ys, r = .returned (.slice ao' n cap) ∧ ys.map BV.B = l.map BV.B ∧ BOs w' w.heap.size ao' n cap ys ∧ Below w.heap.size w w' := by
 obtain ⟨i0, hi, hz0, hz1, hz2⟩ := finfo_parts brInfo
 have s1 := hl.size
 go_enter Try.func25, Try.ntmps25
 go_wp2_with (at_make; refine wpList_make_full _ rfl _ _ 29 rfl w.heap.size 98 i0 (.agg #[.int .i64 0, .string ⟨#[]⟩, .slice none 0 0, .slice none 0 0, .slice none 0 0, .slice none 0 0, .int .i64 0, .int .i64 0, .int .i64 0, .int .i64 0, .int .i64 0]) 11 Try.underlying29 hi hz0 hz1 .i64 .i64 _ _ n rfl rfl rfl rfl ?c1 ?c2 ?c3 ?_)
 case c1 => rw [hz2]; omega
 case c2 => unfold maxLen; omega
 case c3 => exact Nat.le_refl _
 intro w1 hown hgrow
 have hb1 : Below w.heap.size w w1 := (Below.refl _ _).grown hgrow (Nat.le_refl _) (by intro k hk; cases hk)
 have hown1 : HalfO w w1 l n 0 := by
  refine ⟨[], rfl, rfl, ?_, (by intro y hy; cases hy), List.nodup_nil⟩
  rw [List.nil_append, Nat.sub_zero, ← flat_made]; exact hown
 clear hown hgrow hi hz0 hz1 hz2
 go_wp2
 go_loopw [4] (fun i wr => ∃ k : Nat, k ≤ n ∧ i = .int .i64 k ∧ HalfO w wr l n k ∧ Below w.heap.size w wr) (fun i _ => n - (intOf i).toNat)
 case atStart => exact ⟨0, Nat.zero_le _, rfl, hown1, hb1⟩
 case round =>
  obtain ⟨k, hk, rfl, hh, hb⟩ := hrel
  clear hown1 hb1
  by_cases hlt : k < n
  ·obtain ⟨x, b, off, hx, rfl, ca0, ca1, ca2, ca3, ca4, ca5, ca6, ca7, ca8, ca9, ca10⟩ := br_at (hl.below hb) k hlt
   obtain ⟨ys, rfl, hyd, hyo, hyi, hap⟩ := hh
   have HAP := hide hap
   clear hap
   have hrep : List.replicate (n - ys.length) BV.zero = BV.zero :: List.replicate (n - (ys.length + 1)) BV.zero := by rw [← List.replicate_succ]; congr 1; omega
   rw [hrep] at hyo
   have hmem := List.mem_of_getElem? hx
   obtain ⟨m1, m2, m3, m4⟩ := hm x hmem
   have hrx := (hr x hmem).below hb
   have HX := hide hx
   have HB := hide hb
   have HYD := hide hyd
   have HYO := hide hyo
   have HYI := hide hyi
   clear hx hb hyd hyo hyi hrep
   go_wp2_with fail
   refine (toBridge_made x.a x.n x.c x.fa x.fn x.fc x.ra x.rn x.rc x.oa x.on x.oc x.B _ hrx m1 m2 m3 m4).mono ?_
   rintro e w2 ⟨a2, c2, fa2, fc2, ra2, rc2, oa2, oc2, rfl, ow2, hb2⟩
   generalize hy : (⟨a2, x.n, c2, fa2, x.fn, fc2, ra2, x.rn, rc2, oa2, x.on, oc2, x.B⟩ : BV) = y
   have ho2 := gown_below HYO.out hb2
   have hz : (ys ++ BV.zero :: List.replicate (n - (ys.length + 1)) BV.zero)[ys.length]? = some BV.zero := by simp
   obtain ⟨⟨t0, t1, t2, t3, t4, t5, t6, t7, t8, t9, t10⟩, f0, f1, f2, f3, f4, f5, f6, f7, f8, f9, f10⟩ := bridge_cells ho2 hz
   have hyb : y.B = x.B := by rw [← hy]
   have yo : y.Own w2 wr.heap.size := by rw [← hy]; exact ow2
   have hnd : ((ys ++ [y]).flatMap BV.blks).Nodup := by
    rw [List.flatMap_append, List.nodup_append]
    refine ⟨HAP.out, by simpa using yo.nd, ?_⟩
    intro b hb c hc e
    subst e
    obtain ⟨z, hz, hbz⟩ := List.mem_flatMap.1 hb
    have h1 := ((HYI.out z hz).blk b hbz).2
    have h2 := (yo.blk b (by simpa using hc)).1
    omega
   have HND := hide hnd
   clear hnd yo
   have o3 := bridge_put (y := y) ho2
   have g3 := bridge_puts (w := w2) (g := w.heap.size) (j := ys.length * 11) (y := y)
   obtain ⟨cs, hblk⟩ := own_block ho2
   have ow' : y.Own w2 w.heap.size := by rw [← hy]; exact ow2.lt HB.out.size
   have hb3 := gr_trans HB.out hb2
   have i3 : ∀ W, w2.grownBy W (some w.heap.size) → ∀ z ∈ ys ++ [y], z.Own W w.heap.size := by
    intro W hgW z hz
    refine BV.Own.other (T := 98) ?_ hblk (by decide) (by decide) (by decide) (by decide) hgW
    rcases List.mem_append.1 hz with hz | hz
    ·exact (HYI.out z hz).below hb2
    ·rw [List.mem_singleton.1 hz]; exact ow'
   have i3 := i3 _ g3
   have hb4 := hb3.grown g3 hb3.size (by intro j e; cases e; exact Nat.le_refl _)
   rw [← hy] at o3 i3 hb4 HND
   have HI := hide i3
   have HO3 := hide o3
   have HB3 := hide hb4
   clear ho2 hb2 hb3 hb4 o3 hz g3 hblk ow2 ow' i3 hy ca0 ca1 ca2 ca3 ca4 ca5 ca6 ca7 ca8 ca9 ca10 HYO HYI HB
   go_wp2
   go_roundw
   case rel =>
    refine ⟨ys.length + 1, by omega, by go_num, ⟨ys ++ [⟨a2, x.n, c2, fa2, x.fn, fc2, ra2, x.rn, rc2, oa2, x.on, oc2, x.B⟩], by simp, ?_, by rw [List.append_assoc]; exact HO3.out, HI.out, HND.out⟩, HB3.out⟩
    rw [List.map_append, HYD.out, List.take_add_one, HX.out]
    simp
   case measure => simp [intOf]; omega
  ·have hkn : k = n := by omega
   subst hkn
   obtain ⟨ys, hyl, hyd, hyo, hyi, hap⟩ := hh
   rw [List.take_of_length_le (by omega)] at hyd
   rw [Nat.sub_self, List.replicate_zero, List.append_nil] at hyo
   have HYD := hide hyd
   have HO := hide hyo
   have HI := hide hyi
   have HB := hide hb
   have HAP := hide hap
   clear hyd hyo hyi hb hap
   go_wp2
   go_ret
   exact ⟨_, _, ys, rfl, HYD.out, ⟨HO.out, HI.out, HAP.out⟩, HB.out⟩

set_option maxRecDepth 100000 in
set_option maxHeartbeats 4000000 in
theorem toNet_own (N : NV) (w : World) (h : NetRow w N) (hs : sizeN N ≤ 1048576) :
  Calls Try.prog 8 #[.agg #[.slice N.ba N.bn N.bc, .slice N.la N.ln N.lc, .slice N.sa N.sn N.sc]] w fun r w' => ∃ M : NV, r = .returned (.agg #[.slice M.ba M.bn M.bc, .slice M.la M.ln M.lc, .slice M.sa M.sn M.sc]) ∧ NOwn w' w.heap.size M ∧ M.Same N ∧ sizeN M = sizeN N ∧ Below w.heap.size w w' := by
 obtain ⟨z1, z2, z3, z4⟩ := net_small h hs
 go_enter Try.func8, Try.ntmps8
 go_wp2_with fail
 refine (toBridges_own N.ba N.bn N.bc N.bs _ (h.b.below (below_three _ _ _ _)) (fun x hx => (h.item x hx).below (below_three _ _ _ _)) z1 z4).mono ?_
 rintro e w1 ⟨ba, bc, bs, rfl, hB, OB, hb⟩
 have oB := OB.row
 have iB := OB.item
 have HAP := hide OB.apart
 clear OB
 obtain ⟨k0, k1, k2⟩ := kept_three hb
 have b1 : Below w.heap.size w w1 := gr_trans (below_three w _ _ _) hb
 obtain ⟨x0, x1, x2⟩ := cells3n k0
 obtain ⟨y0, y1, y2⟩ := cells3n k2
 have f0 := frozen8 k2 0
 have b2 := below_set b1 (g := w.heap.size + 1 + 1) (by omega) 0 (.slice ba N.bn bc)
 have n1 := hb.size
 simp at n1
 have oB2 := gown_apart (gown_lt oB (base' := w.heap.size + 3) (by simp)) (grown_set (rb := w.heap.size + 1 + 1) 0 (.slice ba N.bn bc)) (by intro b e; cases e; omega)
 have iB2 : ∀ y ∈ bs, y.Own _ (w.heap.size + 3) := fun y hy => ((iB y hy).lt (base' := w.heap.size + 3) (by simp)).apart (grown_set (rb := w.heap.size + 1 + 1) 0 (.slice ba N.bn bc)) (by intro b e; cases e; omega)
 have k0' := kept_set (b := w.heap.size + 1 + 1) (j := 0) (u := .slice ba N.bn bc) k0 (by omega)
 have k1' := kept_set (b := w.heap.size + 1 + 1) (j := 0) (u := .slice ba N.bn bc) k1 (by omega)
 have k2' := set_block5 (j := 0) k2 (.slice ba N.bn bc)
 clear oB iB hb k0 k1 k2
 generalize hwA : w1.setCell ⟨w.heap.size + 1 + 1, 0, none⟩ (.slice ba N.bn bc) = wA at b2 oB2 iB2 k0' k1' k2'
 clear x0 x1 x2
 obtain ⟨x0, x1, x2⟩ := cells3n k0'
 go_wp2_with fail
 refine (toLinks_made N.la N.ln N.lc N.ls _ (h.l.below b2) z2).mono ?_
 rintro e w3 ⟨la, lc, rfl, oL, hb3⟩
 have k0 := kept_block k0' hb3
 have k1 := kept_block k1' hb3
 have k2 : w3.heap[w.heap.size + 1 + 1]? = some (.cells #[.slice ba N.bn bc, .slice none 0 0, .slice none 0 0] 33) := kept_block k2' hb3
 have b3 := gr_trans b2 hb3
 have n3 := b2.size
 have n3' : w.heap.size + 3 ≤ wA.heap.size := by rw [← hwA]; simpa using n1
 have n3'' := Nat.le_trans n3' hb3.size
 have oB3 := gown_below oB2 hb3
 have iB3 : ∀ y ∈ bs, y.Own _ (w.heap.size + 3) := fun y hy => (iB2 y hy).below hb3
 have oL3 := gown_lt oL n3'
 clear hb3 k0' k1' k2' oB2 iB2 oL x0 x1 x2 y0 y1 y2 f0 hwA
 obtain ⟨y0, y1, y2⟩ := cells3n k2
 have f1 := frozen8 k2 1
 have b4 := below_set b3 (g := w.heap.size + 1 + 1) (by omega) 1 (.slice la N.ln lc)
 have oB4 := gown_apart oB3 (grown_set (rb := w.heap.size + 1 + 1) 1 (.slice la N.ln lc)) (by intro b e; cases e; omega)
 have oL4 := gown_apart oL3 (grown_set (rb := w.heap.size + 1 + 1) 1 (.slice la N.ln lc)) (by intro b e; cases e; omega)
 have iB4 : ∀ y ∈ bs, y.Own _ (w.heap.size + 3) := fun y hy => (iB3 y hy).apart (grown_set (rb := w.heap.size + 1 + 1) 1 (.slice la N.ln lc)) (by intro b e; cases e; omega)
 have k0' := kept_set (b := w.heap.size + 1 + 1) (j := 1) (u := .slice la N.ln lc) k0 (by omega)
 have k1' := kept_set (b := w.heap.size + 1 + 1) (j := 1) (u := .slice la N.ln lc) k1 (by omega)
 have k2' := set_block5 (j := 1) k2 (.slice la N.ln lc)
 have n4 : w.heap.size + 3 ≤ (w3.setCell ⟨w.heap.size + 1 + 1, 1, none⟩ (.slice la N.ln lc)).heap.size := by simpa using n3''
 clear oB3 iB3 oL3 k0 k1 k2
 generalize hwB : w3.setCell ⟨w.heap.size + 1 + 1, 1, none⟩ (.slice la N.ln lc) = wB at b4 oB4 oL4 iB4 k0' k1' k2' n4
 obtain ⟨x0, x1, x2⟩ := cells3n k0'
 go_wp2_with fail
 refine (toSays_made N.sa N.sn N.sc N.ss _ (h.s.below b4) z3).mono ?_
 rintro e w5 ⟨sa, sc, rfl, oS, hb5⟩
 have k1 := kept_block k1' hb5
 have k2 : w5.heap[w.heap.size + 1 + 1]? = some (.cells #[.slice ba N.bn bc, .slice la N.ln lc, .slice none 0 0] 33) := kept_block k2' hb5
 have b5 := gr_trans b4 hb5
 have oB5 := gown_below oB4 hb5
 have oL5 := gown_below oL4 hb5
 have oS5 := gown_lt oS n4
 have iB5 : ∀ y ∈ bs, y.Own _ (w.heap.size + 3) := fun y hy => (iB4 y hy).below hb5
 clear hb5 k0' k1' k2' oB4 oL4 iB4 oS x0 x1 x2 y0 y1 y2 f1 hwB
 obtain ⟨y0, y1, y2⟩ := cells3n k2
 obtain ⟨u0, u1, u2⟩ := cells3n k1
 have f2 := frozen8 k2 2
 have g0 := frozen8 k1 0
 have g1 := frozen8 k1 1
 have g2 := frozen8 k1 2
 have ne1 : ¬ w.heap.size + 1 = w.heap.size + 1 + 1 := by omega
 have ne2 : ¬ w.heap.size + 1 + 1 = w.heap.size + 1 := by omega
 have hst : ∀ W, w5.grownBy W (some (w.heap.size + 1 + 1)) → ∀ W', W.grownBy W' (some (w.heap.size + 1)) → NOwn W' w.heap.size ⟨ba, N.bn, bc, bs, la, N.ln, lc, N.ls, sa, N.sn, sc, N.ss⟩ := by
  intro W hg W' hg'
  have l1 : ∀ b, some (w.heap.size + 1 + 1) = some b → b < w.heap.size + 3 := by intro b e; cases e; omega
  have l2 : ∀ b, some (w.heap.size + 1) = some b → b < w.heap.size + 3 := by intro b e; cases e; omega
  exact NOwn.lt (base := w.heap.size + 3) ⟨⟨gown_apart (gown_apart oB5 hg l1) hg' l2, fun y hy => ((iB5 y hy).apart hg l1).apart hg' l2, HAP.out⟩, gown_apart (gown_apart oL5 hg l1) hg' l2, gown_apart (gown_apart oS5 hg l1) hg' l2⟩ (by omega)
 have HN := hide (hst _ (grown_set (rb := w.heap.size + 1 + 1) 2 (.slice sa N.sn sc)) _ (grownTr (grownTr (grown_set (rb := w.heap.size + 1) 0 (.slice ba N.bn bc)) (grown_set (rb := w.heap.size + 1) 1 (.slice la N.ln lc))) (grown_set (rb := w.heap.size + 1) 2 (.slice sa N.sn sc))))
 have HB := hide (below_set (below_set (below_set (below_set b5 (g := w.heap.size + 1 + 1) (by omega) 2 (.slice sa N.sn sc)) (g := w.heap.size + 1) (by omega) 0 (.slice ba N.bn bc)) (g := w.heap.size + 1) (by omega) 1 (.slice la N.ln lc)) (g := w.heap.size + 1) (by omega) 2 (.slice sa N.sn sc))
 have HBB := hide hB
 clear hst k1 k2 oB5 oL5 oS5 iB5 b5 b4 b3 b2 b1 hB n1 n3 n3' n3'' n4
 go_wp2
 refine bodyPost_ret (v := .agg #[.slice ba N.bn bc, .slice la N.ln lc, .slice sa N.sn sc]) (by simp [results, Try.results8, go_sem, *]) rfl ⟨⟨ba, N.bn, bc, bs, la, N.ln, lc, N.ls, sa, N.sn, sc, N.ss⟩, rfl, HN.out, ⟨HBB.out, rfl, rfl⟩, ?_, HB.out⟩
 have e := HBB.out
 unfold sizeN sizeBs
 have : (bs.map fun x => sizeB x.B) = (N.bs.map fun x => sizeB x.B) := by
  have := congrArg (List.map sizeB) e
  rw [List.map_map, List.map_map] at this
  exact this
 simp only [this]

def endW (K : Int) (x : BV) : Int := K + 1 + 1 + 8 * x.n + 5 * x.fn + 3 * x.rn + x.on
def markV (K : Int) (x : BV) : BV := { x with B := ⟨K, mtx (K + 1), markPs (K + 1 + 1) x.n, markEs (K + 1 + 1 + 8 * x.n) x.fn, ⟨markRs (K + 1 + 1 + 8 * x.n + 5 * x.fn) x.rn, marksI (K + 1 + 1 + 8 * x.n + 5 * x.fn + 3 * x.rn) x.on⟩, endW K x, endW K x + 1, endW K x + 1 + 1, endW K x + 1 + 1 + 1, endW K x + 1 + 1 + 1 + 1⟩ }
def endV (K : Int) (x : BV) : Int := endW K x + 1 + 1 + 1 + 1 + 1
def markVs : Int → List BV → List BV
 | _, [] => []
 | k, x :: r => markV k x :: markVs (endV k x) r
def endVs : Int → List BV → Int
 | k, [] => k
 | k, x :: r => endVs (endV k x) r

theorem markVs_snoc (a : List BV) (x : BV) : ∀ k, markVs k (a ++ [x]) = markVs k a ++ [markV (endVs k a) x] := by
 induction a with
 | nil => intro k; rfl
 | cons y r ih => intro k; simp only [List.cons_append, markVs, endVs, ih]
theorem endVs_snoc (a : List BV) (x : BV) : ∀ k, endVs k (a ++ [x]) = endV (endVs k a) x := by
 induction a with
 | nil => intro k; rfl
 | cons y r ih => intro k; simp only [List.cons_append, endVs, ih]
theorem markVs_length (a : List BV) : ∀ k, (markVs k a).length = a.length := by
 induction a with
 | nil => intro k; rfl
 | cons y r ih => intro k; simp only [markVs, List.length_cons, ih]
theorem markVs_blks (a : List BV) : ∀ k, (markVs k a).flatMap BV.blks = a.flatMap BV.blks := by
 induction a with
 | nil => intro k; rfl
 | cons y r ih => intro k; simp only [markVs, List.flatMap_cons, ih]; rfl

theorem BOs.cell {w : World} {base g n cap jj a : Nat} {u : Value} {pre post : List BV} {x x' : BV} (h : BOs w base (some ⟨g, 0, none⟩) n cap (pre ++ x :: post)) (hjj : jj < 11) (ha : a = pre.length * 11 + jj) (hc : (brF.cs x).set jj u = brF.cs x') (hb : x'.blks = x.blks) (hx : x.Own w base → x'.Own w base) : BOs (w.setCell ⟨g, a, none⟩ u) base (some ⟨g, 0, none⟩) n cap (pre ++ x' :: post) := by
 subst ha
 have hm : x ∈ pre ++ x :: post := by simp
 have O := Only.set w g (pre.length * 11 + jj) u
 refine h.turn (bs := [g]) (x' := x') (by rw [hb]; exact bapart_mid h.apart) O (fun b hb => .inr (by simpa [blkL] using hb)) (flat_stored (F := brF) h.row jj u hjj hc) ?_
 exact (hx (h.item x hm)).only O (fun b hb' hb2 => BV.Own.row_apart h.row (h.item x hm) b (hb ▸ hb') (by simpa [blkL] using hb2))

theorem BOs.inner {bs : List Nat} {w w' : World} {base : Nat} {ao : Option Addr} {n cap : Nat} {pre post : List BV} {x x' : BV} (h : BOs w base ao n cap (pre ++ x :: post)) (ho : Only bs w w') (hs : ∀ b ∈ bs, b ∈ x.blks) (hcs : brF.cs x' = brF.cs x) (hb : x'.blks = x.blks) (hx : x'.Own w' base) : BOs w' base ao n cap (pre ++ x' :: post) := by
 have hm : x ∈ pre ++ x :: post := by simp
 refine h.turn (x' := x') (by rw [hb]; exact bapart_mid h.apart) ho (fun b hb => .inl (hs b hb)) ?_ hx
 have e : brF.all (pre ++ x' :: post) = brF.all (pre ++ x :: post) := by rw [brF.all_append, brF.all_append, brF.all_cons, brF.all_cons, hcs]
 rw [e]
 exact ho.own h.row (fun k hk hk' => BV.Own.row_apart h.row (h.item x hm) k (hs k hk') (mem_blkL.1 hk))

theorem BOs.mid {w : World} {base : Nat} {ao : Option Addr} {n cap : Nat} {pre post : List BV} {x : BV} (h : BOs w base ao n cap (pre ++ x :: post)) : x.Own w base := h.item x (by simp)

theorem only_in {bs cs : List Nat} {a b c : World} (h : Only cs a b) (k : Only bs b c) (hs : ∀ x ∈ bs, x ∈ cs) : Only cs a c := h.trans (k.wider hs)

theorem endVs_app (a b : List BV) : ∀ K, endVs K (a ++ b) = endVs (endVs K a) b := by
 induction a with
 | nil => intro K; rfl
 | cons y r ih => intro K; simp only [List.cons_append, endVs, ih]
theorem endVs_up (a : List BV) : ∀ K, K ≤ endVs K a := by
 induction a with
 | nil => intro K; exact Int.le_refl _
 | cons y r ih =>
  intro K
  have := ih (endV K y)
  simp only [endVs]
  unfold endV endW at this ⊢
  omega
theorem endVs_in {l : List BV} {j : Nat} {x : BV} (h : l[j]? = some x) (K : Int) : K ≤ endVs K (l.take j) ∧ endV (endVs K (l.take j)) x ≤ endVs K l := by
 refine ⟨endVs_up _ K, ?_⟩
 have e : l = (l.take j ++ [x]) ++ l.drop (j + 1) := by
  obtain ⟨hj, rfl⟩ := List.getElem?_eq_some_iff.1 h
  rw [List.append_assoc, List.singleton_append, ← List.drop_eq_getElem_cons hj, List.take_append_drop]
 have e2 : endVs K l = endVs (endVs K (l.take j ++ [x])) (l.drop (j + 1)) := by rw [← endVs_app, ← e]
 rw [e2, endVs_snoc]
 exact endVs_up _ _
theorem endVs_len (a : List BV) : ∀ K, K + a.length ≤ endVs K a := by
 induction a with
 | nil => intro K; simp [endVs]
 | cons y r ih =>
  intro K
  have := ih (endV K y)
  simp only [endVs, List.length_cons]
  unfold endV endW at this ⊢
  omega
theorem endVs_sum (l : List BV) : ∀ K, endVs K l ≤ K + 8 * ((l.map fun x => 1 + x.n + x.fn + x.rn + x.on).sum : Nat) := by
 induction l with
 | nil => intro K; simp [endVs]
 | cons y r ih =>
  intro K
  have := ih (endV K y)
  simp only [endVs, List.map_cons, List.sum_cons]
  unfold endV endW at this ⊢
  omega

set_option maxRecDepth 100000 in
set_option maxHeartbeats 8000000 in
theorem markBig_at (base g n cap : Nat) (l : List BV) (K0 : Int) (w : World) (h : BOs w base (some ⟨g, 0, none⟩) n cap l) (hk0 : 0 < K0) (hT : endVs K0 l ≤ 16777216) :
  Calls Try.prog 36 #[.slice (some ⟨g, 0, none⟩) n cap, .int .i64 K0] w fun e w' => e = .returned (.int .i64 (endVs K0 l)) ∧ BOs w' base (some ⟨g, 0, none⟩) n cap (markVs K0 l) ∧ Only (allB (some ⟨g, 0, none⟩) l) w w' := by
 have hl : l.length = n := h.grow.size
 have hn : n ≤ 16777216 := by have := endVs_len l K0; omega
 go_enter Try.func36, Try.ntmps36
 go_wp2
 go_loopw [1, 5] (fun m i wr => ∃ j : Nat, j ≤ n ∧ i = .int .i64 j ∧ m = .int .i64 (endVs K0 (l.take j)) ∧ BOs wr base (some ⟨g, 0, none⟩) n cap (markVs K0 (l.take j) ++ l.drop j) ∧ Only (allB (some ⟨g, 0, none⟩) l) w wr) (fun _ i _ => n - (intOf i).toNat)
 case atStart => exact ⟨0, Nat.zero_le _, rfl, rfl, by simpa [markVs] using h, Only.refl _ _⟩
 case round =>
  obtain ⟨j, hj, rfl, rfl, st, O⟩ := hrel
  by_cases hlt : j < n
  ·obtain ⟨x, hx⟩ : ∃ x, l[j]? = some x := ⟨l[j]'(by omega), List.getElem?_eq_getElem (by omega)⟩
   have hdr : l.drop j = x :: l.drop (j + 1) := by
    obtain ⟨h, rfl⟩ := List.getElem?_eq_some_iff.1 hx
    exact List.drop_eq_getElem_cons h
   have htk : l.take (j + 1) = l.take j ++ [x] := by rw [List.take_add_one, hx]; rfl
   have hmem := List.mem_of_getElem? hx
   have hKb := endVs_in hx K0
   unfold endV endW at hKb
   have HM : Hid (markVs K0 (l.take (j + 1)) = markVs K0 (l.take j) ++ [markV (endVs K0 (l.take j)) x]) := hide (by rw [htk, markVs_snoc])
   have HE : Hid (endVs K0 (l.take (j + 1)) = endV (endVs K0 (l.take j)) x) := hide (by rw [htk, endVs_snoc])
   have HJ : Hid ((markVs K0 (l.take j)).length = j) := hide (by rw [markVs_length, List.length_take]; omega)
   have HIN : Hid (∀ b ∈ x.blks, b ∈ allB (some ⟨g, 0, none⟩) l) := hide (fun b hb => List.mem_append_right _ (List.mem_flatMap.2 ⟨x, hmem, hb⟩))
   have HG : Hid (∀ b ∈ ([g] : List Nat), b ∈ allB (some ⟨g, 0, none⟩) l) := hide (fun b hb => List.mem_append_left _ (by simpa [blkL] using hb))
   rw [hdr] at st
   generalize hpr : markVs K0 (l.take j) = pre at *
   generalize hpo : l.drop (j + 1) = post at *
   generalize hK : endVs K0 (l.take j) = K at *
   have HAT : Hid (∀ z : BV, (pre ++ z :: post)[j]? = some z) := hide (fun z => by rw [List.getElem?_append_right (by have := HJ.out; omega), HJ.out, Nat.sub_self]; rfl)
   have HPO := hide hpo
   have i1 : (0 : Int) ≤ (j : Int) := by omega
   have i2 : (j : Int) < (n : Int) := by omega
   have k1 : 0 < K ∧ K ≤ 16777216 := by omega
   have k2 : K + 1 + 1 + 8 * (x.n : Int) + 5 * (x.fn : Int) + 3 * (x.rn : Int) + (x.on : Int) ≤ 16777216 := by omega
   clear hx hdr htk hKb hpr hpo hK hmem
   obtain ⟨⟨t0, t1, t2, t3, t4, t5, t6, t7, t8, t9, t10⟩, f0, f1, f2, f3, f4, f5, f6, f7, f8, f9, f10⟩ := bridge_cells st.row (HAT.out x)
   generalize hw1 : wr.setCell ⟨g, j * 11, none⟩ (.int .i64 K) = w1
   have st1 : BOs w1 base (some ⟨g, 0, none⟩) n cap (pre ++ ({ x with B := { x.B with id := K } } : BV) :: post) := by rw [← hw1]; exact st.cell (jj := 0) (by decide) (by have := HJ.out; omega) rfl rfl (fun h => ⟨h.ports, h.f, h.v⟩)
   have O1 : Only (allB (some ⟨g, 0, none⟩) l) w w1 := by rw [← hw1]; exact only_in O (Only.set _ _ _ _) HG.out
   go_wp2_with fail
   refine (markText_any (K + 1) _ (by omega) (by omega)).mono ?_
   rintro e w2 ⟨rfl, hms, hb2⟩
   have st2 := st1.below hb2
   have O2 := only_in O1 (Only.of_below (bs := []) hb2) (by intro b hb; cases hb)
   clear hw1 st st1 O O1 hb2 hms t0 t1 t2 t3 t4 t5 t6 t7 t8 t9 t10 f0 f1 f2 f3 f4 f5 f6 f7 f8 f9 f10
   obtain ⟨⟨t0, t1, t2, t3, t4, t5, t6, t7, t8, t9, t10⟩, f0, f1, f2, f3, f4, f5, f6, f7, f8, f9, f10⟩ := bridge_cells st2.row (HAT.out ({ x with B := { x.B with id := K } } : BV))
   generalize hw3 : w2.setCell ⟨g, j * 11 + 1, none⟩ (.string (mtx (K + 1))) = w3
   have st3 : BOs w3 base (some ⟨g, 0, none⟩) n cap (pre ++ ({ x with B := { x.B with id := K, name := mtx (K + 1) } } : BV) :: post) := by rw [← hw3]; exact st2.cell (jj := 1) (by decide) (by have := HJ.out; omega) rfl rfl (fun h => ⟨h.ports, h.f, h.v⟩)
   have O3 : Only (allB (some ⟨g, 0, none⟩) l) w w3 := by rw [← hw3]; exact only_in O2 (Only.set _ _ _ _) HG.out
   have ow := st3.mid
   obtain ⟨⟨t0, t1, t2, t3, t4, t5, t6, t7, t8, t9, t10⟩, f0, f1, f2, f3, f4, f5, f6, f7, f8, f9, f10⟩ := bridge_cells st3.row (HAT.out ({ x with B := { x.B with id := K, name := mtx (K + 1) } } : BV))
   go_wp2_with fail
   refine (markPts_grown base x.a x.n x.c x.B.ports (K + 1 + 1) _ ow.ports (by omega) (by omega) (by omega)).mono ?_
   rintro e w4 ⟨rfl, o4, hg4⟩
   have st4 : BOs w4 base (some ⟨g, 0, none⟩) n cap (pre ++ ({ x with B := { x.B with id := K, name := mtx (K + 1), ports := markPs (K + 1 + 1) x.n } } : BV) :: post) := st3.inner (Only.of_grown hg4) (fun b hb => mem_blks.2 (.inl hb)) rfl rfl ⟨o4, gown_type ow.f ow.ports (by decide) hg4, ⟨gown_type ow.v.rows ow.ports (by decide) hg4, gown_type ow.v.own ow.ports (by decide) hg4, ow.v.i64⟩⟩
   have O4 := only_in O3 (Only.of_grown hg4) (fun b hb => HIN.out b (mem_blks.2 (.inl hb)))
   clear hw3 st2 st3 O2 O3 o4 hg4 ow t0 t1 t2 t3 t4 t5 t6 t7 t8 t9 t10 f0 f1 f2 f3 f4 f5 f6 f7 f8 f9 f10
   have ow := st4.mid
   obtain ⟨⟨t0, t1, t2, t3, t4, t5, t6, t7, t8, t9, t10⟩, f0, f1, f2, f3, f4, f5, f6, f7, f8, f9, f10⟩ := bridge_cells st4.row (HAT.out ({ x with B := { x.B with id := K, name := mtx (K + 1), ports := markPs (K + 1 + 1) x.n } } : BV))
   go_wp2_with fail
   refine (markFents_grown base x.fa x.fn x.fc x.B.f (K + 1 + 1 + 8 * x.n) _ ow.f (by omega) (by omega) (by omega)).mono ?_
   rintro e w5 ⟨rfl, o5, hg5⟩
   have st5 : BOs w5 base (some ⟨g, 0, none⟩) n cap (pre ++ ({ x with B := { x.B with id := K, name := mtx (K + 1), ports := markPs (K + 1 + 1) x.n, f := markEs (K + 1 + 1 + 8 * x.n) x.fn } } : BV) :: post) := st4.inner (Only.of_grown hg5) (fun b hb => mem_blks.2 (.inr (.inl hb))) rfl rfl ⟨gown_type ow.ports ow.f (by decide) hg5, o5, ⟨gown_type ow.v.rows ow.f (by decide) hg5, gown_type ow.v.own ow.f (by decide) hg5, ow.v.i64⟩⟩
   have O5 := only_in O4 (Only.of_grown hg5) (fun b hb => HIN.out b (mem_blks.2 (.inr (.inl hb))))
   clear st4 O4 o5 hg5 ow t0 t1 t2 t3 t4 t5 t6 t7 t8 t9 t10 f0 f1 f2 f3 f4 f5 f6 f7 f8 f9 f10
   have ow := st5.mid
   obtain ⟨⟨t0, t1, t2, t3, t4, t5, t6, t7, t8, t9, t10⟩, f0, f1, f2, f3, f4, f5, f6, f7, f8, f9, f10⟩ := bridge_cells st5.row (HAT.out ({ x with B := { x.B with id := K, name := mtx (K + 1), ports := markPs (K + 1 + 1) x.n, f := markEs (K + 1 + 1 + 8 * x.n) x.fn } } : BV))
   go_wp2_with fail
   refine (markVrows_grown base x.ra x.rn x.rc x.B.v.rows (K + 1 + 1 + 8 * x.n + 5 * x.fn) _ ow.v.rows (by omega) (by omega) (by omega)).mono ?_
   rintro e w6 ⟨rfl, o6, hg6⟩
   have st6 : BOs w6 base (some ⟨g, 0, none⟩) n cap (pre ++ ({ x with B := { x.B with id := K, name := mtx (K + 1), ports := markPs (K + 1 + 1) x.n, f := markEs (K + 1 + 1 + 8 * x.n) x.fn, v := ⟨markRs (K + 1 + 1 + 8 * x.n + 5 * x.fn) x.rn, x.B.v.own⟩ } } : BV) :: post) := st5.inner (Only.of_grown hg6) (fun b hb => mem_blks.2 (.inr (.inr (.inl hb)))) rfl rfl ⟨gown_type ow.ports ow.v.rows (by decide) hg6, gown_type ow.f ow.v.rows (by decide) hg6, ⟨o6, gown_type ow.v.own ow.v.rows (by decide) hg6, ow.v.i64⟩⟩
   have O6 := only_in O5 (Only.of_grown hg6) (fun b hb => HIN.out b (mem_blks.2 (.inr (.inr (.inl hb)))))
   clear st5 O5 o6 hg6 ow t0 t1 t2 t3 t4 t5 t6 t7 t8 t9 t10 f0 f1 f2 f3 f4 f5 f6 f7 f8 f9 f10
   have ow := st6.mid
   obtain ⟨⟨t0, t1, t2, t3, t4, t5, t6, t7, t8, t9, t10⟩, f0, f1, f2, f3, f4, f5, f6, f7, f8, f9, f10⟩ := bridge_cells st6.row (HAT.out ({ x with B := { x.B with id := K, name := mtx (K + 1), ports := markPs (K + 1 + 1) x.n, f := markEs (K + 1 + 1 + 8 * x.n) x.fn, v := ⟨markRs (K + 1 + 1 + 8 * x.n + 5 * x.fn) x.rn, x.B.v.own⟩ } } : BV))
   go_wp2_with fail
   refine (markI_grown base x.oa x.on x.oc x.B.v.own (K + 1 + 1 + 8 * x.n + 5 * x.fn + 3 * x.rn) _ ow.v.own (by omega) (by omega) (by omega)).mono ?_
   rintro e w7 ⟨rfl, o7, hg7⟩
   have st7 : BOs w7 base (some ⟨g, 0, none⟩) n cap (pre ++ ({ x with B := { x.B with id := K, name := mtx (K + 1), ports := markPs (K + 1 + 1) x.n, f := markEs (K + 1 + 1 + 8 * x.n) x.fn, v := ⟨markRs (K + 1 + 1 + 8 * x.n + 5 * x.fn) x.rn, marksI (K + 1 + 1 + 8 * x.n + 5 * x.fn + 3 * x.rn) x.on⟩ } } : BV) :: post) := st6.inner (Only.of_grown hg7) (fun b hb => mem_blks.2 (.inr (.inr (.inr hb)))) rfl rfl ⟨gown_type ow.ports ow.v.own (by decide) hg7, gown_type ow.f ow.v.own (by decide) hg7, ⟨gown_type ow.v.rows ow.v.own (by decide) hg7, o7, marksI_byte _ _ (by omega) (by omega) (by omega)⟩⟩
   have O7 := only_in O6 (Only.of_grown hg7) (fun b hb => HIN.out b (mem_blks.2 (.inr (.inr (.inr hb)))))
   clear st6 O6 o7 hg7 ow t0 t1 t2 t3 t4 t5 t6 t7 t8 t9 t10 f0 f1 f2 f3 f4 f5 f6 f7 f8 f9 f10
   obtain ⟨EE, hEE⟩ : ∃ EE, EE = endW K x := ⟨_, rfl⟩
   have hEv : K + 1 + 1 + 8 * (x.n : Int) + 5 * (x.fn : Int) + 3 * (x.rn : Int) + (x.on : Int) = EE := by rw [hEE]; rfl
   have e1 : 0 < EE ∧ EE ≤ 16777216 := by omega
   obtain ⟨⟨t0, t1, t2, t3, t4, t5, t6, t7, t8, t9, t10⟩, f0, f1, f2, f3, f4, f5, f6, f7, f8, f9, f10⟩ := bridge_cells st7.row (HAT.out ({ x with B := { x.B with id := K, name := mtx (K + 1), ports := markPs (K + 1 + 1) x.n, f := markEs (K + 1 + 1 + 8 * x.n) x.fn, v := ⟨markRs (K + 1 + 1 + 8 * x.n + 5 * x.fn) x.rn, marksI (K + 1 + 1 + 8 * x.n + 5 * x.fn + 3 * x.rn) x.on⟩ } } : BV))
   have st8 := st7.cell (u := .int .i64 EE) (x' := ({ x with B := { x.B with id := K, name := mtx (K + 1), ports := markPs (K + 1 + 1) x.n, f := markEs (K + 1 + 1 + 8 * x.n) x.fn, v := ⟨markRs (K + 1 + 1 + 8 * x.n + 5 * x.fn) x.rn, marksI (K + 1 + 1 + 8 * x.n + 5 * x.fn + 3 * x.rn) x.on⟩, ticks := EE } } : BV)) (jj := 6) (a := j * 11 + 6) (by decide) (by have := HJ.out; omega) rfl rfl (fun h => ⟨h.ports, h.f, h.v⟩)
   have st9 := st8.cell (u := .int .i64 (EE + 1)) (x' := ({ x with B := { x.B with id := K, name := mtx (K + 1), ports := markPs (K + 1 + 1) x.n, f := markEs (K + 1 + 1 + 8 * x.n) x.fn, v := ⟨markRs (K + 1 + 1 + 8 * x.n + 5 * x.fn) x.rn, marksI (K + 1 + 1 + 8 * x.n + 5 * x.fn + 3 * x.rn) x.on⟩, ticks := EE, parse := EE + 1 } } : BV)) (jj := 7) (a := j * 11 + 7) (by decide) (by have := HJ.out; omega) rfl rfl (fun h => ⟨h.ports, h.f, h.v⟩)
   have st10 := st9.cell (u := .int .i64 (EE + 1 + 1)) (x' := ({ x with B := { x.B with id := K, name := mtx (K + 1), ports := markPs (K + 1 + 1) x.n, f := markEs (K + 1 + 1 + 8 * x.n) x.fn, v := ⟨markRs (K + 1 + 1 + 8 * x.n + 5 * x.fn) x.rn, marksI (K + 1 + 1 + 8 * x.n + 5 * x.fn + 3 * x.rn) x.on⟩, ticks := EE, parse := EE + 1, word := EE + 1 + 1 } } : BV)) (jj := 8) (a := j * 11 + 8) (by decide) (by have := HJ.out; omega) rfl rfl (fun h => ⟨h.ports, h.f, h.v⟩)
   have st11 := st10.cell (u := .int .i64 (EE + 1 + 1 + 1)) (x' := ({ x with B := { x.B with id := K, name := mtx (K + 1), ports := markPs (K + 1 + 1) x.n, f := markEs (K + 1 + 1 + 8 * x.n) x.fn, v := ⟨markRs (K + 1 + 1 + 8 * x.n + 5 * x.fn) x.rn, marksI (K + 1 + 1 + 8 * x.n + 5 * x.fn + 3 * x.rn) x.on⟩, ticks := EE, parse := EE + 1, word := EE + 1 + 1, drops := EE + 1 + 1 + 1 } } : BV)) (jj := 9) (a := j * 11 + 9) (by decide) (by have := HJ.out; omega) rfl rfl (fun h => ⟨h.ports, h.f, h.v⟩)
   have st12 := st11.cell (u := .int .i64 (EE + 1 + 1 + 1 + 1)) (x' := ({ x with B := { x.B with id := K, name := mtx (K + 1), ports := markPs (K + 1 + 1) x.n, f := markEs (K + 1 + 1 + 8 * x.n) x.fn, v := ⟨markRs (K + 1 + 1 + 8 * x.n + 5 * x.fn) x.rn, marksI (K + 1 + 1 + 8 * x.n + 5 * x.fn + 3 * x.rn) x.on⟩, ticks := EE, parse := EE + 1, word := EE + 1 + 1, drops := EE + 1 + 1 + 1, vers := EE + 1 + 1 + 1 + 1 } } : BV)) (jj := 10) (a := j * 11 + 10) (by decide) (by have := HJ.out; omega) rfl rfl (fun h => ⟨h.ports, h.f, h.v⟩)
   have HST := hide st12
   have HO := hide (only_in (only_in (only_in (only_in (only_in O7 (Only.set _ g (j * 11 + 6) (.int .i64 EE)) HG.out) (Only.set _ g (j * 11 + 7) (.int .i64 (EE + 1))) HG.out) (Only.set _ g (j * 11 + 8) (.int .i64 (EE + 1 + 1))) HG.out) (Only.set _ g (j * 11 + 9) (.int .i64 (EE + 1 + 1 + 1))) HG.out) (Only.set _ g (j * 11 + 10) (.int .i64 (EE + 1 + 1 + 1 + 1))) HG.out)
   have HXX : Hid (({ x with B := { x.B with id := K, name := mtx (K + 1), ports := markPs (K + 1 + 1) x.n, f := markEs (K + 1 + 1 + 8 * x.n) x.fn, v := ⟨markRs (K + 1 + 1 + 8 * x.n + 5 * x.fn) x.rn, marksI (K + 1 + 1 + 8 * x.n + 5 * x.fn + 3 * x.rn) x.on⟩, ticks := EE, parse := EE + 1, word := EE + 1 + 1, drops := EE + 1 + 1 + 1, vers := EE + 1 + 1 + 1 + 1 } } : BV) = markV K x) := hide (by rw [hEE]; rfl)
   have HEV : Hid (endV K x = EE + 1 + 1 + 1 + 1 + 1) := hide (by rw [hEE]; rfl)
   rw [hEv]
   clear st7 st8 st9 st10 st11 st12 O7 hEE
   go_wp2
   go_roundw
   case rel => exact ⟨j + 1, by omega, by go_num, by rw [HE.out, HEV.out], by rw [HM.out, ← HXX.out, List.append_assoc, HPO.out]; exact HST.out, HO.out⟩
   case measure => simp [intOf]; omega
  ·have hj' : j = n := by omega
   subst hj'
   rw [List.drop_eq_nil_of_le (by omega), List.append_nil, List.take_of_length_le (by omega)] at st
   rw [List.take_of_length_le (by omega)]
   have HO := hide st
   have HN := hide O
   clear st O h
   go_wp2
   go_ret
   exact ⟨rfl, HO.out, HN.out⟩

set_option maxRecDepth 100000 in
set_option maxHeartbeats 400000 in
theorem markBridges_nil (k : Int) (c : Nat) (w : World) :
  Calls Try.prog 36 #[.slice none 0 c, .int .i64 k] w fun r w' => r = .returned (.int .i64 k) ∧ w' = w := by
 go_enter Try.func36, Try.ntmps36
 go_wp2
 go_loop [1, 5] (fun m i => m = .int .i64 k ∧ i = .int .i64 0) (fun _ _ => 0)
 case atStart => exact ⟨rfl, rfl⟩
 case round =>
  obtain ⟨rfl, rfl⟩ := hrel
  go_wp2
  go_ret
  exact ⟨rfl, rfl⟩

def markN (M : NV) : NV := { M with bs := markVs 1 M.bs, ls := markLs (endVs 1 M.bs) M.ln }
def endN (M : NV) : Int := endVs 1 M.bs + 4 * M.ln
def NV.blks (M : NV) : List Nat := allB M.ba M.bs ++ blkL M.la

theorem NetOwn.blk {w : World} {base : Nat} {M : NV} (h : NetOwn w base M) : ∀ b ∈ M.blks, base ≤ b ∧ b < w.heap.size := by
 intro b hb
 rcases List.mem_append.1 hb with hb | hb
 ·exact h.b.blk b hb
 ·exact h.l.lt b (mem_blkL.2 hb)

theorem allB_ne {w : World} {base X : Nat} {ao : Option Addr} {n cap : Nat} {l : List BV} {cs : Array Value} {T : TypeId} (h : BOs w base ao n cap l) (hX : w.heap[X]? = some (.cells cs T)) (h0 : (98 : Nat) ≠ T) (h1 : (91 : Nat) ≠ T) (h2 : (147 : Nat) ≠ T) (h3 : (149 : Nat) ≠ T) (h4 : (3 : Nat) ≠ T) : X ∉ allB ao l := by
 intro hm
 rcases List.mem_append.1 hm with hm | hm
 ·exact box_ne h.row hX h0 X (mem_blkL.2 hm) rfl
 ·obtain ⟨x, hx, hb⟩ := List.mem_flatMap.1 hm
  have o := h.item x hx
  rcases mem_blks.1 hb with hb | hb | hb | hb
  ·exact box_ne o.ports hX h1 X (mem_blkL.2 hb) rfl
  ·exact box_ne o.f hX h2 X (mem_blkL.2 hb) rfl
  ·exact box_ne o.v.rows hX h3 X (mem_blkL.2 hb) rfl
  ·exact box_ne o.v.own hX h4 X (mem_blkL.2 hb) rfl

theorem NetOwn.box_apart {w : World} {base X : Nat} {M : NV} {cs : Array Value} (h : NetOwn w base M) (hX : w.heap[X]? = some (.cells cs 33)) : X ∉ M.blks := by
 intro hm
 rcases List.mem_append.1 hm with hm | hm
 ·exact allB_ne h.b hX (by decide) (by decide) (by decide) (by decide) (by decide) hm
 ·exact box_ne h.l hX (by decide) X (mem_blkL.2 hm) rfl

def markSy (k : Int) : SY := ⟨k, (k + 1) % 3 == 0, ⟨k + 1 + 1, k + 1 + 1 + 1, k + 1 + 1 + 1 + 1, k + 1 + 1 + 1 + 1 + 1, k + 1 + 1 + 1 + 1 + 1 + 1⟩⟩
def markSs (k : Int) (n : Nat) : List SY := (List.range n).map fun (i : Nat) => markSy (k + 7 * i)

theorem markSs_length (k : Int) (n : Nat) : (markSs k n).length = n := by simp [markSs]
theorem markSs_succ (k : Int) (j : Nat) : markSs k (j + 1) = markSs k j ++ [markSy (k + 7 * j)] := by simp [markSs, List.range_succ]
theorem markSs_at (k : Int) (n j : Nat) (h : j < n) : (markSs k n)[j]? = some (markSy (k + 7 * j)) := by simp [markSs, List.getElem?_map, List.getElem?_range h]

set_option maxRecDepth 100000 in
set_option maxHeartbeats 2000000 in
theorem markSays_at (base g n cap : Nat) (l : List SY) (k : Int) (w : World) (hown : w.ownsRow base 104 7 (.slice (some ⟨g, 0, none⟩) n cap) n (sayF.all l)) (hn : n ≤ 16777216) (hk0 : 0 ≤ k) (hk1 : k ≤ 1099511627776) :
  Calls Try.prog 38 #[.slice (some ⟨g, 0, none⟩) n cap, .int .i64 k] w fun r w' => r = .returned (.int .i64 (k + 7 * n)) ∧ w'.ownsRow base 104 7 (.slice (some ⟨g, 0, none⟩) n cap) n (sayF.all (markSs k n)) ∧ w.grownBy w' (some g) := by
 have hl : l.length = n := (grow_own (F := sayF) hown).size
 go_enter Try.func38, Try.ntmps38
 go_wp2
 go_loopw [1, 5] (fun m i wr => ∃ j : Nat, j ≤ n ∧ i = .int .i64 j ∧ m = .int .i64 (k + 7 * j) ∧ wr.ownsRow base 104 7 (.slice (some ⟨g, 0, none⟩) n cap) n (sayF.all (markSs k j ++ l.drop j)) ∧ w.grownBy wr (some g)) (fun _ i _ => n - (intOf i).toNat)
 case atStart => exact ⟨0, Nat.zero_le _, rfl, by simp, by simpa [markSs] using hown, World.grownBy.refl _ _⟩
 case round =>
  obtain ⟨j, hj, rfl, rfl, how, hg⟩ := hrel
  by_cases hlt : j < n
  ·obtain ⟨x, hx⟩ : ∃ x, l[j]? = some x := ⟨l[j]'(by omega), List.getElem?_eq_getElem (by omega)⟩
   have hdr : l.drop j = x :: l.drop (j + 1) := by
    obtain ⟨h, rfl⟩ := List.getElem?_eq_some_iff.1 hx
    exact List.drop_eq_getElem_cons h
   rw [hdr] at how
   have hlj := markSs_length k j
   have hz : (markSs k j ++ x :: l.drop (j + 1))[j]? = some x := by rw [List.getElem?_append_right (by omega), hlj, Nat.sub_self]; rfl
   obtain ⟨⟨t0, t1, t2, t3, t4, t5, t6⟩, f0, f1, f2, f3, f4, f5, f6⟩ := say_cells how hz
   have o3 := say_put (y := markSy (k + 7 * j)) how
   rw [hlj] at o3
   have HO3 := hide o3
   have HG := hide (grownTr hg (say_puts (w := wr) (g := g) (j := j * 7) (y := markSy (k + 7 * j))))
   have HM := hide (markSs_succ k j)
   have hm : 0 ≤ k + 7 * (j : Int) ∧ k + 7 * (j : Int) ≤ 2199023255552 := by omega
   clear how hg hown o3 hz hdr
   generalize hK : k + 7 * (j : Int) = K at *
   go_wp2
   go_roundw
   case rel => exact ⟨j + 1, by omega, by go_num, by simp; omega, by rw [HM.out, List.append_assoc]; exact HO3.out, HG.out⟩
   case measure => simp [intOf]; omega
  ·have hj' : j = n := by omega
   subst hj'
   rw [List.drop_eq_nil_of_le (by omega), List.append_nil] at how
   have HO := hide how
   clear how hown
   go_wp2
   go_ret
   exact ⟨rfl, HO.out, hg⟩

theorem markSays_grown (base : Nat) (ao : Option Addr) (n cap : Nat) (l : List SY) (k : Int) (w : World) (hown : w.ownsRow base 104 7 (.slice ao n cap) n (sayF.all l)) (hn : n ≤ 16777216) (hk0 : 0 ≤ k) (hk1 : k ≤ 1099511627776) :
  Calls Try.prog 38 #[.slice ao n cap, .int .i64 k] w fun r w' => r = .returned (.int .i64 (k + 7 * n)) ∧ w'.ownsRow base 104 7 (.slice ao n cap) n (sayF.all (markSs k n)) ∧ w.grownBy w' (Value.slice ao n cap).ownBlock := by
 rcases hown.2 with ⟨e, h0⟩ | ⟨g, cap', cur, e, -⟩
 ·cases e
  refine (markSays_nil k 0 w).mono ?_
  rintro r w' ⟨rfl, rfl⟩
  exact ⟨by simp, by simpa [markSs, Flat.all] using World.ownsRow_nil w' base 104 7, World.grownBy.refl _ _⟩
 ·cases e
  exact markSays_at base g n cap l k w hown hn hk0 hk1

theorem markBig_any (base : Nat) (ao : Option Addr) (n cap : Nat) (l : List BV) (K0 : Int) (w : World) (h : BOs w base ao n cap l) (hk0 : 0 < K0) (hT : endVs K0 l ≤ 16777216) :
  Calls Try.prog 36 #[.slice ao n cap, .int .i64 K0] w fun e w' => e = .returned (.int .i64 (endVs K0 l)) ∧ BOs w' base ao n cap (markVs K0 l) ∧ Only (allB ao l) w w' := by
 rcases h.row.2 with ⟨e, h0⟩ | ⟨g, cap', cur, e, -⟩
 ·cases e
  have hl : l = [] := List.eq_nil_of_length_eq_zero h.grow.size
  subst hl
  refine (markBridges_nil K0 0 w).mono ?_
  rintro r w' ⟨rfl, rfl⟩
  exact ⟨rfl, h, Only.refl _ _⟩
 ·cases e
  exact markBig_at base g n cap l K0 w h hk0 hT

def markM (M : NV) : NV := { M with bs := markVs 1 M.bs, ls := markLs (endVs 1 M.bs) M.ln, ss := markSs (endVs 1 M.bs + 4 * M.ln) M.sn }
def endM (M : NV) : Int := endVs 1 M.bs + 4 * M.ln + 7 * M.sn
def NV.blksA (M : NV) : List Nat := allB M.ba M.bs ++ (blkL M.la ++ blkL M.sa)
def NV.Fits (M : NV) : Prop := endVs 1 M.bs ≤ 16777216 ∧ M.ln ≤ 1048576 ∧ M.sn ≤ 1048576

theorem NOwn.blk {w : World} {base : Nat} {M : NV} (h : NOwn w base M) : ∀ b ∈ M.blksA, base ≤ b ∧ b < w.heap.size := by
 intro b hb
 rcases List.mem_append.1 hb with hb | hb
 ·exact h.b.blk b hb
 ·rcases List.mem_append.1 hb with hb | hb
  ·exact h.l.lt b (mem_blkL.2 hb)
  ·exact h.s.lt b (mem_blkL.2 hb)

theorem own_apart_all {w : World} {base base' k n0 m : Nat} {T : TypeId} {a : Option Addr} {n c : Nat} {xs : List Value} {ao : Option Addr} {cap : Nat} {l : List BV} (hs : w.ownsRow base' T k (.slice a n c) n0 xs) (hb : BOs w base ao m cap l) (h0 : (98 : Nat) ≠ T) (h1 : (91 : Nat) ≠ T) (h2 : (147 : Nat) ≠ T) (h3 : (149 : Nat) ≠ T) (h4 : (3 : Nat) ≠ T) : ∀ b ∈ blkL a, b ∉ allB ao l := by
 intro b hb'
 rcases hs.2 with ⟨e, _⟩ | ⟨g, cap', cur, e, _, hh, _⟩
 ·cases e' : a with
  | none => rw [e'] at hb'; cases hb'
  | some q => rw [e'] at e; cases e
 ·cases e' : a with
  | none => rw [e'] at hb'; cases hb'
  | some q =>
   rw [e'] at e hb'
   cases e
   simp [blkL] at hb'
   subst hb'
   exact allB_ne hb hh h0 h1 h2 h3 h4

theorem NOwn.box_apart {w : World} {base X : Nat} {M : NV} {cs : Array Value} (h : NOwn w base M) (hX : w.heap[X]? = some (.cells cs 33)) : X ∉ M.blksA := by
 intro hm
 rcases List.mem_append.1 hm with hm | hm
 ·exact allB_ne h.b hX (by decide) (by decide) (by decide) (by decide) (by decide) hm
 ·rcases List.mem_append.1 hm with hm | hm
  ·exact box_ne h.l hX (by decide) X (mem_blkL.2 hm) rfl
  ·exact box_ne h.s hX (by decide) X (mem_blkL.2 hm) rfl

theorem NOwn.only {bs : List Nat} {w w' : World} {base : Nat} {M : NV} (h : NOwn w base M) (ho : Only bs w w') (hn : ∀ b ∈ M.blksA, b ∉ bs) : NOwn w' base M :=
 ⟨h.b.only ho (fun b hb => hn b (List.mem_append_left _ hb)), ho.own h.l (fun k hk => hn k (List.mem_append_right _ (List.mem_append_left _ (mem_blkL.1 hk)))), ho.own h.s (fun k hk => hn k (List.mem_append_right _ (List.mem_append_right _ (mem_blkL.1 hk))))⟩

set_option maxRecDepth 100000 in
set_option maxHeartbeats 4000000 in
theorem markNet_big (base : Nat) (M : NV) (w : World) (h : NOwn w base M) (hf : M.Fits) :
  Calls Try.prog 14 #[.agg #[.slice M.ba M.bn M.bc, .slice M.la M.ln M.lc, .slice M.sa M.sn M.sc], .int .i64 1] w fun e w' => e = .returned (.int .i64 (endM M)) ∧ NOwn w' base (markM M) ∧ Only M.blksA w w' := by
 have hKb := endVs_up M.bs 1
 obtain ⟨hT, hl, hs⟩ := hf
 generalize hw1 : w.alloc (Obj.cells #[.slice M.ba M.bn M.bc, .slice M.la M.ln M.lc, .slice M.sa M.sn M.sc] 33) = w1
 have b01 : Below w.heap.size w w1 := by rw [← hw1]; exact below_one _ _
 have k1 : w1.heap[w.heap.size]? = some (.cells #[.slice M.ba M.bn M.bc, .slice M.la M.ln M.lc, .slice M.sa M.sn M.sc] 33) := by rw [← hw1]; exact block_last _ _
 have h1 := h.below b01
 obtain ⟨x0, x1, x2⟩ := cells3n k1
 go_enter Try.func14, Try.ntmps14
 go_wp2_with fail
 refine (markBig_any base M.ba M.bn M.bc M.bs 1 _ h1.b (by omega) hT).mono ?_
 rintro e w2 ⟨rfl, hB2, O2⟩
 have k2 := O2.kept k1 (fun hm => h1.box_apart k1 (List.mem_append_left _ hm))
 have apL := own_apart_all h1.l h1.b (by decide) (by decide) (by decide) (by decide) (by decide)
 have apS := own_apart_all h1.s h1.b (by decide) (by decide) (by decide) (by decide) (by decide)
 have l2 := O2.own h1.l (fun k hk => apL k (mem_blkL.1 hk))
 have s2 := O2.own h1.s (fun k hk => apS k (mem_blkL.1 hk))
 have HK := hide hKb
 generalize hEV : endVs 1 M.bs = EV at *
 clear x0 x1 x2
 obtain ⟨x0, x1, x2⟩ := cells3n k2
 go_wp2_with fail
 refine (markLinks_grown base M.la M.ln M.lc M.ls EV _ l2 (by omega) (by omega) (by omega)).mono ?_
 rintro e w3 ⟨rfl, l3, hg3⟩
 have O3 := Only.of_grown hg3
 have hB3 : BOs w3 base M.ba M.bn M.bc (markVs 1 M.bs) := hB2.only O3 (fun b hb hc => apL b hc (by unfold allB at hb ⊢; rw [markVs_blks] at hb; exact hb))
 have s3 := gown_type s2 l2 (by decide) hg3
 have k3 := kept_grown k2 hg3 (fun k hk => box_ne l2 k2 (by decide) k hk)
 clear x0 x1 x2
 obtain ⟨x0, x1, x2⟩ := cells3n k3
 go_wp2_with fail
 refine (markSays_grown base M.sa M.sn M.sc M.ss (EV + 4 * M.ln) _ s3 (by omega) (by omega) (by omega)).mono ?_
 rintro e w4 ⟨rfl, s4, hg4⟩
 have O4 := Only.of_grown hg4
 have hB4 : BOs w4 base M.ba M.bn M.bc (markVs 1 M.bs) := hB3.only O4 (fun b hb hc => apS b hc (by unfold allB at hb ⊢; rw [markVs_blks] at hb; exact hb))
 have l4 := gown_type l3 s3 (by decide) hg4
 have HO : Hid (NOwn w4 base (markM M)) := hide ⟨hB4, by unfold markM; rw [hEV]; exact l4, by unfold markM; rw [hEV]; exact s4⟩
 have HN : Hid (Only M.blksA w w4) := hide (only_in (only_in (only_in (Only.of_below (bs := M.blksA) b01) O2 (fun b hb => List.mem_append_left _ hb)) O3 (fun b hb => List.mem_append_right _ (List.mem_append_left _ hb))) O4 (fun b hb => List.mem_append_right _ (List.mem_append_right _ hb)))
 have HE : Hid (endM M = EV + 4 * M.ln + 7 * M.sn) := hide (by unfold endM; rw [hEV])
 clear hB2 hB3 hB4 l2 l3 l4 s2 s3 s4 O2 O3 O4 hg3 hg4 k2 k3 x0 x1 x2 apL apS h1 h hw1 k1 b01
 go_wp2
 go_ret
 exact ⟨by rw [HE.out]; rfl, HO.out, HN.out⟩

theorem net_fits {N : NV} {w : World} (h : NetRow w N) (hs : sizeN N ≤ 1048576) : N.Fits := by
 obtain ⟨z1, z2, z3, z4⟩ := net_small h hs
 refine ⟨?_, z2, z3⟩
 have h1 := endVs_sum N.bs 1
 have key : ∀ l : List BV, (∀ x ∈ l, x.Reads w) → (((l.map fun x => 1 + x.n + x.fn + x.rn + x.on).sum : Nat) : Int) ≤ l.length + sizeBs l := by
  intro l
  induction l with
  | nil => intro _; simp [sizeBs]
  | cons y r ih =>
   intro hr
   have h2 := ih (fun x hx => hr x (by simp [hx]))
   have o := hr y (by simp)
   have q1 := o.ports.size
   have q2 := o.f.size
   have q3 := o.v.rows.size
   have q4 := o.v.own.size
   unfold sizeBs at h2 ⊢
   simp only [List.map_cons, List.sum_cons, List.length_cons]
   unfold sizeB at h2 ⊢
   omega
 have e := key N.bs h.item
 have e3 := h.b.size
 unfold sizeN at hs
 omega

end Go.Proofs.Ytgmkhoakindpkaa
