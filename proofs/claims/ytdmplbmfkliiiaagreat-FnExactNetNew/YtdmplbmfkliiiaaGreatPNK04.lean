/-
  Packed: BrLaws BrLess PtBest PtRole PtSends BrList0 VecNums VecNear.
-/
import Derived.Test.YtdmplbmfkliiiaaGreatPNKW
import Derived.Test.YtdmplbmfkliiiaaGreatPNK01
import Derived.Test.YtdmplbmfkliiiaaGreatPNK02
import Derived.Test.YtdmplbmfkliiiaaGreatPNK03
import Derived.Deep.CutRange
import Derived.Deep.RegionHeld3
import Derived.Lib.MinMax
namespace Go.Proofs.YtdmplbmfkliiiaaGreat
open Go.RowKit

def oneMore (n : Int) : Int := if n ≥ 1000000 then n else n + 1

def flushTo (bits : Int) (l : List FE) : Nat → List FE
 | 0 => l
 | k + 1 => if bitOf bits (k : Int) = true then flushTo bits l k else flushF (flushTo bits l k) (k : Int)

def turned (b : BR) : BR := { b with vers := oneMore b.vers, f := flushTo (sendsOf b.id b.ports) b.f b.ports.length }

def thereB (b : BR) (port : Int) : Bool := bridgeOk b && (decide (0 ≤ port) && decide (port ≤ (b.ports.length : Int) - 1))

def linkB (b : BR) (port : Int) (up : Bool) : BR :=
 if thereB b port = true then
  match b.ports[port.toNat]? with
  | some x => turned { b with ports := b.ports.set port.toNat ⟨up, x.k, false, ⟨0, 0, 0, 0, 0⟩⟩ }
  | none => b
 else b

theorem in1m_iff (x : Int) : in1m x = true ↔ 0 ≤ x ∧ x ≤ 1000000 := by
 unfold in1m
 simp

theorem oneMore_in {n : Int} (h : in1m n = true) : in1m (oneMore n) = true := by
 rw [in1m_iff] at *
 unfold oneMore
 split <;> omega

theorem flushTo_ok (bits : Int) {l : List FE} (h : fdbOk l = true) : ∀ k, fdbOk (flushTo bits l k) = true
 | 0 => h
 | k + 1 => by
  rw [flushTo]
  split
  ·exact flushTo_ok bits h k
  ·exact flush_ok (flushTo_ok bits h k) _

theorem flushTo_sub (bits : Int) (l : List FE) : ∀ k, (flushTo bits l k).Sublist l
 | 0 => List.Sublist.refl _
 | k + 1 => by
  rw [flushTo]
  split
  ·exact flushTo_sub bits l k
  ·exact List.Sublist.trans List.filter_sublist (flushTo_sub bits l k)

theorem bridgeOk_parts {b : BR} (h : bridgeOk b = true) : b.ports.all ptOk = true ∧ in3 b.id 1 99 = true ∧ (b.name.size : Int) ≤ 10 ∧ in3 (b.ports.length : Int) 1 6 = true ∧ fdbOk b.f = true ∧ vtabOk b.v (b.ports.length : Int) = true ∧ in1m b.ticks = true ∧ in1m b.parse = true ∧ in1m b.word = true ∧ in1m b.drops = true ∧ in1m b.vers = true := by
 unfold bridgeOk countsOk at h
 simp only [Bool.and_eq_true, decide_eq_true_eq] at h
 obtain ⟨h1, h2, h3, h4, h5, h6, h7, h8, h9, h10, h11⟩ := h
 exact ⟨h1, h2, h3, h4, h5, h6, h7, h8, h9, h10, h11⟩

theorem bridgeOk_of {b : BR} (h : b.ports.all ptOk = true ∧ in3 b.id 1 99 = true ∧ (b.name.size : Int) ≤ 10 ∧ in3 (b.ports.length : Int) 1 6 = true ∧ fdbOk b.f = true ∧ vtabOk b.v (b.ports.length : Int) = true ∧ in1m b.ticks = true ∧ in1m b.parse = true ∧ in1m b.word = true ∧ in1m b.drops = true ∧ in1m b.vers = true) : bridgeOk b = true := by
 obtain ⟨h1, h2, h3, h4, h5, h6, h7, h8, h9, h10, h11⟩ := h
 unfold bridgeOk countsOk
 rw [h1, h2, decide_eq_true h3, h4, h5, h6, h7, h8, h9, h10, h11]
 rfl

theorem turned_ok {b : BR} (h : bridgeOk b = true) : bridgeOk (turned b) = true := by
 obtain ⟨h1, h2, h3, h4, h5, h6, h7, h8, h9, h10, h11⟩ := bridgeOk_parts h
 exact bridgeOk_of ⟨h1, h2, h3, h4, flushTo_ok _ h5 _, h6, h7, h8, h9, h10, oneMore_in h11⟩

theorem ports_ok {b : BR} (h : bridgeOk b = true) {i : Nat} {y : PT} (hy : ptOk y = true) : bridgeOk { b with ports := b.ports.set i y } = true := by
 obtain ⟨h1, h2, h3, h4, h5, h6, h7, h8, h9, h10, h11⟩ := bridgeOk_parts h
 refine bridgeOk_of ⟨?_, h2, h3, ?_, h5, ?_, h7, h8, h9, h10, h11⟩
 ·rw [List.all_eq_true] at h1 ⊢
  intro x hx
  rcases List.mem_or_eq_of_mem_set hx with hx | rfl
  ·exact h1 x hx
  ·exact hy
 ·simpa using h4
 ·simpa using h6

theorem port_ok {b : BR} (h : bridgeOk b = true) {i : Nat} {x : PT} (hx : b.ports[i]? = some x) : ptOk x = true := by
 have h1 := (bridgeOk_parts h).1
 rw [List.all_eq_true] at h1
 exact h1 x (List.mem_of_getElem? hx)

theorem link_pt {x : PT} (up : Bool) (h : ptOk x = true) : ptOk ⟨up, x.k, false, ⟨0, 0, 0, 0, 0⟩⟩ = true := by
 unfold ptOk at *
 simp only [Bool.and_eq_true] at h
 simp [h.1, zeroVc]

theorem there_ok {b : BR} {port : Int} (h : thereB b port = true) : bridgeOk b = true := by
 unfold thereB at h
 simp only [Bool.and_eq_true] at h
 exact h.1

theorem linkB_ok {b : BR} (h : bridgeOk b = true) (port : Int) (up : Bool) : bridgeOk (linkB b port up) = true := by
 unfold linkB
 split
 ·split
  ·next x hx => exact turned_ok (ports_ok h (link_pt up (port_ok h hx)))
  ·exact h
 ·exact h

def lessB (V B : BR) : Prop := V.ports.length ≤ B.ports.length ∧ V.f.length ≤ B.f.length ∧ V.v = B.v

theorem turned_less (B : BR) : lessB (turned B) B := ⟨Nat.le_refl _, (flushTo_sub _ _ _).length_le, rfl⟩

theorem less_trans {a b c : BR} (h : lessB a b) (k : lessB b c) : lessB a c := ⟨Nat.le_trans h.1 k.1, Nat.le_trans h.2.1 k.2.1, h.2.2.trans k.2.2⟩

theorem link_less (B : BR) (port : Int) (up : Bool) : lessB (linkB B port up) B := by
 unfold linkB
 split
 ·split
  ·exact less_trans (turned_less _) ⟨by simp, Nat.le_refl _, rfl⟩
  ·exact ⟨Nat.le_refl _, Nat.le_refl _, rfl⟩
 ·exact ⟨Nat.le_refl _, Nat.le_refl _, rfl⟩

abbrev q254 : Oper := ⟨some 47, .call ⟨.value (.func 198), #[.tmp 41, .tmp 46], #[82, 3]⟩, 228, "l10_role.go:23", #[⟨4, .data⟩, ⟨9, .data⟩], none⟩
abbrev q255 : Oper := ⟨some 36, .move (.tmp 47), 228, "l10_role.go:23", #[⟨10, .data⟩], none⟩
abbrev q256 : Oper := ⟨some 48, .extract (.tmp 36) 0, 82, "l10_role.go:23", #[⟨11, .data⟩], none⟩
abbrev q257 : Oper := ⟨some 49, .extract (.tmp 36) 1, 4, "l10_role.go:23", #[⟨11, .data⟩, { on := 15, ground := Ground.gcOnly Departure.lateStores }], none⟩
abbrev q258 : Oper := ⟨some 10, .alloc 82, 0, "l10_role.go:23", #[], none⟩
abbrev q259 : Oper := ⟨none, .store 82 (.tmp 10) (.tmp 48), 0, "l10_role.go:23", #[⟨14, .data⟩, ⟨12, .data⟩, ⟨10, .chain⟩, ⟨0, .phase⟩, ⟨1, .phase⟩, ⟨2, .phase⟩, ⟨3, .phase⟩, ⟨4, .phase⟩, ⟨5, .phase⟩, ⟨6, .phase⟩, ⟨7, .phase⟩, ⟨8, .phase⟩, ⟨9, .phase⟩, ⟨10, .phase⟩, ⟨11, .phase⟩, ⟨12, .phase⟩, { on := 13, ground := Ground.textOnly Departure.lateStores }, ⟨14, .phase⟩], none⟩
abbrev q260 : Oper := ⟨some 11, .assign (.tmp 49), 4, "l10_role.go:23", #[⟨13, .data⟩, ⟨15, .chain⟩, ⟨0, .phase⟩, ⟨1, .phase⟩, ⟨2, .phase⟩, ⟨3, .phase⟩, ⟨4, .phase⟩, ⟨5, .phase⟩, ⟨6, .phase⟩, ⟨7, .phase⟩, ⟨8, .phase⟩, ⟨9, .phase⟩, ⟨10, .phase⟩, ⟨11, .phase⟩, ⟨12, .phase⟩, ⟨13, .phase⟩, ⟨14, .phase⟩, ⟨15, .phase⟩], none⟩

theorem box5_set {w : World} {g : Nat} {c0 c1 c2 c3 c4 : Value} {T : TypeId} (h : w.heap[g]? = some (.cells #[c0, c1, c2, c3, c4] T)) (u0 u1 u2 u3 u4 : Value) : (((((w.setCell ⟨g, 0, none⟩ u0).setCell ⟨g, 1, none⟩ u1).setCell ⟨g, 2, none⟩ u2).setCell ⟨g, 3, none⟩ u3).setCell ⟨g, 4, none⟩ u4).heap[g]? = some (.cells #[u0, u1, u2, u3, u4] T) :=
 set_block5 (j := 4) (set_block5 (j := 3) (set_block5 (j := 2) (set_block5 (j := 1) (set_block5 (j := 0) h u0) u1) u2) u3) u4

theorem kept_set5 {w : World} {i g : Nat} {o : Obj} (h : w.heap[i]? = some o) (hne : i ≠ g) (u0 u1 u2 u3 u4 : Value) : (((((w.setCell ⟨g, 0, none⟩ u0).setCell ⟨g, 1, none⟩ u1).setCell ⟨g, 2, none⟩ u2).setCell ⟨g, 3, none⟩ u3).setCell ⟨g, 4, none⟩ u4).heap[i]? = some o :=
 kept_set (kept_set (kept_set (kept_set (kept_set h hne) hne) hne) hne) hne

structure BvSt (w W : World) (v f : VD) : Prop where
 res : W.heap[w.heap.size]? = some (.cells #[.int .i64 0, .int .i64 0, .int .i64 0, .int .i64 0, .int .i64 0] 82)
 best : W.heap[w.heap.size + 1]? = some (.cells #[.int .i64 v.r, .int .i64 v.c, .int .i64 v.h, .int .i64 v.b, .int .i64 v.p] 82)
 frm : W.heap[w.heap.size + 1 + 1]? = some (.cells #[.int .i64 f.r, .int .i64 f.c, .int .i64 f.h, .int .i64 f.b, .int .i64 f.p] 82)
 below : Below w.heap.size w W

theorem BvSt.later {w W W' : World} {v f : VD} (h : BvSt w W v f) (hb : Below W.heap.size W W') : BvSt w W' v f :=
 ⟨kept_block h.res hb, kept_block h.best hb, kept_block h.frm hb, gr_trans h.below hb⟩

theorem BvSt.setBest {w W : World} {v f : VD} (h : BvSt w W v f) (u : VD) : BvSt w (((((W.setCell ⟨w.heap.size + 1, 0, none⟩ (.int .i64 u.r)).setCell ⟨w.heap.size + 1, 1, none⟩ (.int .i64 u.c)).setCell ⟨w.heap.size + 1, 2, none⟩ (.int .i64 u.h)).setCell ⟨w.heap.size + 1, 3, none⟩ (.int .i64 u.b)).setCell ⟨w.heap.size + 1, 4, none⟩ (.int .i64 u.p)) u f :=
 ⟨kept_set5 h.res (by omega) _ _ _ _ _, box5_set h.best _ _ _ _ _, kept_set5 h.frm (by omega) _ _ _ _ _, below_set5 h.below (by omega) _ _ _ _ _⟩

theorem BvSt.setFrom {w W : World} {v f : VD} (h : BvSt w W v f) (u : VD) : BvSt w (((((W.setCell ⟨w.heap.size + 1 + 1, 0, none⟩ (.int .i64 u.r)).setCell ⟨w.heap.size + 1 + 1, 1, none⟩ (.int .i64 u.c)).setCell ⟨w.heap.size + 1 + 1, 2, none⟩ (.int .i64 u.h)).setCell ⟨w.heap.size + 1 + 1, 3, none⟩ (.int .i64 u.b)).setCell ⟨w.heap.size + 1 + 1, 4, none⟩ (.int .i64 u.p)) v u :=
 ⟨kept_set5 h.res (by omega) _ _ _ _ _, kept_set5 h.best (by omega) _ _ _ _ _, box5_set h.frm _ _ _ _ _, below_set5 h.below (by omega) _ _ _ _ _⟩

set_option maxRecDepth 100000 in
set_option maxHeartbeats 4000000 in
theorem specBestVec_any (id : Int) (a : Option Addr) (n c : Nat) (l : List PT) (w : World) (h : GRow ptF w a n c l) :
  Calls Tryz.prog 187 #[.int .i64 id, .slice a n c] w fun e w' => e = .returned (.tuple #[.agg #[.int .i64 (bestV id (bestOf id l)).r, .int .i64 (bestV id (bestOf id l)).c, .int .i64 (bestV id (bestOf id l)).h, .int .i64 (bestV id (bestOf id l)).b, .int .i64 (bestV id (bestOf id l)).p], .int .i64 (bestP (bestOf id l))]) ∧ Below w.heap.size w w' := by
 have hle := h.le
 have htop := h.top
 unfold maxLen at htop
 have hsz := hide h.size
 go_enter Tryz.func187, Tryz.ntmps187
 go_wp2_with fail
 generalize hw3 : ((w.alloc (Obj.cells #[.int .i64 0, .int .i64 0, .int .i64 0, .int .i64 0, .int .i64 0] 82)).alloc (Obj.cells #[.int .i64 id, .int .i64 0, .int .i64 0, .int .i64 id, .int .i64 0] 82)).alloc (Obj.cells #[.int .i64 0, .int .i64 0, .int .i64 0, .int .i64 0, .int .i64 0] 82) = w3
 have st3 : BvSt w w3 (bestV id none) (fromV none) := by
  subst hw3
  obtain ⟨k0, k1, k2⟩ := kept_three (Below.refl _ (((w.alloc (Obj.cells #[.int .i64 0, .int .i64 0, .int .i64 0, .int .i64 0, .int .i64 0] 82)).alloc (Obj.cells #[.int .i64 id, .int .i64 0, .int .i64 0, .int .i64 id, .int .i64 0] 82)).alloc (Obj.cells #[.int .i64 0, .int .i64 0, .int .i64 0, .int .i64 0, .int .i64 0] 82)))
  exact ⟨k0, k1, k2, below_three _ _ _ _⟩
 clear hw3
 go_loopw [8, 9] (fun p i wr => ∃ (k : Nat) (s : Option (VD × Nat)), k ≤ n ∧ i = .int .i64 k ∧ p = .int .i64 (bestP s) ∧ bestTo id l k = s ∧ BvSt w wr (bestV id s) (fromV s)) (fun _ i _ => n - (intOf i).toNat)
 case atStart => exact ⟨0, none, Nat.zero_le _, rfl, rfl, rfl, st3⟩
 case round =>
  obtain ⟨k, s, hk, rfl, rfl, hs, st⟩ := hrel
  obtain ⟨bv, hbv⟩ : ∃ y, y = bestV id s := ⟨_, rfl⟩
  obtain ⟨fv, hfv⟩ : ∃ y, y = fromV s := ⟨_, rfl⟩
  have BACK : Hid (∀ W, BvSt w W bv fv → BvSt w W (bestV id s) (fromV s)) := hide (by subst hbv hfv; exact fun W h => h)
  rw [← hbv, ← hfv] at st
  have HBV := hide hbv
  have HFV := hide hfv
  clear hbv hfv
  by_cases hlt : k < n
  ·obtain ⟨x, b, off, hx, rfl, c0, c1, c2, c3, c4, c5, c6, c7⟩ := pt_at (h.below st.below) k hlt
   have hnx := bestTo_next (id := id) hx
   rw [hs] at hnx
   have i1 : (0 : Int) ≤ (k : Int) := by omega
   have i2 : (k : Int) < (n : Int) := by omega
   have NX := hide hnx
   clear hs hnx hx
   cases hu : x.up
   ·rw [hu] at c0
    have HE := hide (NX.out.trans (bestStep_no (by unfold offers; rw [hu]; rfl)))
    clear hu c1 c2 c3 c4 c5 c6 c7
    go_wp2
    go_roundw
    case rel => exact ⟨k + 1, s, by omega, by go_num, rfl, HE.out, BACK.out _ st⟩
    case measure => simp [intOf]; omega
   cases hh : x.has
   ·rw [hu] at c0
    rw [hh] at c2
    have HE := hide (NX.out.trans (bestStep_no (by unfold offers; rw [hu, hh]; rfl)))
    clear hu hh c1 c3 c4 c5 c6 c7
    go_wp2
    go_roundw
    case rel => exact ⟨k + 1, s, by omega, by go_num, rfl, HE.out, BACK.out _ st⟩
    case measure => simp [intOf]; omega
   rw [hu] at c0
   rw [hh] at c2
   have HUH : Hid (x.up = true ∧ x.has = true) := hide ⟨hu, hh⟩
   have HSS : Hid (∀ W', Below wr.heap.size wr W' → W'.cell? ⟨b, off + k * 8 + 1, none⟩ = some (.int .i64 x.k) ∧ W'.cell? ⟨b, off + k * 8 + 3, none⟩ = some (.int .i64 x.v.r) ∧ W'.cell? ⟨b, off + k * 8 + 4, none⟩ = some (.int .i64 x.v.c) ∧ W'.cell? ⟨b, off + k * 8 + 5, none⟩ = some (.int .i64 x.v.h) ∧ W'.cell? ⟨b, off + k * 8 + 6, none⟩ = some (.int .i64 x.v.b) ∧ W'.cell? ⟨b, off + k * 8 + 7, none⟩ = some (.int .i64 x.v.p)) := hide (fun W' hb => ⟨(hb.cell (block_lt c1)).trans c1, (hb.cell (block_lt c3)).trans c3, (hb.cell (block_lt c4)).trans c4, (hb.cell (block_lt c5)).trans c5, (hb.cell (block_lt c6)).trans c6, (hb.cell (block_lt c7)).trans c7⟩)
   obtain ⟨q, hq⟩ : ∃ q, stepOk x.v.r x.v.c x.v.h x.v.b x.v.p x.k = q := ⟨_, rfl⟩
   obtain ⟨u, hu'⟩ : ∃ u, u = (if q = true then stepV x.v x.k else x.v) := ⟨_, rfl⟩
   have HST := hide hq
   have HQ : Hid ((if q = true then Value.agg #[.int .i64 x.v.r, .int .i64 (x.v.c + x.k), .int .i64 (x.v.h + 1), .int .i64 x.v.b, .int .i64 x.v.p] else Value.agg #[.int .i64 x.v.r, .int .i64 x.v.c, .int .i64 x.v.h, .int .i64 x.v.b, .int .i64 x.v.p]) = .agg #[.int .i64 u.r, .int .i64 u.c, .int .i64 u.h, .int .i64 u.b, .int .i64 u.p]) := hide (by subst hu'; cases q <;> rfl)
   have HU := hide hu'
   have ST := hide st
   clear hq hu' hu hh c1 c3 c4 c5 c6 c7
   go_upto_region 8 with fail
   clear c0 c2
   go_cut [10, 11] from 16 to 75 (fun s10 s11 wx => ∃ g : Nat, s10 = .pointer (some ⟨g, 0, none⟩) ∧ s11 = .bool q ∧ wr.heap.size ≤ g ∧ wx.heap[g]? = some (.cells #[.int .i64 u.r, .int .i64 u.c, .int .i64 u.h, .int .i64 u.b, .int .i64 u.p] 82) ∧ Below wr.heap.size wr wx)
   case first =>
    have vv : Below wr.heap.size wr wr.drew := gr_drew (Below.refl _ _)
    go_wp2_with fail
    refine wp_region_held_drew (S := (fun W => W.cell? ⟨b, off + k * 8 + 1, none⟩ = some (.int .i64 x.k) ∧ W.cell? ⟨b, off + k * 8 + 3, none⟩ = some (.int .i64 x.v.r) ∧ W.cell? ⟨b, off + k * 8 + 4, none⟩ = some (.int .i64 x.v.c) ∧ W.cell? ⟨b, off + k * 8 + 5, none⟩ = some (.int .i64 x.v.h) ∧ W.cell? ⟨b, off + k * 8 + 6, none⟩ = some (.int .i64 x.v.b) ∧ W.cell? ⟨b, off + k * 8 + 7, none⟩ = some (.int .i64 x.v.p))) (by kernel_rfl) (HSS.out _ vv) (fun hHeld => ?_)
    refine kK 0 ⟨some 37, .move (.tmp 1), 65, "l10_role.go:23", #[], none⟩ ?_
    refine kK 1 ⟨some 38, .move (.tmp 9), 3, "l10_role.go:23", #[], none⟩ ?_
    refine kK 2 ⟨some 39, .indexAddr 65 (.tmp 37) (.tmp 38), 0, "l10_role.go:23", #[⟨0, .data⟩, ⟨1, .data⟩], none⟩ ?_
    refine kK 3 ⟨some 40, .fieldAddr 89 (.tmp 39) 3, 0, "l10_role.go:23", #[⟨2, .data⟩], none⟩ ?_
    refine kK 4 ⟨some 41, .load 82 (.tmp 40), 82, "l10_role.go:23", #[⟨3, .data⟩], none⟩ ?_
    refine kK 5 ⟨some 42, .move (.tmp 1), 65, "l10_role.go:23", #[], none⟩ ?_
    refine kK 6 ⟨some 43, .move (.tmp 9), 3, "l10_role.go:23", #[], none⟩ ?_
    refine kK 7 ⟨some 44, .indexAddr 65 (.tmp 42) (.tmp 43), 0, "l10_role.go:23", #[⟨5, .data⟩, ⟨6, .data⟩], none⟩ ?_
    refine kK 8 ⟨some 45, .fieldAddr 89 (.tmp 44) 1, 0, "l10_role.go:23", #[⟨7, .data⟩], none⟩ ?_
    refine kK 9 ⟨some 46, .load 3 (.tmp 45), 3, "l10_role.go:23", #[⟨8, .data⟩], none⟩ ?_
    refine tR [10, 14] ?_
    refine AllReadyH.cons (o := q254) rfl (fun K hK => ?_) ?_
    ·go_simp
     refine (specStepVec_any x.v.r x.v.c x.v.h x.v.b x.v.p x.k _).mono ?_
     rintro e wx ⟨rfl, hbx⟩
     rw [HST.out, HQ.out]
     try have kB := kept_block kB hbx
     have vv := gr_trans vv hbx
     clear hbx
     go_wp2_with fail
     refine hK.out _ _ (HSS.out _ vv) (fun hHeld => ?_)
     clear hK K
     try simp only [Act.put, lA, lB, lC]
     refine kK 11 q255 ?_
     refine kK 12 q256 ?_
     refine kK 13 q257 ?_
     refine kR 14 q258 (fun K hK => ?_)
     go_simp
     first
     | refine made_new (K := K _) (fun wx kB hbx => ?_)
     | refine made_drew (K := K _) (fun wx kB hbx => ?_)
     have gB := vv.size
     have vv := gr_trans vv hbx
     clear hbx
     refine hK.out _ _ (HSS.out _ vv) (fun hHeld => ?_)
     clear hK K
     try simp only [Act.put, lA, lB, lC]
     refine kR 15 q259 (fun K hK => ?_)
     obtain ⟨⟨b0, b1, b2, b3, b4⟩, f0, f1, f2, f3, f4⟩ := cells5 kB
     go_simp
     have vv := below_set5 vv gB (.int .i64 u.r) (.int .i64 u.c) (.int .i64 u.h) (.int .i64 u.b) (.int .i64 u.p)
     have kB := box5_set kB (.int .i64 u.r) (.int .i64 u.c) (.int .i64 u.h) (.int .i64 u.b) (.int .i64 u.p)
     clear b0 b1 b2 b3 b4 f0 f1 f2 f3 f4
     refine hK.out _ _ (HSS.out _ vv) (fun hHeld => ?_)
     clear hK K
     try simp only [Act.put, lA, lB, lC]
     refine kK 16 q260 ?_
     refine wpAnyH_done (by kernel_rfl) ?_ _
     clear hHeld
     go_wp2_with fail
     go_meet
     exact ⟨_, rfl, rfl, gB, kB, vv⟩
    refine AllReadyH.cons (o := q258) rfl (fun K hK => ?_) ?_
    ·go_simp
     first
     | refine made_new (K := K _) (fun wx kB hbx => ?_)
     | refine made_drew (K := K _) (fun wx kB hbx => ?_)
     have gB := vv.size
     have vv := gr_trans vv hbx
     clear hbx
     refine hK.out _ _ (HSS.out _ vv) (fun hHeld => ?_)
     clear hK K
     try simp only [Act.put, lA, lB, lC]
     refine kR 10 q254 (fun K hK => ?_)
     go_simp
     refine (specStepVec_any x.v.r x.v.c x.v.h x.v.b x.v.p x.k _).mono ?_
     rintro e wx ⟨rfl, hbx⟩
     rw [HST.out, HQ.out]
     try have kB := kept_block kB hbx
     have vv := gr_trans vv hbx
     clear hbx
     go_wp2_with fail
     refine hK.out _ _ (HSS.out _ vv) (fun hHeld => ?_)
     clear hK K
     try simp only [Act.put, lA, lB, lC]
     refine kK 11 q255 ?_
     refine kK 12 q256 ?_
     refine kK 13 q257 ?_
     refine kR 15 q259 (fun K hK => ?_)
     obtain ⟨⟨b0, b1, b2, b3, b4⟩, f0, f1, f2, f3, f4⟩ := cells5 kB
     go_simp
     have vv := below_set5 vv gB (.int .i64 u.r) (.int .i64 u.c) (.int .i64 u.h) (.int .i64 u.b) (.int .i64 u.p)
     have kB := box5_set kB (.int .i64 u.r) (.int .i64 u.c) (.int .i64 u.h) (.int .i64 u.b) (.int .i64 u.p)
     clear b0 b1 b2 b3 b4 f0 f1 f2 f3 f4
     refine hK.out _ _ (HSS.out _ vv) (fun hHeld => ?_)
     clear hK K
     try simp only [Act.put, lA, lB, lC]
     refine kK 16 q260 ?_
     refine wpAnyH_done (by kernel_rfl) ?_ _
     clear hHeld
     go_wp2_with fail
     go_meet
     exact ⟨_, rfl, rfl, gB, kB, vv⟩
    exact AllReadyH.nil
   case rest =>
    obtain ⟨g, rfl, rfl, hg, kX, hb⟩ := hcut
    obtain ⟨wS, hwS⟩ : ∃ x, x = wc := ⟨_, rfl⟩
    subst hwS
    have st := ST.out.later hb
    have hz := ST.out.frm
    have hlt2 := (Array.getElem?_eq_some_iff.1 hz).1
    have ne1 : ¬ g = w.heap.size + 1 + 1 := by omega
    have ne2 : ¬ w.heap.size + 1 + 1 = g := by omega
    have ne3 : ¬ g = w.heap.size + 1 := by omega
    have ne4 : ¬ w.heap.size + 1 = g := by omega
    obtain ⟨⟨x0, x1, x2, x3, x4⟩, -⟩ := cells5 kX
    have KX := hide kX
    clear hb hz hlt2 hg kX
    cases q
    ·have HE := hide (NX.out.trans (bestStep_no (by unfold offers stepsV; rw [HST.out]; simp)))
     go_wp2
     go_roundw
     case rel => exact ⟨k + 1, s, by omega, by go_num, rfl, HE.out, BACK.out _ st⟩
     case measure => simp [intOf]; omega
    have hur : u.r = x.v.r := by rw [HU.out]; rfl
    cases hlr : decide (u.r < id)
    ·have HE := hide (NX.out.trans (bestStep_no (by unfold offers; rw [← hur, hlr]; simp)))
     have hlr : ¬ u.r < id := by simpa using hlr
     clear hur
     go_wp2
     go_roundw
     case rel => exact ⟨k + 1, s, by omega, by go_num, rfl, HE.out, BACK.out _ st⟩
     case measure => simp [intOf]; omega
    have ho : offers id x = true := by unfold offers stepsV; rw [HUH.out.1, HUH.out.2, HST.out, ← hur, hlr]; rfl
    have hlr : u.r < id := by simpa using hlr
    have huu : stepV x.v x.k = u := HU.out.symm
    have HO := hide ho
    have HUU := hide huu
    clear hur ho huu
    clear ne3 ne4
    cases s with
    | none =>
     have HE : Hid (bestTo id l (k + 1) = some (u, k)) := hide (by rw [NX.out]; unfold bestStep; rw [if_pos HO.out, HUU.out])
     rw [show bestP none = -1 from rfl]
     have SL := hide st
     obtain ⟨⟨z0, z1, z2, z3, z4⟩, v0, v1, v2, v3, v4⟩ := cells5 st.frm
     clear st
     go_upto_region 11 with fail
     generalize hwf : ((((wS.setCell ⟨w.heap.size + 1 + 1, 0, none⟩ (.int .i64 u.r)).setCell ⟨w.heap.size + 1 + 1, 1, none⟩ (.int .i64 u.c)).setCell ⟨w.heap.size + 1 + 1, 2, none⟩ (.int .i64 u.h)).setCell ⟨w.heap.size + 1 + 1, 3, none⟩ (.int .i64 u.b)).setCell ⟨w.heap.size + 1 + 1, 4, none⟩ (.int .i64 u.p) = wf
     have stf : BvSt w wf bv u := by rw [← hwf]; exact SL.out.setFrom u
     have kf : wf.heap[g]? = some (.cells #[.int .i64 u.r, .int .i64 u.c, .int .i64 u.h, .int .i64 u.b, .int .i64 u.p] 82) := by rw [← hwf]; exact kept_set5 KX.out (by omega) _ _ _ _ _
     clear hwf x0 x1 x2 x3 x4 v0 v1 v2 v3 v4 z0 z1 z2 z3 z4
     obtain ⟨⟨x0, x1, x2, x3, x4⟩, -⟩ := cells5 kf
     obtain ⟨⟨n0, n1, n2, n3, n4⟩, m0, m1, m2, m3, m4⟩ := cells5 stf.best
     have HSET : Hid (BvSt w _ ⟨u.r, u.c, u.h, id, 0⟩ u) := hide (stf.setBest ⟨u.r, u.c, u.h, id, 0⟩)
     clear stf kf
     go_wp2
     go_roundw
     case rel => exact ⟨k + 1, some (u, k), by omega, by go_num, rfl, HE.out, HSET.out⟩
     case measure => simp [intOf]; omega
    | some fj =>
     obtain ⟨f, j⟩ := fj
     rw [show bestP (some (f, j)) = (j : Int) from rfl]
     have hneg : ¬ ((j : Int) < 0) := by omega
     have hff : fv = f := HFV.out
     subst hff
     obtain ⟨⟨z0, z1, z2, z3, z4⟩, -⟩ := cells5 st.frm
     cases hl : lessV u fv
     ·have HE : Hid (bestTo id l (k + 1) = some (fv, j)) := hide (by rw [NX.out]; unfold bestStep; rw [if_pos HO.out, HUU.out]; simp only; rw [if_neg (by rw [hl]; decide)])
      have HL : Hid (lessVc u.r u.c u.b u.p fv.r fv.c fv.b fv.p = false) := hide hl
      clear hl
      go_wp2_with fail
      refine (specLessVec_any u.r u.c u.h u.b u.p fv.r fv.c fv.h fv.b fv.p _).mono ?_
      rintro e wl ⟨rfl, hbl⟩
      rw [HL.out]
      have SL := hide (st.later hbl)
      clear hbl st z0 z1 z2 z3 z4 x0 x1 x2 x3 x4
      go_wp2
      go_roundw
      case rel => exact ⟨k + 1, some (fv, j), by omega, by go_num, rfl, HE.out, BACK.out _ SL.out⟩
      case measure => simp [intOf]; omega
     ·have HE : Hid (bestTo id l (k + 1) = some (u, k)) := hide (by rw [NX.out]; unfold bestStep; rw [if_pos HO.out, HUU.out]; simp only; rw [if_pos hl])
      have HL : Hid (lessVc u.r u.c u.b u.p fv.r fv.c fv.b fv.p = true) := hide hl
      clear hl
      go_wp2_with fail
      refine (specLessVec_any u.r u.c u.h u.b u.p fv.r fv.c fv.h fv.b fv.p _).mono ?_
      rintro e wl ⟨rfl, hbl⟩
      rw [HL.out]
      have SL := hide (st.later hbl)
      have KX := hide (kept_block KX.out hbl)
      clear hbl st z0 z1 z2 z3 z4 x0 x1 x2 x3 x4
      obtain ⟨⟨x0, x1, x2, x3, x4⟩, -⟩ := cells5 KX.out
      obtain ⟨⟨z0, z1, z2, z3, z4⟩, v0, v1, v2, v3, v4⟩ := cells5 SL.out.frm
      go_upto_region 11 with fail
      generalize hwf : ((((wl.setCell ⟨w.heap.size + 1 + 1, 0, none⟩ (.int .i64 u.r)).setCell ⟨w.heap.size + 1 + 1, 1, none⟩ (.int .i64 u.c)).setCell ⟨w.heap.size + 1 + 1, 2, none⟩ (.int .i64 u.h)).setCell ⟨w.heap.size + 1 + 1, 3, none⟩ (.int .i64 u.b)).setCell ⟨w.heap.size + 1 + 1, 4, none⟩ (.int .i64 u.p) = wf
      have stf : BvSt w wf bv u := by rw [← hwf]; exact SL.out.setFrom u
      have kf : wf.heap[g]? = some (.cells #[.int .i64 u.r, .int .i64 u.c, .int .i64 u.h, .int .i64 u.b, .int .i64 u.p] 82) := by rw [← hwf]; exact kept_set5 KX.out (by omega) _ _ _ _ _
      clear hwf x0 x1 x2 x3 x4 v0 v1 v2 v3 v4 z0 z1 z2 z3 z4
      obtain ⟨⟨x0, x1, x2, x3, x4⟩, -⟩ := cells5 kf
      obtain ⟨⟨n0, n1, n2, n3, n4⟩, m0, m1, m2, m3, m4⟩ := cells5 stf.best
      have HSET : Hid (BvSt w _ ⟨u.r, u.c, u.h, id, 0⟩ u) := hide (stf.setBest ⟨u.r, u.c, u.h, id, 0⟩)
      clear stf kf
      go_wp2
      go_roundw
      case rel => exact ⟨k + 1, some (u, k), by omega, by go_num, rfl, HE.out, HSET.out⟩
      case measure => simp [intOf]; omega
  ·have hkn : k = n := by omega
   subst hkn
   have HB : Hid (bestOf id l = s) := hide (by unfold bestOf; rw [hsz.out]; exact hs)
   obtain ⟨⟨x0, x1, x2, x3, x4⟩, y0, y1, y2, y3, y4⟩ := cells5 st.best
   obtain ⟨⟨r0, r1, r2, r3, r4⟩, z0, z1, z2, z3, z4⟩ := cells5 st.res
   have ne : ¬ w.heap.size = w.heap.size + 1 := by omega
   have hb := below_set5 st.below (Nat.le_refl w.heap.size) (.int .i64 bv.r) (.int .i64 bv.c) (.int .i64 bv.h) (.int .i64 bv.b) (.int .i64 bv.p)
   clear hs st
   go_wp2
   exact bodyPost_ret (v := .tuple #[.agg #[.int .i64 bv.r, .int .i64 bv.c, .int .i64 bv.h, .int .i64 bv.b, .int .i64 bv.p], .int .i64 (bestP s)]) (by simp [results, Tryz.results187, go_sem, *]) rfl ⟨(by rw [HB.out, ← HBV.out]), hb⟩

abbrev q261 : Oper := ⟨some 34, .move (.tmp 1), 65, "l10_role.go:47", #[], none⟩
abbrev q262 : Oper := ⟨some 35, .move (.tmp 2), 3, "l10_role.go:47", #[], none⟩
abbrev q263 : Oper := ⟨some 36, .indexAddr 65 (.tmp 34) (.tmp 35), 0, "l10_role.go:47", #[⟨0, .data⟩, ⟨1, .data⟩], none⟩
abbrev q264 : Oper := ⟨some 37, .fieldAddr 89 (.tmp 36) 2, 0, "l10_role.go:47", #[⟨2, .data⟩], none⟩
abbrev q265 : Oper := ⟨some 38, .load 4 (.tmp 37), 4, "l10_role.go:47", #[⟨3, .data⟩], none⟩
abbrev q266 : Oper := ⟨some 39, .unOp .not 4 (.tmp 38), 4, "l10_role.go:47", #[⟨4, .data⟩], none⟩
abbrev q267 : Oper := ⟨some 40, .move (.tmp 39), 4, "l10_role.go:47", #[⟨5, .data⟩], none⟩
abbrev q268 : Oper := ⟨some 41, .move (.tmp 0), 3, "l10_role.go:47", #[⟨6, .guard⟩], some (6, false)⟩
abbrev q269 : Oper := ⟨some 42, .move (.tmp 1), 65, "l10_role.go:47", #[⟨6, .guard⟩], some (6, false)⟩
abbrev q270 : Oper := ⟨some 43, .move (.tmp 2), 3, "l10_role.go:47", #[⟨6, .guard⟩], some (6, false)⟩
abbrev q271 : Oper := ⟨some 44, .call ⟨.value (.func 189), #[.tmp 41, .tmp 42, .tmp 43], #[3, 65, 3]⟩, 82, "l10_role.go:47", #[⟨7, .data⟩, ⟨8, .data⟩, ⟨9, .data⟩, ⟨6, .chain⟩, ⟨6, .guard⟩], some (6, false)⟩
abbrev q272 : Oper := ⟨some 45, .move (.tmp 1), 65, "l10_role.go:47", #[⟨6, .guard⟩], some (6, false)⟩
abbrev q273 : Oper := ⟨some 46, .move (.tmp 2), 3, "l10_role.go:47", #[⟨6, .guard⟩], some (6, false)⟩
abbrev q274 : Oper := ⟨some 47, .indexAddr 65 (.tmp 45) (.tmp 46), 0, "l10_role.go:47", #[⟨11, .data⟩, ⟨12, .data⟩, ⟨6, .guard⟩], some (6, false)⟩
abbrev q275 : Oper := ⟨some 48, .fieldAddr 89 (.tmp 47) 3, 0, "l10_role.go:47", #[⟨13, .data⟩, ⟨6, .guard⟩], some (6, false)⟩
abbrev q276 : Oper := ⟨some 49, .load 82 (.tmp 48), 82, "l10_role.go:47", #[⟨14, .data⟩, ⟨6, .guard⟩], some (6, false)⟩
abbrev q277 : Oper := ⟨some 50, .call ⟨.value (.func 188), #[.tmp 44, .tmp 49], #[82, 82]⟩, 4, "l10_role.go:47", #[⟨10, .data⟩, ⟨15, .data⟩, ⟨10, .chain⟩, ⟨6, .guard⟩], some (6, false)⟩
abbrev q278 : Oper := ⟨some 51, .pick (.tmp 40) (.const (.bool true)) (.tmp 50), 4, "l10_role.go:47", #[⟨6, .data⟩, ⟨16, .data⟩], none⟩
abbrev q279 : Oper := ⟨some 33, .assign (.tmp 51), 4, "l10_role.go:47", #[⟨17, .data⟩, ⟨16, .chain⟩], none⟩

set_option maxRecDepth 100000 in
set_option maxHeartbeats 2000000 in
theorem specSayVec_any (id : Int) (a : Option Addr) (n c : Nat) (l : List PT) (port : Int) (w : World) (h : GRow ptF w a n c l) :
  Calls Tryz.prog 189 #[.int .i64 id, .slice a n c, .int .i64 port] w fun e w' => e = .returned (.agg #[.int .i64 (sayV id l port).r, .int .i64 (sayV id l port).c, .int .i64 (sayV id l port).h, .int .i64 (sayV id l port).b, .int .i64 (sayV id l port).p]) ∧ Below w.heap.size w w' := by
 generalize hw1 : w.alloc (Obj.cells #[.int .i64 0, .int .i64 0, .int .i64 0, .int .i64 0, .int .i64 0] 82) = w1
 have q1 : Below w.heap.size w w1 := by rw [← hw1]; exact below_one _ _
 have k1 : w1.heap[w.heap.size]? = some (.cells #[.int .i64 0, .int .i64 0, .int .i64 0, .int .i64 0, .int .i64 0] 82) := by rw [← hw1]; exact block_last _ _
 have hsb : (sayV id l port) = ⟨(bestV id (bestOf id l)).r, (bestV id (bestOf id l)).c, (bestV id (bestOf id l)).h, (bestV id (bestOf id l)).b, port⟩ := by
  unfold sayV
  cases bestOf id l <;> rfl
 rw [hsb]
 clear hsb
 go_enter Tryz.func189, Tryz.ntmps189
 go_wp2_with fail
 refine (specBestVec_any id a n c l _ (h.below q1)).mono ?_
 rintro e w2 ⟨rfl, hb2⟩
 generalize hv : bestV id (bestOf id l) = v
 have HV := hide hv
 clear hv
 generalize hw3 : w2.alloc (Obj.cells #[.int .i64 v.r, .int .i64 v.c, .int .i64 v.h, .int .i64 v.b, .int .i64 v.p] 82) = w3
 have hb3 : Below w2.heap.size w2 w3 := by rw [← hw3]; exact below_one _ _
 have k3 : w3.heap[w2.heap.size]? = some (.cells #[.int .i64 v.r, .int .i64 v.c, .int .i64 v.h, .int .i64 v.b, .int .i64 v.p] 82) := by rw [← hw3]; exact block_last _ _
 have k1 := kept_block (kept_block k1 hb2) hb3
 have lt1 := (Array.getElem?_eq_some_iff.1 (kept_block (by rw [← hw1]; exact block_last _ _ : w1.heap[w.heap.size]? = some (.cells #[.int .i64 0, .int .i64 0, .int .i64 0, .int .i64 0, .int .i64 0] 82)) hb2)).1
 have ne1 : ¬ w2.heap.size = w.heap.size := by omega
 have ne2 : ¬ w.heap.size = w2.heap.size := by omega
 have HB := hide (below_set5 (below_set (gr_trans (gr_trans q1 hb2) hb3) (g := w2.heap.size) (by omega) 4 (.int .i64 port)) (Nat.le_refl w.heap.size) (.int .i64 v.r) (.int .i64 v.c) (.int .i64 v.h) (.int .i64 v.b) (.int .i64 port))
 obtain ⟨⟨x0, x1, x2, x3, x4⟩, y0, y1, y2, y3, y4⟩ := cells5 k3
 obtain ⟨⟨r0, r1, r2, r3, r4⟩, z0, z1, z2, z3, z4⟩ := cells5 k1
 clear hb2 hb3 k1 k3 q1 lt1
 go_wp2
 exact bodyPost_ret (v := .agg #[.int .i64 v.r, .int .i64 v.c, .int .i64 v.h, .int .i64 v.b, .int .i64 port]) (by simp [results, Tryz.results189, go_sem, *]) rfl ⟨(by rw [HV.out]), HB.out⟩

set_option maxRecDepth 100000 in
set_option maxHeartbeats 4000000 in
theorem specRole_any (id : Int) (a : Option Addr) (n c : Nat) (l : List PT) (port : Int) (w : World) (h : GRow ptF w a n c l) :
  Calls Tryz.prog 155 #[.int .i64 id, .slice a n c, .int .i64 port] w fun e w' => e = .returned (.int .i64 (roleOf id l port)) ∧ Below w.heap.size w w' := by
 have hle := h.le
 have htop := h.top
 unfold maxLen at htop
 have hsz := hide h.size
 cases hin : (decide (0 ≤ port) && decide (port ≤ (n : Int) - 1))
 ·have HIN := hide hin
  have HR : Hid (roleOf id l port = 4) := hide (by unfold roleOf; rw [hsz.out, hin]; rfl)
  clear hin
  go_enter Tryz.func155, Tryz.ntmps155
  go_wp2_with fail
  refine (within_any port 0 ((n : Int) - 1) _).mono ?_
  rintro e w1 ⟨rfl, ew⟩
  obtain rfl := ew.symm
  rw [HIN.out]
  go_wp2
  go_ret
  exact ⟨(by rw [HR.out]; rfl), Below.refl _ _⟩
 obtain ⟨k, rfl⟩ : ∃ k : Nat, port = (k : Int) := ⟨port.toNat, by simp at hin; omega⟩
 have hlt : k < n := by simp at hin; omega
 have HIN := hide hin
 have i1 : (0 : Int) ≤ (k : Int) := by omega
 have i2 : (k : Int) < (n : Int) := by omega
 obtain ⟨x, b, off, hx, rfl, c0, c1, c2, c3, c4, c5, c6, c7⟩ := pt_at h k hlt
 have hro : roleOf id l (k : Int) = roleAt id l k x := by
  unfold roleOf
  rw [hsz.out, hin]
  simp [hx]
 have HRO := hide hro
 clear hin hro
 cases hu : x.up
 ·rw [hu] at c0
  have HR : Hid (roleOf id l (k : Int) = 4) := hide (by rw [HRO.out]; unfold roleAt; rw [if_pos hu])
  clear hu c1 c2 c3 c4 c5 c6 c7 hx
  go_enter Tryz.func155, Tryz.ntmps155
  go_wp2_with fail
  refine (within_any (k : Int) 0 ((n : Int) - 1) _).mono ?_
  rintro e w1 ⟨rfl, ew⟩
  obtain rfl := ew.symm
  rw [HIN.out]
  go_wp2
  go_ret
  exact ⟨(by rw [HR.out]; rfl), Below.refl _ _⟩
 rw [hu] at c0
 have HU := hide hu
 clear hu
 by_cases hp : bestP (bestOf id l) = (k : Int)
 ·have HR : Hid (roleOf id l (k : Int) = 1) := hide (by rw [HRO.out]; unfold roleAt; rw [if_neg (by rw [HU.out]; decide), if_pos hp])
  have HP := hide hp
  clear c1 c2 c3 c4 c5 c6 c7 hx hp
  go_enter Tryz.func155, Tryz.ntmps155
  go_wp2_with fail
  refine (within_any (k : Int) 0 ((n : Int) - 1) _).mono ?_
  rintro e w1 ⟨rfl, ew⟩
  obtain rfl := ew.symm
  rw [HIN.out]
  go_wp2_with fail
  refine (specBestVec_any id (some ⟨b, off, none⟩) n c l _ h).mono ?_
  rintro e w2 ⟨rfl, hb2⟩
  rw [HP.out]
  have HB := hide (gr_trans hb2 (below_one _ (Obj.cells #[.int .i64 (bestV id (bestOf id l)).r, .int .i64 (bestV id (bestOf id l)).c, .int .i64 (bestV id (bestOf id l)).h, .int .i64 (bestV id (bestOf id l)).b, .int .i64 (bestV id (bestOf id l)).p] 82)))
  clear hb2 c0
  go_wp2
  go_ret
  exact ⟨(by rw [HR.out]; rfl), HB.out⟩
 go_enter Tryz.func155, Tryz.ntmps155
 go_wp2_with fail
 refine (within_any (k : Int) 0 ((n : Int) - 1) _).mono ?_
 rintro e w1 ⟨rfl, ew⟩
 obtain rfl := ew.symm
 rw [HIN.out]
 go_wp2_with fail
 refine (specBestVec_any id (some ⟨b, off, none⟩) n c l _ h).mono ?_
 rintro e w2 ⟨rfl, hb2⟩
 generalize hw3 : w2.alloc (Obj.cells #[.int .i64 (bestV id (bestOf id l)).r, .int .i64 (bestV id (bestOf id l)).c, .int .i64 (bestV id (bestOf id l)).h, .int .i64 (bestV id (bestOf id l)).b, .int .i64 (bestV id (bestOf id l)).p] 82) = w3
 have HB : Hid (Below w.heap.size w w3) := hide (gr_trans hb2 (by rw [← hw3]; exact below_one _ _))
 clear hb2 c0 c1 c2 c3 c4 c5 c6 c7
 obtain ⟨x', b', off', hx', ha', c0, c1, c2, c3, c4, c5, c6, c7⟩ := pt_at (h.below HB.out) k hlt
 rw [hx] at hx'
 cases hx'
 cases ha'
 generalize hP : bestP (bestOf id l) = P at *
 have hPne : (P == (k : Int)) = false := by simp [hp]
 have HX := hide hx
 have vv : Below w3.heap.size w3 w3.drew := gr_drew (Below.refl _ _)
 have HR0 : Hid (roleOf id l (k : Int) = (if (!x.has || lessV (sayV id l (k : Int)) x.v) = true then 2 else 3)) := hide (by rw [HRO.out]; unfold roleAt; rw [if_neg (by rw [HU.out]; decide), hP, if_neg hp])
 clear c0 c1 hx hP
 cases hh : x.has
 ·rw [hh] at c2
  have HR : Hid (roleOf id l (k : Int) = 2) := hide (by rw [HR0.out, hh]; rfl)
  have HSS : Hid (∀ W', Below w3.heap.size w3 W' → W'.cell? ⟨b, off + k * 8 + 2, none⟩ = some (.bool false) ∧ W'.cell? ⟨b, off + k * 8 + 3, none⟩ = some (.int .i64 x.v.r) ∧ W'.cell? ⟨b, off + k * 8 + 4, none⟩ = some (.int .i64 x.v.c) ∧ W'.cell? ⟨b, off + k * 8 + 5, none⟩ = some (.int .i64 x.v.h) ∧ W'.cell? ⟨b, off + k * 8 + 6, none⟩ = some (.int .i64 x.v.b) ∧ W'.cell? ⟨b, off + k * 8 + 7, none⟩ = some (.int .i64 x.v.p)) := hide (fun W' hb => ⟨(hb.cell (block_lt c2)).trans c2, (hb.cell (block_lt c3)).trans c3, (hb.cell (block_lt c4)).trans c4, (hb.cell (block_lt c5)).trans c5, (hb.cell (block_lt c6)).trans c6, (hb.cell (block_lt c7)).trans c7⟩)
  clear c2 c3 c4 c5 c6 c7 hh
  go_wp2_with fail
  refine wp_region_held_drew (S := (fun W => W.cell? ⟨b, off + k * 8 + 2, none⟩ = some (.bool false) ∧ W.cell? ⟨b, off + k * 8 + 3, none⟩ = some (.int .i64 x.v.r) ∧ W.cell? ⟨b, off + k * 8 + 4, none⟩ = some (.int .i64 x.v.c) ∧ W.cell? ⟨b, off + k * 8 + 5, none⟩ = some (.int .i64 x.v.h) ∧ W.cell? ⟨b, off + k * 8 + 6, none⟩ = some (.int .i64 x.v.b) ∧ W.cell? ⟨b, off + k * 8 + 7, none⟩ = some (.int .i64 x.v.p))) (by kernel_rfl) (HSS.out _ vv) (fun hHeld => ?_)
  refine kK 0 q261 ?_
  refine kK 1 q262 ?_
  refine kK 2 q263 ?_
  refine kK 3 q264 ?_
  refine kK 4 q265 ?_
  refine kK 5 q266 ?_
  refine kK 6 q267 ?_
  refine kN 7 q268 ?_
  refine kN 8 q269 ?_
  refine kN 9 q270 ?_
  refine kN 10 q271 ?_
  refine kN 11 q272 ?_
  refine kN 12 q273 ?_
  refine kN 13 q274 ?_
  refine kN 14 q275 ?_
  refine kN 15 q276 ?_
  refine kN 16 q277 ?_
  refine kK 17 q278 ?_
  refine kK 18 q279 ?_
  refine wpAnyH_done (by kernel_rfl) ?_ _
  clear hHeld
  go_wp2
  go_ret
  exact ⟨(by rw [HR.out]; rfl), gr_trans HB.out vv⟩
 ·rw [hh] at c2
  have HSS : Hid (∀ W', Below w3.heap.size w3 W' → W'.cell? ⟨b, off + k * 8 + 2, none⟩ = some (.bool true) ∧ W'.cell? ⟨b, off + k * 8 + 3, none⟩ = some (.int .i64 x.v.r) ∧ W'.cell? ⟨b, off + k * 8 + 4, none⟩ = some (.int .i64 x.v.c) ∧ W'.cell? ⟨b, off + k * 8 + 5, none⟩ = some (.int .i64 x.v.h) ∧ W'.cell? ⟨b, off + k * 8 + 6, none⟩ = some (.int .i64 x.v.b) ∧ W'.cell? ⟨b, off + k * 8 + 7, none⟩ = some (.int .i64 x.v.p)) := hide (fun W' hb => ⟨(hb.cell (block_lt c2)).trans c2, (hb.cell (block_lt c3)).trans c3, (hb.cell (block_lt c4)).trans c4, (hb.cell (block_lt c5)).trans c5, (hb.cell (block_lt c6)).trans c6, (hb.cell (block_lt c7)).trans c7⟩)
  clear c2 c3 c4 c5 c6 c7
  cases hl : lessV (sayV id l (k : Int)) x.v
  ·have HR : Hid (roleOf id l (k : Int) = 3) := hide (by rw [HR0.out, hh, hl]; rfl)
   have HL : Hid (lessVc (sayV id l (k : Int)).r (sayV id l (k : Int)).c (sayV id l (k : Int)).b (sayV id l (k : Int)).p x.v.r x.v.c x.v.b x.v.p = false) := hide hl
   clear hh hl
   go_wp2_with fail
   refine wp_region_held_drew (S := (fun W => W.cell? ⟨b, off + k * 8 + 2, none⟩ = some (.bool true) ∧ W.cell? ⟨b, off + k * 8 + 3, none⟩ = some (.int .i64 x.v.r) ∧ W.cell? ⟨b, off + k * 8 + 4, none⟩ = some (.int .i64 x.v.c) ∧ W.cell? ⟨b, off + k * 8 + 5, none⟩ = some (.int .i64 x.v.h) ∧ W.cell? ⟨b, off + k * 8 + 6, none⟩ = some (.int .i64 x.v.b) ∧ W.cell? ⟨b, off + k * 8 + 7, none⟩ = some (.int .i64 x.v.p))) (by kernel_rfl) (HSS.out _ vv) (fun hHeld => ?_)
   refine kK 0 q261 ?_
   refine kK 1 q262 ?_
   refine kK 2 q263 ?_
   refine kK 3 q264 ?_
   refine kK 4 q265 ?_
   refine kK 5 q266 ?_
   refine kK 6 q267 ?_
   refine kK 7 q268 ?_
   refine kK 8 q269 ?_
   refine kK 9 q270 ?_
   refine kK 11 q272 ?_
   refine kK 12 q273 ?_
   refine kK 13 q274 ?_
   refine kK 14 q275 ?_
   refine kK 15 q276 ?_
   refine kR 10 q271 (fun K hK => ?_)
   go_simp
   refine (specSayVec_any id (some ⟨b, off, none⟩) n c l (k : Int) _ (h.below (gr_trans HB.out vv))).mono ?_
   rintro e wx ⟨rfl, hbx⟩
   have vv := gr_trans vv hbx
   clear hbx
   go_wp2_with fail
   refine hK.out _ _ (HSS.out _ vv) (fun hHeld => ?_)
   clear hK K
   try simp only [Act.put, lA, lB, lC]
   refine kR 16 q277 (fun K hK => ?_)
   go_simp
   refine (specLessVec_any (sayV id l (k : Int)).r (sayV id l (k : Int)).c (sayV id l (k : Int)).h (sayV id l (k : Int)).b (sayV id l (k : Int)).p x.v.r x.v.c x.v.h x.v.b x.v.p _).mono ?_
   rintro e wx ⟨rfl, hbx⟩
   rw [HL.out]
   have vv := gr_trans vv hbx
   clear hbx
   go_wp2_with fail
   refine hK.out _ _ (HSS.out _ vv) (fun hHeld => ?_)
   clear hK K
   try simp only [Act.put, lA, lB, lC]
   refine kK 17 q278 ?_
   refine kK 18 q279 ?_
   refine wpAnyH_done (by kernel_rfl) ?_ _
   clear hHeld
   go_wp2
   go_ret
   exact ⟨(by rw [HR.out]; rfl), gr_trans HB.out vv⟩
  ·have HR : Hid (roleOf id l (k : Int) = 2) := hide (by rw [HR0.out, hh, hl]; rfl)
   have HL : Hid (lessVc (sayV id l (k : Int)).r (sayV id l (k : Int)).c (sayV id l (k : Int)).b (sayV id l (k : Int)).p x.v.r x.v.c x.v.b x.v.p = true) := hide hl
   clear hh hl
   go_wp2_with fail
   refine wp_region_held_drew (S := (fun W => W.cell? ⟨b, off + k * 8 + 2, none⟩ = some (.bool true) ∧ W.cell? ⟨b, off + k * 8 + 3, none⟩ = some (.int .i64 x.v.r) ∧ W.cell? ⟨b, off + k * 8 + 4, none⟩ = some (.int .i64 x.v.c) ∧ W.cell? ⟨b, off + k * 8 + 5, none⟩ = some (.int .i64 x.v.h) ∧ W.cell? ⟨b, off + k * 8 + 6, none⟩ = some (.int .i64 x.v.b) ∧ W.cell? ⟨b, off + k * 8 + 7, none⟩ = some (.int .i64 x.v.p))) (by kernel_rfl) (HSS.out _ vv) (fun hHeld => ?_)
   refine kK 0 q261 ?_
   refine kK 1 q262 ?_
   refine kK 2 q263 ?_
   refine kK 3 q264 ?_
   refine kK 4 q265 ?_
   refine kK 5 q266 ?_
   refine kK 6 q267 ?_
   refine kK 7 q268 ?_
   refine kK 8 q269 ?_
   refine kK 9 q270 ?_
   refine kK 11 q272 ?_
   refine kK 12 q273 ?_
   refine kK 13 q274 ?_
   refine kK 14 q275 ?_
   refine kK 15 q276 ?_
   refine kR 10 q271 (fun K hK => ?_)
   go_simp
   refine (specSayVec_any id (some ⟨b, off, none⟩) n c l (k : Int) _ (h.below (gr_trans HB.out vv))).mono ?_
   rintro e wx ⟨rfl, hbx⟩
   have vv := gr_trans vv hbx
   clear hbx
   go_wp2_with fail
   refine hK.out _ _ (HSS.out _ vv) (fun hHeld => ?_)
   clear hK K
   try simp only [Act.put, lA, lB, lC]
   refine kR 16 q277 (fun K hK => ?_)
   go_simp
   refine (specLessVec_any (sayV id l (k : Int)).r (sayV id l (k : Int)).c (sayV id l (k : Int)).h (sayV id l (k : Int)).b (sayV id l (k : Int)).p x.v.r x.v.c x.v.h x.v.b x.v.p _).mono ?_
   rintro e wx ⟨rfl, hbx⟩
   rw [HL.out]
   have vv := gr_trans vv hbx
   clear hbx
   go_wp2_with fail
   refine hK.out _ _ (HSS.out _ vv) (fun hHeld => ?_)
   clear hK K
   try simp only [Act.put, lA, lB, lC]
   refine kK 17 q278 ?_
   refine kK 18 q279 ?_
   refine wpAnyH_done (by kernel_rfl) ?_ _
   clear hHeld
   go_wp2
   go_ret
   exact ⟨(by rw [HR.out]; rfl), gr_trans HB.out vv⟩

set_option maxRecDepth 100000 in
set_option maxHeartbeats 2000000 in
theorem specSends_any (id : Int) (a : Option Addr) (n c : Nat) (l : List PT) (w : World) (h : GRow ptF w a n c l) :
  Calls Tryz.prog 117 #[.int .i64 id, .slice a n c] w fun e w' => e = .returned (.int .i64 (sendsOf id l)) ∧ Below w.heap.size w w' := by
 have hle := h.le
 have htop := h.top
 unfold maxLen at htop
 have hsz := hide h.size
 go_enter Tryz.func117, Tryz.ntmps117
 go_wp2_with fail
 go_loopw [5, 6] (fun s i wr => ∃ k : Nat, k ≤ min n 6 ∧ i = .int .i64 k ∧ s = .int .i64 (sendsTo id l k) ∧ Below w.heap.size w wr) (fun _ i _ => 6 - (intOf i).toNat)
 case atStart => exact ⟨0, Nat.zero_le _, rfl, rfl, Below.refl _ _⟩
 case round =>
  obtain ⟨k, hk, rfl, rfl, hb⟩ := hrel
  have hk6 : k ≤ 6 := by omega
  generalize hS : sendsTo id l k = S
  have HS := hide hS
  clear hS
  by_cases hlt : k < min n 6
  ·have hkn : k < n := by omega
   have hk5 : k < 6 := by omega
   have i1 : (0 : Int) ≤ (k : Int) := by omega
   have i2 : (k : Int) < (n : Int) := by omega
   have i3 : (k : Int) < 6 := by omega
   have hmin : (if (n : Int) ≤ 6 then (n : Int) else 6) = ((min n 6 : Nat) : Int) := by split <;> omega
   have i4 : (k : Int) < ((min n 6 : Nat) : Int) := by omega
   have HB := hide hb
   clear hk hb
   go_wp2_with fail
   refine (specRole_any id a n c l (k : Int) _ (h.below HB.out)).mono ?_
   rintro e w2 ⟨rfl, hb2⟩
   have HB2 := hide (gr_trans HB.out hb2)
   have h14 := role_one (id := id) (l := l) (k : Int)
   clear hb2
   generalize hR : roleOf id l (k : Int) = R at *
   have HR := hide hR
   clear hR
   by_cases hr : R ≤ 2
   ·have HN : Hid (sendsTo id l (k + 1) = bits .or .i64 S (2 ^ k)) := hide (by rw [sendsTo, HR.out, if_pos hr, HS.out])
    have hw2 : wrap64 (2 ^ k) = 2 ^ k := by
     rcases (show k = 0 ∨ k = 1 ∨ k = 2 ∨ k = 3 ∨ k = 4 ∨ k = 5 by omega) with rfl | rfl | rfl | rfl | rfl | rfl <;> exact Go.IntWalk.wrap64_in _ (by decide)
    have HW2 := hide hw2
    clear hw2
    go_wp2
    rw [HW2.out]
    go_roundw
    case rel => exact ⟨k + 1, by omega, by go_num, by rw [HN.out], HB2.out⟩
    case measure => simp [intOf]; omega
   ·have HN : Hid (sendsTo id l (k + 1) = S) := hide (by rw [sendsTo, HR.out, if_neg hr, HS.out])
    go_wp2
    go_roundw
    case rel => exact ⟨k + 1, by omega, by go_num, by rw [HN.out], HB2.out⟩
    case measure => simp [intOf]; omega
  ·have hkn : k = min n 6 := by omega
   have HK : Hid (sendsOf id l = S) := hide (by unfold sendsOf; rw [hsz.out, ← hkn]; exact HS.out)
   have hend : ¬ ((k : Int) < (n : Int) ∧ (k : Int) < 6) := by omega
   go_wp2
   all_goals go_ret
   all_goals exact ⟨(by rw [HK.out]; rfl), hb⟩

theorem own_lit {α : Type} (F : Flat α) {w : World} {g base : Nat} {l : List α} {cs : Array Value} {T : TypeId} (h : w.heap[g]? = some (.cells cs T)) (hc : cs.toList = F.all l) (hb : base ≤ g) (hm : l.length ≤ 1000) : w.ownsRow base T F.k (.slice (some ⟨g, 0, none⟩) l.length l.length) l.length (F.all l) := by
 have hl : cs.toList.length = l.length * F.k := by rw [hc, F.all_length]
 refine ⟨by rw [F.all_length], .inr ⟨g, l.length, cs, rfl, hb, h, Nat.le_refl _, by unfold maxLen; omega, ?_, ?_⟩⟩
 ·simpa using hl
 ·rw [← hc, ← hl, List.take_length]

set_option maxRecDepth 100000 in
set_option maxHeartbeats 400000 in
theorem numbersOf_any (R C H B P : Int) (w : World) :
  Calls Tryz.prog 164 #[.agg #[.int .i64 R, .int .i64 C, .int .i64 H, .int .i64 B, .int .i64 P]] w fun e w' => e = .returned (.agg #[.int .i64 R, .int .i64 C, .int .i64 H, .int .i64 B, .int .i64 P]) ∧ Below w.heap.size w w' := by
 go_enter Tryz.func164, Tryz.ntmps164
 go_wp2
 exact bodyPost_ret (v := .agg #[.int .i64 R, .int .i64 C, .int .i64 H, .int .i64 B, .int .i64 P]) (by simp [results, Tryz.results164, go_sem, *]) rfl ⟨rfl, below_two _ _ _⟩

set_option maxRecDepth 100000 in
set_option maxHeartbeats 400000 in
theorem numbersOf_at (R C H B P : Int) (w : World) :
  Calls Tryz.prog 164 #[.agg #[.int .i64 R, .int .i64 C, .int .i64 H, .int .i64 B, .int .i64 P]] w fun e w' => e = .returned (.agg #[.int .i64 R, .int .i64 C, .int .i64 H, .int .i64 B, .int .i64 P]) ∧
   w' = (w.alloc (.cells #[.int .i64 R, .int .i64 C, .int .i64 H, .int .i64 B, .int .i64 P] 82)).alloc (.cells #[.int .i64 R, .int .i64 C, .int .i64 H, .int .i64 B, .int .i64 P] 116) := by
 go_enter Tryz.func164, Tryz.ntmps164
 go_wp2
 exact bodyPost_ret (v := .agg #[.int .i64 R, .int .i64 C, .int .i64 H, .int .i64 B, .int .i64 P]) (by simp [results, Tryz.results164, go_sem, *]) rfl ⟨rfl, rfl⟩

set_option maxRecDepth 100000 in
set_option maxHeartbeats 400000 in
theorem vecOf_any (R C H B P : Int) (w : World) :
  Calls Tryz.prog 165 #[.agg #[.int .i64 R, .int .i64 C, .int .i64 H, .int .i64 B, .int .i64 P]] w fun e w' => e = .returned (.agg #[.int .i64 R, .int .i64 C, .int .i64 H, .int .i64 B, .int .i64 P]) ∧ Below w.heap.size w w' := by
 go_enter Tryz.func165, Tryz.ntmps165
 go_wp2
 exact bodyPost_ret (v := .agg #[.int .i64 R, .int .i64 C, .int .i64 H, .int .i64 B, .int .i64 P]) (by simp [results, Tryz.results165, go_sem, *]) rfl ⟨rfl, below_two _ _ _⟩

theorem index5_0 (R C H B P : Int) (w : World) : (Instr.index 116 (.agg #[.int .i64 R, .int .i64 C, .int .i64 H, .int .i64 B, .int .i64 P]) (.int .i64 0)).run Tryz.prog w = .ok (.int .i64 R) w := by kernel_rfl
theorem index5_1 (R C H B P : Int) (w : World) : (Instr.index 116 (.agg #[.int .i64 R, .int .i64 C, .int .i64 H, .int .i64 B, .int .i64 P]) (.int .i64 1)).run Tryz.prog w = .ok (.int .i64 C) w := by kernel_rfl
theorem index5_2 (R C H B P : Int) (w : World) : (Instr.index 116 (.agg #[.int .i64 R, .int .i64 C, .int .i64 H, .int .i64 B, .int .i64 P]) (.int .i64 2)).run Tryz.prog w = .ok (.int .i64 H) w := by kernel_rfl
theorem index5_3 (R C H B P : Int) (w : World) : (Instr.index 116 (.agg #[.int .i64 R, .int .i64 C, .int .i64 H, .int .i64 B, .int .i64 P]) (.int .i64 3)).run Tryz.prog w = .ok (.int .i64 B) w := by kernel_rfl
theorem index5_4 (R C H B P : Int) (w : World) : (Instr.index 116 (.agg #[.int .i64 R, .int .i64 C, .int .i64 H, .int .i64 B, .int .i64 P]) (.int .i64 4)).run Tryz.prog w = .ok (.int .i64 P) w := by kernel_rfl

abbrev leastC : Array Value := #[.int .i64 1, .int .i64 0, .int .i64 0, .int .i64 1, .int .i64 0]
abbrev mostC : Array Value := #[.int .i64 99, .int .i64 100000, .int .i64 10, .int .i64 99, .int .i64 7]
abbrev endsC : Array Value := #[.int .i64 1, .int .i64 0, .int .i64 0, .int .i64 1, .int .i64 0, .int .i64 99, .int .i64 100000, .int .i64 10, .int .i64 99, .int .i64 7]

def cl (n lo hi : Int) : Int := min (max n lo) hi

def nearC (R C H B P : Int) (k : Nat) : Array Value :=
 #[.int .i64 (if 0 < k then cl R 1 99 else R), .int .i64 (if 1 < k then cl C 0 100000 else C), .int .i64 (if 2 < k then cl H 0 10 else H), .int .i64 (if 3 < k then cl B 1 99 else B), .int .i64 (if 4 < k then cl P 0 7 else P)]

theorem cells10 {w : World} {C : Nat} {t : TypeId} {c0 c1 c2 c3 c4 c5 c6 c7 c8 c9 : Value} (h : w.heap[C]? = some (.cells #[c0, c1, c2, c3, c4, c5, c6, c7, c8, c9] t)) :
  w.cell? ⟨C, 0, none⟩ = some c0 ∧ w.cell? ⟨C, 1, none⟩ = some c1 ∧ w.cell? ⟨C, 2, none⟩ = some c2 ∧ w.cell? ⟨C, 3, none⟩ = some c3 ∧ w.cell? ⟨C, 4, none⟩ = some c4 ∧ w.cell? ⟨C, 5, none⟩ = some c5 ∧ w.cell? ⟨C, 6, none⟩ = some c6 ∧ w.cell? ⟨C, 7, none⟩ = some c7 ∧ w.cell? ⟨C, 8, none⟩ = some c8 ∧ w.cell? ⟨C, 9, none⟩ = some c9 := by
 refine ⟨?_, ?_, ?_, ?_, ?_, ?_, ?_, ?_, ?_, ?_⟩ <;> simp [World.cell?, h]

set_option maxRecDepth 100000 in
set_option maxHeartbeats 4000000 in
theorem nearest_any (R C H B P : Int) (w : World) :
  Calls Tryz.prog 126 #[.agg #[.int .i64 R, .int .i64 C, .int .i64 H, .int .i64 B, .int .i64 P]] w fun e w' => e = .returned (.agg #[.int .i64 (cl R 1 99), .int .i64 (cl C 0 100000), .int .i64 (cl H 0 10), .int .i64 (cl B 1 99), .int .i64 (cl P 0 7)]) ∧ Below w.heap.size w w' := by
 have q3 := below_three w (.cells #[.int .i64 R, .int .i64 C, .int .i64 H, .int .i64 B, .int .i64 P] 82) (.cells #[.int .i64 0, .int .i64 0, .int .i64 0, .int .i64 0, .int .i64 0] 82) (.cells endsC 193)
 obtain ⟨k0, k1, k2⟩ := kept_three (Below.refl _ (((w.alloc (.cells #[.int .i64 R, .int .i64 C, .int .i64 H, .int .i64 B, .int .i64 P] 82)).alloc (.cells #[.int .i64 0, .int .i64 0, .int .i64 0, .int .i64 0, .int .i64 0] 82)).alloc (.cells endsC 193)))
 have hn : (((w.alloc (.cells #[.int .i64 R, .int .i64 C, .int .i64 H, .int .i64 B, .int .i64 P] 82)).alloc (.cells #[.int .i64 0, .int .i64 0, .int .i64 0, .int .i64 0, .int .i64 0] 82)).alloc (.cells endsC 193)).heap.size = w.heap.size + 3 := by simp
 have HQ := hide q3
 have HK0 := hide k0
 have HK1 := hide k1
 have HN := hide hn
 clear q3 k0 k1 hn
 go_enter Tryz.func126, Tryz.ntmps126
 go_upto_region 2 with fail
 generalize (((w.alloc (.cells #[.int .i64 R, .int .i64 C, .int .i64 H, .int .i64 B, .int .i64 P] 82)).alloc (.cells #[.int .i64 0, .int .i64 0, .int .i64 0, .int .i64 0, .int .i64 0] 82)).alloc (.cells endsC 193)) = w3 at *
 obtain ⟨x0, x1, x2, x3, x4, x5, x6, x7, x8, x9⟩ := cells10 k2
 have K2 := hide k2
 clear k2
 go_cut [4, 5] from 9 to 38 (fun s t wc => ∃ p4 p5 : Nat, s = .pointer (some ⟨p4, 0, none⟩) ∧ t = .pointer (some ⟨p5, 0, none⟩) ∧ wc.heap[p4]? = some (.cells leastC 116) ∧ wc.heap[p5]? = some (.cells mostC 116) ∧ ¬ p4 = p5 ∧ w3.heap.size ≤ p4 ∧ w3.heap.size ≤ p5 ∧ Below w3.heap.size w3 wc)
 case first =>
  go_region_held3 (fun W => W.cell? ⟨w.heap.size + 1 + 1, 0, none⟩ = some (.int .i64 1) ∧ W.cell? ⟨w.heap.size + 1 + 1, 1, none⟩ = some (.int .i64 0) ∧ W.cell? ⟨w.heap.size + 1 + 1, 2, none⟩ = some (.int .i64 0) ∧ W.cell? ⟨w.heap.size + 1 + 1, 3, none⟩ = some (.int .i64 1) ∧ W.cell? ⟨w.heap.size + 1 + 1, 4, none⟩ = some (.int .i64 0) ∧ W.cell? ⟨w.heap.size + 1 + 1, 5, none⟩ = some (.int .i64 99) ∧ W.cell? ⟨w.heap.size + 1 + 1, 6, none⟩ = some (.int .i64 100000) ∧ W.cell? ⟨w.heap.size + 1 + 1, 7, none⟩ = some (.int .i64 10) ∧ W.cell? ⟨w.heap.size + 1 + 1, 8, none⟩ = some (.int .i64 99) ∧ W.cell? ⟨w.heap.size + 1 + 1, 9, none⟩ = some (.int .i64 7))
   (first | assumption | exact cells10 (kept_block K2.out (by repeat (first | exact Below.refl _ _ | refine gr_drew ?_ | refine gr_alloc ?_ _))) | go_keep) (first
   | (go_at_call 164; refine (numbersOf_at _ _ _ _ _ _).mono ?_; rintro e wx ⟨rfl, rfl⟩))
  all_goals
   go_wp2_with fail
   go_meet
   refine ⟨_, _, rfl, rfl, by repeat (first | (refine block_at ?_; simp; done) | refine kept_block ?_ (below_one _ _) | refine drew_block ?_), by repeat (first | (refine block_at ?_; simp; done) | refine kept_block ?_ (below_one _ _) | refine drew_block ?_), by omega, by omega, by omega, by repeat (first | exact Below.refl _ _ | refine gr_drew ?_ | refine gr_alloc ?_ _)⟩
 case rest =>
  obtain ⟨p4, p5, rfl, rfl, h4, h5, hne, hp4, hp5, hbc⟩ := hcut
  have hn := HN.out
  have hsz := hbc.size
  obtain ⟨⟨v0, v1, v2, v3, v4⟩, -⟩ := cells5 (kept_block HK0.out hbc)
  clear x0 x1 x2 x3 x4 x5 x6 x7 x8 x9
  go_wp2_with fail
  refine (numbersOf_any R C H B P _).mono ?_
  rintro e w6 ⟨rfl, hb6⟩
  have hs6 := hb6.size
  have q6 := gr_trans hbc hb6
  have k4 := kept_block (kept_block h4 hb6) (below_one w6 (.cells #[.int .i64 R, .int .i64 C, .int .i64 H, .int .i64 B, .int .i64 P] 116))
  have k5 := kept_block (kept_block h5 hb6) (below_one w6 (.cells #[.int .i64 R, .int .i64 C, .int .i64 H, .int .i64 B, .int .i64 P] 116))
  have k6 := block_last w6 (.cells #[.int .i64 R, .int .i64 C, .int .i64 H, .int .i64 B, .int .i64 P] 116)
  have k1 := kept_block (kept_block HK1.out q6) (below_one w6 (.cells #[.int .i64 R, .int .i64 C, .int .i64 H, .int .i64 B, .int .i64 P] 116))
  have hq := HQ.out
  have lt4 : p4 < w6.heap.size := (Array.getElem?_eq_some_iff.1 (kept_block h4 hb6)).1
  have lt5 : p5 < w6.heap.size := (Array.getElem?_eq_some_iff.1 (kept_block h5 hb6)).1
  clear v0 v1 v2 v3 v4 hb6
  go_wp2_with fail
  go_loopw [21] (fun i wr => ∃ k : Nat, k ≤ 5 ∧ i = .int .i64 k ∧ wr.heap[w6.heap.size]? = some (.cells (nearC R C H B P k) 116) ∧ (w6.alloc (.cells #[.int .i64 R, .int .i64 C, .int .i64 H, .int .i64 B, .int .i64 P] 116)).grownBy wr (some w6.heap.size)) (fun i _ => 5 - (intOf i).toNat)
  case atStart => exact ⟨0, Nat.zero_le _, rfl, k6, World.grownBy.refl _ _⟩
  case round =>
   obtain ⟨k, hk, hi, hc6, hg⟩ := hrel
   have c4 := kept_grown k4 hg (by intro j e; cases e; omega)
   have c5 := kept_grown k5 hg (by intro j e; cases e; omega)
   have c1 := kept_grown k1 hg (by intro j e; cases e; omega)
   have HG := hide hg
   obtain ⟨⟨y0, y1, y2, y3, y4⟩, -⟩ := cells5 c4
   obtain ⟨⟨z0, z1, z2, z3, z4⟩, -⟩ := cells5 c5
   have H6 := hide hc6
   have H1 := hide c1
   clear c4 c5 k4 k5 k6 k1 h4 h5 hg c1 hc6
   rcases (show k = 0 ∨ k = 1 ∨ k = 2 ∨ k = 3 ∨ k = 4 ∨ k = 5 by omega) with rfl | rfl | rfl | rfl | rfl | rfl
   ·have hi : _ = Value.int .i64 0 := hi
    subst hi
    have h6 : wr.heap[w6.heap.size]? = some (.cells #[.int .i64 R, .int .i64 C, .int .i64 H, .int .i64 B, .int .i64 P] 116) := H6.out
    obtain ⟨⟨u0, u1, u2, u3, u4⟩, f0, f1, f2, f3, f4⟩ := cells5 h6
    clear h6
    have ix := index5_0 R C H B P wr
    go_wp2_with fail
    go_region
    go_wp2
    go_roundw
    case rel =>
     refine ⟨0 + 1, by omega, by go_num, ?_, grownTr (grownTr HG.out (grown_set _ _)) (grownOf (gr_drew (Below.refl _ _)))⟩
     have := set_block5 (j := 0) H6.out (.int .i64 (cl R 1 99))
     exact drew_block this
    case measure => simp [intOf]
   ·have hi : _ = Value.int .i64 1 := hi
    subst hi
    have h6 : wr.heap[w6.heap.size]? = some (.cells #[.int .i64 (cl R 1 99), .int .i64 C, .int .i64 H, .int .i64 B, .int .i64 P] 116) := H6.out
    obtain ⟨⟨u0, u1, u2, u3, u4⟩, f0, f1, f2, f3, f4⟩ := cells5 h6
    clear h6
    have ix := index5_1 R C H B P wr
    go_wp2_with fail
    go_region
    go_wp2
    go_roundw
    case rel =>
     refine ⟨1 + 1, by omega, by go_num, ?_, grownTr (grownTr HG.out (grown_set _ _)) (grownOf (gr_drew (Below.refl _ _)))⟩
     have := set_block5 (j := 1) H6.out (.int .i64 (cl C 0 100000))
     exact drew_block this
    case measure => simp [intOf]
   ·have hi : _ = Value.int .i64 2 := hi
    subst hi
    have h6 : wr.heap[w6.heap.size]? = some (.cells #[.int .i64 (cl R 1 99), .int .i64 (cl C 0 100000), .int .i64 H, .int .i64 B, .int .i64 P] 116) := H6.out
    obtain ⟨⟨u0, u1, u2, u3, u4⟩, f0, f1, f2, f3, f4⟩ := cells5 h6
    clear h6
    have ix := index5_2 R C H B P wr
    go_wp2_with fail
    go_region
    go_wp2
    go_roundw
    case rel =>
     refine ⟨2 + 1, by omega, by go_num, ?_, grownTr (grownTr HG.out (grown_set _ _)) (grownOf (gr_drew (Below.refl _ _)))⟩
     have := set_block5 (j := 2) H6.out (.int .i64 (cl H 0 10))
     exact drew_block this
    case measure => simp [intOf]
   ·have hi : _ = Value.int .i64 3 := hi
    subst hi
    have h6 : wr.heap[w6.heap.size]? = some (.cells #[.int .i64 (cl R 1 99), .int .i64 (cl C 0 100000), .int .i64 (cl H 0 10), .int .i64 B, .int .i64 P] 116) := H6.out
    obtain ⟨⟨u0, u1, u2, u3, u4⟩, f0, f1, f2, f3, f4⟩ := cells5 h6
    clear h6
    have ix := index5_3 R C H B P wr
    go_wp2_with fail
    go_region
    go_wp2
    go_roundw
    case rel =>
     refine ⟨3 + 1, by omega, by go_num, ?_, grownTr (grownTr HG.out (grown_set _ _)) (grownOf (gr_drew (Below.refl _ _)))⟩
     have := set_block5 (j := 3) H6.out (.int .i64 (cl B 1 99))
     exact drew_block this
    case measure => simp [intOf]
   ·have hi : _ = Value.int .i64 4 := hi
    subst hi
    have h6 : wr.heap[w6.heap.size]? = some (.cells #[.int .i64 (cl R 1 99), .int .i64 (cl C 0 100000), .int .i64 (cl H 0 10), .int .i64 (cl B 1 99), .int .i64 P] 116) := H6.out
    obtain ⟨⟨u0, u1, u2, u3, u4⟩, f0, f1, f2, f3, f4⟩ := cells5 h6
    clear h6
    have ix := index5_4 R C H B P wr
    go_wp2_with fail
    go_region
    go_wp2
    go_roundw
    case rel =>
     refine ⟨4 + 1, by omega, by go_num, ?_, grownTr (grownTr HG.out (grown_set _ _)) (grownOf (gr_drew (Below.refl _ _)))⟩
     have := set_block5 (j := 4) H6.out (.int .i64 (cl P 0 7))
     exact drew_block this
    case measure => simp [intOf]
   ·have hi : _ = Value.int .i64 5 := hi
    subst hi
    have h6 : wr.heap[w6.heap.size]? = some (.cells #[.int .i64 (cl R 1 99), .int .i64 (cl C 0 100000), .int .i64 (cl H 0 10), .int .i64 (cl B 1 99), .int .i64 (cl P 0 7)] 116) := H6.out
    obtain ⟨⟨u0, u1, u2, u3, u4⟩, f0, f1, f2, f3, f4⟩ := cells5 h6
    clear h6
    go_wp2_with fail
    refine (vecOf_any (cl R 1 99) (cl C 0 100000) (cl H 0 10) (cl B 1 99) (cl P 0 7) _).mono ?_
    rintro e w9 ⟨rfl, hb9⟩
    obtain ⟨⟨t0, t1, t2, t3, t4⟩, g0, g1, g2, g3, g4⟩ := cells5 (kept_block H1.out hb9)
    have b9 := gr_trans hq (gr_trans q6 (gr_trans (belowGr (below_one w6 _) HG.out (Nat.le_refl _)) hb9))
    have HB := hide b9
    clear u0 u1 u2 u3 u4 f0 f1 f2 f3 f4 hb9 b9
    go_wp2
    exact bodyPost_ret (v := .agg #[.int .i64 (cl R 1 99), .int .i64 (cl C 0 100000), .int .i64 (cl H 0 10), .int .i64 (cl B 1 99), .int .i64 (cl P 0 7)]) (by simp [results, Tryz.results126, go_sem, *]) rfl ⟨rfl, below_set5 HB.out (by omega) _ _ _ _ _⟩

end Go.Proofs.YtdmplbmfkliiiaaGreat
