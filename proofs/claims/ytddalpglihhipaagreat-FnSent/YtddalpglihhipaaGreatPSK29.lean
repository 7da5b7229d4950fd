/-
  Packed: FwdLaws FdbList FdbImplR FdbPut.
-/
import Derived.Test.YtddalpglihhipaaGreatPSKW
import Derived.Test.YtddalpglihhipaaGreatPSDrawBr
import Derived.Test.YtddalpglihhipaaGreatPSFdbTable
import Derived.Test.YtddalpglihhipaaGreatPSK01
import Derived.Test.YtddalpglihhipaaGreatPSK02
import Derived.Test.YtddalpglihhipaaGreatPSK17
import Derived.Test.YtddalpglihhipaaGreatPSK24
namespace Go.Proofs.YtddalpglihhipaaGreat
open Go.RowKit

theorem outTo_get (v : VT) (id m d s : Int) (z : List Int) : ∀ (n i : Nat) (o : OD), (outTo v id m d s z n)[i]? = some o → ∃ j : Nat, j < n ∧ bitOf m (j : Int) = true ∧ o = ⟨(j : Int), d, s, shownTag v id (j : Int), z⟩
 | 0, i, o, h => by simp [outTo] at h
 | n + 1, i, o, h => by
  rw [outTo] at h
  by_cases hi : i < (outTo v id m d s z n).length
  ·rw [List.getElem?_append_left hi] at h
   obtain ⟨j, hj, hb, ho⟩ := outTo_get v id m d s z n i o h
   exact ⟨j, by omega, hb, ho⟩
  ·rw [List.getElem?_append_right (by omega)] at h
   split at h
   ·rename_i hb
    have h1 := List.mem_of_getElem? h
    rw [List.mem_singleton] at h1
    exact ⟨n, by omega, hb, h1⟩
   ·simp at h

theorem outTo_rise (v : VT) (id m d s : Int) (z : List Int) : ∀ (n i i' : Nat) (o o' : OD), i < i' → (outTo v id m d s z n)[i]? = some o → (outTo v id m d s z n)[i']? = some o' → o.p < o'.p
 | 0, i, _, o, _, _, h, _ => by simp [outTo] at h
 | n + 1, i, i', o, o', hlt, h, h' => by
  rw [outTo] at h h'
  by_cases hi : i' < (outTo v id m d s z n).length
  ·rw [List.getElem?_append_left (by omega)] at h
   rw [List.getElem?_append_left hi] at h'
   exact outTo_rise v id m d s z n i i' o o' hlt h h'
  ·rw [List.getElem?_append_right (by omega)] at h'
   split at h'
   ·rename_i hb
    have h1 := List.mem_of_getElem? h'
    rw [List.mem_singleton] at h1
    have hl := (List.getElem?_eq_some_iff.1 h').1
    simp only [List.length_singleton] at hl
    rw [List.getElem?_append_left (by omega)] at h
    obtain ⟨j, hj, -, ho⟩ := outTo_get v id m d s z n i o h
    rw [h1, ho]
    simp only
    omega
   ·simp at h'

theorem outs_get {L : List OI} {v : VT} {id m d s : Int} {z : List Int} {n : Nat} (hM : L.map OI.v = outTo v id m d s z n) {i : Nat} {x : OI} (hx : L[i]? = some x) : ∃ j : Nat, j < n ∧ bitOf m (j : Int) = true ∧ x.p = (j : Int) ∧ x.d = d ∧ x.s = s ∧ x.t = shownTag v id (j : Int) ∧ x.z = z := by
 have h1 : (L.map OI.v)[i]? = some x.v := by rw [List.getElem?_map, hx]; rfl
 rw [hM] at h1
 obtain ⟨j, hj, hb, ho⟩ := outTo_get _ _ _ _ _ _ _ _ _ h1
 have ho := OD.mk.inj ho
 exact ⟨j, hj, hb, ho.1, ho.2.1, ho.2.2.1, ho.2.2.2.1, ho.2.2.2.2⟩

theorem outs_rise {L : List OI} {v : VT} {id m d s : Int} {z : List Int} {n : Nat} (hM : L.map OI.v = outTo v id m d s z n) {i i' : Nat} {x x' : OI} (hlt : i < i') (hx : L[i]? = some x) (hx' : L[i']? = some x') : x.p < x'.p := by
 have h1 : (L.map OI.v)[i]? = some x.v := by rw [List.getElem?_map, hx]; rfl
 have h2 : (L.map OI.v)[i']? = some x'.v := by rw [List.getElem?_map, hx']; rfl
 rw [hM] at h1 h2
 exact outTo_rise _ _ _ _ _ _ _ _ _ _ _ hlt h1 h2

theorem outs_one {L : List OI} {B : BR} {k n : Nat} {id d s : Int} {z : List Int} {F : List FE} (hF : fdbOk F = true) (hn : n ≤ 6) (hM : L.map OI.v = outTo B.v id (waysB B k id d F) d s z n) (ht : 0 ≤ toB F id d) : L.length ≤ 1 ∧ ∀ x, L[0]? = some x → x.p = toB F id d := by
 have hp : ∀ (i : Nat) (x : OI), L[i]? = some x → x.p = toB F id d := by
  intro i x hx
  obtain ⟨j, hj, hb, e1, -⟩ := outs_get hM hx
  rw [ways_bit B k id d F hF j (by omega)] at hb
  simp only [Bool.and_eq_true, Bool.or_eq_true, decide_eq_true_eq] at hb
  omega
 refine ⟨?_, fun x hx => hp 0 x hx⟩
 by_cases hl : L.length ≤ 1
 ·exact hl
 ·have h0 : L[0]? = some L[0] := List.getElem?_eq_getElem (by omega)
  have h1 : L[1]? = some L[1] := List.getElem?_eq_getElem (by omega)
  have := outs_rise hM (by omega) h0 h1
  rw [hp 0 _ h0, hp 1 _ h1] at this
  omega

theorem class_in {B : BR} {k : Nat} {t : Int} (hok : bridgeOk B = true) (hc : (classOf B.v (k : Int) t).2 = true) : 1 ≤ (classOf B.v (k : Int) t).1 ∧ (classOf B.v (k : Int) t).1 ≤ 99 ∧ bitOf (egressOf B.v (classOf B.v (k : Int) t).1) (k : Int) = true := by
 have hv := (bridgeOk_parts hok).2.2.2.2.2.1
 unfold classOf at hc ⊢
 split at hc
 ·rename_i hh
  rw [if_pos hh]
  have hb := (Bool.and_eq_true_iff.1 hh).2
  refine ⟨?_, ?_, hb⟩
  all_goals
   unfold egressOf at hb
   split at hb
   ·rename_i r hr
    have hm := List.mem_of_find?_eq_some hr
    have he := List.find?_some hr
    unfold vtabOk at hv
    simp only [Bool.and_eq_true] at hv
    have hw := List.all_eq_true.1 hv.1.1.2 r hm
    unfold vrowOk in3 at hw
    simp only [Bool.and_eq_true, decide_eq_true_eq, beq_iff_eq] at hw he
    simp only
    omega
   ·rw [bitOf_zero] at hb
    cases hb
 ·cases hc

theorem static_there {l : List FE} {t m : Int} (hF : fdbOk l = true) (hs : staticF l t m = true) : 0 ≤ lookUp l t m := by
 unfold staticF at hs
 unfold lookUp
 cases hl : lookE l t m with
 | none => rw [hl] at hs; simp at hs
 | some e =>
  have hm : e ∈ l := by unfold lookE at hl; exact List.mem_of_find?_eq_some hl
  have := (entOk_iff e).1 ((((fdbOk_iff l).1 hF).1).1 e hm)
  simp only
  omega

theorem fwd_drop {B : BR} {k : Nat} {d s t : Int} {n : Nat} {z : List Int} (hT : thereB B (k : Int) = true) (hF : okF d s t n = true) : letB B (k : Int) t = false → fwdB B (k : Int) d s t n = { B with drops := oneMore B.drops } ∧ fwdO B (k : Int) d s t n z = [] := by
 intro h
 unfold fwdB fwdO
 rw [hT, hF, h]
 exact ⟨rfl, rfl⟩

theorem fwd_let {B : BR} {k : Nat} {d s t : Int} {n : Nat} {z : List Int} (hT : thereB B (k : Int) = true) (hF : okF d s t n = true) : letB B (k : Int) t = true → fwdB B (k : Int) d s t n = { B with f := learnF B.f (classOf B.v (k : Int) t).1 s (k : Int), vers := oneMore B.vers } ∧ fwdO B (k : Int) d s t n z = outTo B.v (classOf B.v (k : Int) t).1 (waysB B k (classOf B.v (k : Int) t).1 d (learnF B.f (classOf B.v (k : Int) t).1 s (k : Int))) d s z B.ports.length := by
 intro h
 unfold fwdB fwdO
 rw [hT, hF, h, Int.toNat_natCast]
 exact ⟨rfl, rfl⟩

theorem heard_there {B : BR} {k : Nat} {t s : Int} (hok : bridgeOk B = true) (hc : (classOf B.v (k : Int) t).2 = true) (hk : k ≤ 7) (hs : 1 ≤ s ∧ s ≤ 9999) : 0 ≤ lookUp (learnF B.f (classOf B.v (k : Int) t).1 s (k : Int)) (classOf B.v (k : Int) t).1 s ∨ B.f.length = 12 := by
 obtain ⟨h1, h2, -⟩ := class_in hok hc
 have hF := (bridgeOk_parts hok).2.2.2.2.1
 have he : entOk ⟨(classOf B.v (k : Int) t).1, s, (k : Int), 0, false⟩ = true := (entOk_iff _).2 ⟨⟨h1, h2⟩, hs, ⟨by simp, by simp; omega⟩, ⟨by simp, by simp⟩, by simp⟩
 rcases learn_says hF he with h | ⟨h, e⟩ | ⟨-, h⟩
 ·left; rw [h]; omega
 ·left; rw [e]; exact static_there hF h
 ·right; exact h

abbrev q349 : Oper := ⟨some 18, .move (.tmp 0), 142, "l08_fdb.go:173", #[], none⟩
abbrev q350 : Oper := ⟨some 19, .nilCheck (.tmp 18), 0, "l08_fdb.go:173", #[⟨0, .data⟩], none⟩
abbrev q351 : Oper := ⟨some 20, .fieldAddr 147 (.tmp 19) 1, 0, "l08_fdb.go:173", #[⟨1, .data⟩], none⟩
abbrev q352 : Oper := ⟨some 21, .load 145 (.tmp 20), 145, "l08_fdb.go:173", #[⟨2, .data⟩], none⟩
abbrev q353 : Oper := ⟨some 22, .load 149 (.tmp 5), 149, "l08_fdb.go:173", #[], none⟩
abbrev q354 : Oper := ⟨some 23, .lookup 145 (.tmp 21) (.tmp 22) true, 188, "l08_fdb.go:173", #[⟨3, .data⟩, ⟨4, .data⟩], none⟩
abbrev q355 : Oper := ⟨some 17, .move (.tmp 23), 188, "l08_fdb.go:173", #[⟨5, .data⟩], none⟩
abbrev q356 : Oper := ⟨some 24, .extract (.tmp 17) 0, 97, "l08_fdb.go:173", #[⟨6, .data⟩], none⟩
abbrev q357 : Oper := ⟨some 25, .extract (.tmp 17) 1, 4, "l08_fdb.go:173", #[⟨6, .data⟩, { on := 10, ground := Ground.gcOnly Departure.lateStores }], none⟩
abbrev q358 : Oper := ⟨some 6, .alloc 97, 0, "l08_fdb.go:173", #[], none⟩
abbrev q359 : Oper := ⟨none, .store 97 (.tmp 6) (.tmp 24), 0, "l08_fdb.go:173", #[⟨9, .data⟩, ⟨7, .data⟩, ⟨0, .phase⟩, ⟨1, .phase⟩, ⟨2, .phase⟩, ⟨3, .phase⟩, ⟨4, .phase⟩, ⟨5, .phase⟩, ⟨6, .phase⟩, ⟨7, .phase⟩, { on := 8, ground := Ground.textOnly Departure.lateStores }, ⟨9, .phase⟩], none⟩
abbrev q360 : Oper := ⟨some 7, .assign (.tmp 25), 4, "l08_fdb.go:173", #[⟨8, .data⟩, ⟨10, .chain⟩, ⟨0, .phase⟩, ⟨1, .phase⟩, ⟨2, .phase⟩, ⟨3, .phase⟩, ⟨4, .phase⟩, ⟨5, .phase⟩, ⟨6, .phase⟩, ⟨7, .phase⟩, ⟨8, .phase⟩, ⟨9, .phase⟩, ⟨10, .phase⟩], none⟩

set_option maxRecDepth 100000 in
set_option maxHeartbeats 8000000 in
theorem list_any {N : Nat} (w : World) (base p bm : Nat) (ks : List FK) (g : FK → Option FE) (h : TabN N w base p bm ks g) :
  Calls Tryz.prog 113 #[.pointer (some ⟨p, 0, none⟩)] w fun r w' => ∃ ao' cap', r = .returned (.slice ao' (ks.filterMap g).length cap') ∧ w'.ownsRow w.heap.size 97 5 (.slice ao' (ks.filterMap g).length cap') (ks.filterMap g).length (fentF.all (ks.filterMap g)) ∧ GRow fentF w' ao' (ks.filterMap g).length cap' (ks.filterMap g) ∧ Below w.heap.size w w' := by
 obtain ⟨ao, cap, hbox, hown⟩ := h.box
 have hrow := grow_own (F := fkF) hown
 have hmap := h.map
 have hoks := h.oks
 have hfew := h.few
 have htop := Nat.le_trans hrow.le hrow.top
 unfold maxLen at htop
 obtain ⟨⟨p0, p1⟩, -⟩ := cells2 hbox
 clear h hown
 go_enter Tryz.func113, Tryz.ntmps113
 go_wp2
 go_loopw [3, 13] (fun o i wr => ∃ (k : Nat) (zs : List FE) (az : Option Addr) (cz nz : Nat), k ≤ ks.length ∧ i = .int .i64 k ∧ o = .slice az nz cz ∧ zs.length = nz ∧ nz ≤ k ∧ wr.ownsRow w.heap.size 97 5 (.slice az nz cz) nz (fentF.all zs) ∧ zs ++ (ks.drop k).filterMap g = ks.filterMap g ∧ Below w.heap.size w wr) (fun _ i _ => ks.length - (intOf i).toNat)
 case atStart => exact ⟨0, [], none, 0, 0, Nat.zero_le _, rfl, rfl, rfl, Nat.zero_le _, World.ownsRow_nil _ _ _ _, by simp, Below.refl _ _⟩
 case round =>
  obtain ⟨k, zs, az, cz, nz, hk, rfl, rfl, hzs, hnz, how, hz, hb⟩ := hrel
  by_cases hlt : k < ks.length
  ·obtain ⟨y, b, off, hy, rfl, a0, a1, a2⟩ := fk_at (hrow.below hb) k hlt
   have hyk := hoks y (List.mem_of_getElem? hy)
   have hdr : ks.drop k = y :: ks.drop (k + 1) := by
    obtain ⟨h1, rfl⟩ := List.getElem?_eq_some_iff.1 hy
    exact List.drop_eq_getElem_cons h1
   have hpx := kept_block hbox hb
   have hmap := hmap.kept hb
   clear hy
   cases hgy : g y with
   | some e =>
    have hS : ∀ W, Below (wr.alloc (.cells #[.int .i64 y.1, .int .i64 y.2.1, .int .i64 y.2.2] 149)).heap.size (wr.alloc (.cells #[.int .i64 y.1, .int .i64 y.2.1, .int .i64 y.2.2] 149)) W → (W.cell? ⟨p, 1, none⟩ = some (.map (some bm)) ∧ (W.cell? ⟨wr.heap.size, 0, none⟩ = some (.int .i64 y.1) ∧ W.cell? ⟨wr.heap.size, 1, none⟩ = some (.int .i64 y.2.1) ∧ W.cell? ⟨wr.heap.size, 2, none⟩ = some (.int .i64 y.2.2)) ∧ (Instr.lookup 145 (.map (some bm)) (.agg #[.int .i64 y.1, .int .i64 y.2.1, .int .i64 y.2.2]) true).run Tryz.prog W = .ok (.tuple #[.agg #[.int .i64 e.t, .int .i64 e.m, .int .i64 e.p, .int .i64 e.a, .bool e.s], .bool true]) W) := by
     intro W hW
     have hW1 : Below wr.heap.size wr W := gr_trans (below_one wr (.cells #[.int .i64 y.1, .int .i64 y.2.1, .int .i64 y.2.2] 149)) hW
     refine ⟨(cells2 (kept_block hpx hW1)).1.2, (cells3 (kept_block (block_last wr (.cells #[.int .i64 y.1, .int .i64 y.2.1, .int .i64 y.2.2] 149)) hW)).1, ?_⟩
     have := (hmap.kept hW1).look true hyk
     rw [hgy] at this
     exact this
    have HSS := hide hS
    clear hS
    go_wp2_with fail
    refine wp_region_held_drew (S := (fun W => W.cell? ⟨p, 1, none⟩ = some (.map (some bm)) ∧ (W.cell? ⟨wr.heap.size, 0, none⟩ = some (.int .i64 y.1) ∧ W.cell? ⟨wr.heap.size, 1, none⟩ = some (.int .i64 y.2.1) ∧ W.cell? ⟨wr.heap.size, 2, none⟩ = some (.int .i64 y.2.2)) ∧ (Instr.lookup 145 (.map (some bm)) (.agg #[.int .i64 y.1, .int .i64 y.2.1, .int .i64 y.2.2]) true).run Tryz.prog W = .ok (.tuple #[.agg #[.int .i64 e.t, .int .i64 e.m, .int .i64 e.p, .int .i64 e.a, .bool e.s], .bool true]) W)) (by kernel_rfl) (by first | exact HSS.out _ (gr_drew (Below.refl _ _)) | exact HSS.out _ (gr_drew (below_one _ _))) (fun hHeld => ?_)
    refine kK 0 q349 ?_
    refine kK 1 q350 ?_
    refine kK 2 q351 ?_
    refine kK 3 q352 ?_
    refine kK 4 q353 ?_
    refine kK 5 q354 ?_
    refine kK 6 q355 ?_
    refine kK 7 q356 ?_
    refine kK 8 q357 ?_
    refine tR [9] ?_
    refine AllReadyH.cons (o := q358) rfl (fun K hK => ?_) ?_
    ·go_simp
     refine hK.out _ _ (by first | exact HSS.out _ (gr_drew (Below.refl _ _)) | exact HSS.out _ (gr_drew (below_one _ _))) (fun hHeld => ?_)
     clear hK K
     try simp only [Act.put, lA, lB, lC]
     refine tR [10] ?_
     refine AllReadyH.cons (o := q359) rfl (fun K hK => ?_) ?_
     ·go_simp
      refine hK.out _ _ (by first | exact HSS.out _ (gr_drew (Below.refl _ _)) | exact HSS.out _ (gr_drew (below_one _ _))) (fun hHeld => ?_)
      clear hK K
      try simp only [Act.put, lA, lB, lC]
      refine kK 11 q360 ?_
      refine wpAnyH_done (by kernel_rfl) ?_ _
      have o2 : (((wr.alloc (.cells #[.int .i64 y.1, .int .i64 y.2.1, .int .i64 y.2.2] 149)).alloc (.cells #[.int .i64 e.t, .int .i64 e.m, .int .i64 e.p, .int .i64 e.a, .bool e.s] 97)).drew).ownsRow w.heap.size 97 5 (.slice az nz cz) nz (fentF.all zs) := gown_below how (gr_drew (gr_alloc (below_one wr (.cells #[.int .i64 y.1, .int .i64 y.2.1, .int .i64 y.2.2] 149)) (.cells #[.int .i64 e.t, .int .i64 e.m, .int .i64 e.p, .int .i64 e.a, .bool e.s] 97)))
      have b2 : Below w.heap.size w (((wr.alloc (.cells #[.int .i64 y.1, .int .i64 y.2.1, .int .i64 y.2.2] 149)).alloc (.cells #[.int .i64 e.t, .int .i64 e.m, .int .i64 e.p, .int .i64 e.a, .bool e.s] 97)).drew) := gr_trans hb (gr_drew (gr_alloc (below_one wr (.cells #[.int .i64 y.1, .int .i64 y.2.1, .int .i64 y.2.2] 149)) (.cells #[.int .i64 e.t, .int .i64 e.m, .int .i64 e.p, .int .i64 e.a, .bool e.s] 97)))
      have x2 : (((wr.alloc (.cells #[.int .i64 y.1, .int .i64 y.2.1, .int .i64 y.2.2] 149)).alloc (.cells #[.int .i64 e.t, .int .i64 e.m, .int .i64 e.p, .int .i64 e.a, .bool e.s] 97)).drew).heap[wr.heap.size + 1]? = some (.cells #[.int .i64 e.t, .int .i64 e.m, .int .i64 e.p, .int .i64 e.a, .bool e.s] 97) := by
       have := block_last (wr.alloc (.cells #[.int .i64 y.1, .int .i64 y.2.1, .int .i64 y.2.2] 149)) (.cells #[.int .i64 e.t, .int .i64 e.m, .int .i64 e.p, .int .i64 e.a, .bool e.s] 97)
       rw [show (wr.alloc (.cells #[.int .i64 y.1, .int .i64 y.2.1, .int .i64 y.2.2] 149)).heap.size = wr.heap.size + 1 by simp] at this
       exact this
      clear HSS hHeld how hb hpx hmap
      generalize hw2 : ((wr.alloc (.cells #[.int .i64 y.1, .int .i64 y.2.1, .int .i64 y.2.2] 149)).alloc (.cells #[.int .i64 e.t, .int .i64 e.m, .int .i64 e.p, .int .i64 e.a, .bool e.s] 97)).drew = w2 at *
      clear hw2
      obtain ⟨⟨x0, x1, x3, x4, x5⟩, -⟩ := cells5 x2
      have o3 := gown_below o2 (below_one w2 (.cells #[.int .i64 e.t, .int .i64 e.m, .int .i64 e.p, .int .i64 e.a, .bool e.s] 97))
      have HBR := hide (gr_trans b2 (below_one w2 (.cells #[.int .i64 e.t, .int .i64 e.m, .int .i64 e.p, .int .i64 e.a, .bool e.s] 97)))
      have hbase9 : w.heap.size ≤ (w2.alloc (.cells #[.int .i64 e.t, .int .i64 e.m, .int .i64 e.p, .int .i64 e.a, .bool e.s] 97)).heap.size := HBR.out.size
      have hl1 : (zs ++ [e]).length = nz + 1 := by simp [hzs]
      have HL := hide hl1
      have HQ := hide (show zs ++ [e] ++ (ks.drop (k + 1)).filterMap g = ks.filterMap g by rw [← hz, hdr, List.filterMap_cons, hgy, List.append_assoc]; rfl)
      clear o2 b2 hz hl1 x2
      go_wp2_with (at_builtin; refine fent_append _ rfl _ _ rfl w.heap.size _ nz zs rfl o3 _ 1 1 [e] rfl (grow_one fentF _ e _ _ rfl) (by omega) hbase9 ?_)
      intro ao9 cap9 w9 how9 hr9 hgr9 hb9
      have HB9 := hide (HBR.out.trans hb9)
      have HO := hide how9
      clear how9 hr9 hgr9 hb9 o3 HBR x0 x1 x3 x4 x5
      go_wp2
      go_roundw
      case rel => exact ⟨k + 1, zs ++ [e], ao9, cap9, nz + 1, by omega, by go_num, rfl, HL.out, by omega, HO.out, HQ.out, HB9.out⟩
      case measure => simp [intOf]; omega
     exact AllReadyH.nil
    exact AllReadyH.nil
   | none =>
    have hS : ∀ W, Below (wr.alloc (.cells #[.int .i64 y.1, .int .i64 y.2.1, .int .i64 y.2.2] 149)).heap.size (wr.alloc (.cells #[.int .i64 y.1, .int .i64 y.2.1, .int .i64 y.2.2] 149)) W → (W.cell? ⟨p, 1, none⟩ = some (.map (some bm)) ∧ (W.cell? ⟨wr.heap.size, 0, none⟩ = some (.int .i64 y.1) ∧ W.cell? ⟨wr.heap.size, 1, none⟩ = some (.int .i64 y.2.1) ∧ W.cell? ⟨wr.heap.size, 2, none⟩ = some (.int .i64 y.2.2)) ∧ (Instr.lookup 145 (.map (some bm)) (.agg #[.int .i64 y.1, .int .i64 y.2.1, .int .i64 y.2.2]) true).run Tryz.prog W = .ok (.tuple #[.agg #[.int .i64 0, .int .i64 0, .int .i64 0, .int .i64 0, .bool false], .bool false]) W) := by
     intro W hW
     have hW1 : Below wr.heap.size wr W := gr_trans (below_one wr (.cells #[.int .i64 y.1, .int .i64 y.2.1, .int .i64 y.2.2] 149)) hW
     refine ⟨(cells2 (kept_block hpx hW1)).1.2, (cells3 (kept_block (block_last wr (.cells #[.int .i64 y.1, .int .i64 y.2.1, .int .i64 y.2.2] 149)) hW)).1, ?_⟩
     have := (hmap.kept hW1).look true hyk
     rw [hgy] at this
     exact this
    have HSS := hide hS
    clear hS
    go_wp2_with fail
    refine wp_region_held_drew (S := (fun W => W.cell? ⟨p, 1, none⟩ = some (.map (some bm)) ∧ (W.cell? ⟨wr.heap.size, 0, none⟩ = some (.int .i64 y.1) ∧ W.cell? ⟨wr.heap.size, 1, none⟩ = some (.int .i64 y.2.1) ∧ W.cell? ⟨wr.heap.size, 2, none⟩ = some (.int .i64 y.2.2)) ∧ (Instr.lookup 145 (.map (some bm)) (.agg #[.int .i64 y.1, .int .i64 y.2.1, .int .i64 y.2.2]) true).run Tryz.prog W = .ok (.tuple #[.agg #[.int .i64 0, .int .i64 0, .int .i64 0, .int .i64 0, .bool false], .bool false]) W)) (by kernel_rfl) (by first | exact HSS.out _ (gr_drew (Below.refl _ _)) | exact HSS.out _ (gr_drew (below_one _ _))) (fun hHeld => ?_)
    refine kK 0 q349 ?_
    refine kK 1 q350 ?_
    refine kK 2 q351 ?_
    refine kK 3 q352 ?_
    refine kK 4 q353 ?_
    refine kK 5 q354 ?_
    refine kK 6 q355 ?_
    refine kK 7 q356 ?_
    refine kK 8 q357 ?_
    refine tR [9] ?_
    refine AllReadyH.cons (o := q358) rfl (fun K hK => ?_) ?_
    ·go_simp
     refine hK.out _ _ (by first | exact HSS.out _ (gr_drew (Below.refl _ _)) | exact HSS.out _ (gr_drew (below_one _ _))) (fun hHeld => ?_)
     clear hK K
     try simp only [Act.put, lA, lB, lC]
     refine tR [10] ?_
     refine AllReadyH.cons (o := q359) rfl (fun K hK => ?_) ?_
     ·go_simp
      refine hK.out _ _ (by first | exact HSS.out _ (gr_drew (Below.refl _ _)) | exact HSS.out _ (gr_drew (below_one _ _))) (fun hHeld => ?_)
      clear hK K
      try simp only [Act.put, lA, lB, lC]
      refine kK 11 q360 ?_
      refine wpAnyH_done (by kernel_rfl) ?_ _
      have o2 : (((wr.alloc (.cells #[.int .i64 y.1, .int .i64 y.2.1, .int .i64 y.2.2] 149)).alloc (.cells #[.int .i64 0, .int .i64 0, .int .i64 0, .int .i64 0, .bool false] 97)).drew).ownsRow w.heap.size 97 5 (.slice az nz cz) nz (fentF.all zs) := gown_below how (gr_drew (gr_alloc (below_one wr (.cells #[.int .i64 y.1, .int .i64 y.2.1, .int .i64 y.2.2] 149)) (.cells #[.int .i64 0, .int .i64 0, .int .i64 0, .int .i64 0, .bool false] 97)))
      have b2 : Below w.heap.size w (((wr.alloc (.cells #[.int .i64 y.1, .int .i64 y.2.1, .int .i64 y.2.2] 149)).alloc (.cells #[.int .i64 0, .int .i64 0, .int .i64 0, .int .i64 0, .bool false] 97)).drew) := gr_trans hb (gr_drew (gr_alloc (below_one wr (.cells #[.int .i64 y.1, .int .i64 y.2.1, .int .i64 y.2.2] 149)) (.cells #[.int .i64 0, .int .i64 0, .int .i64 0, .int .i64 0, .bool false] 97)))
      have x2 : (((wr.alloc (.cells #[.int .i64 y.1, .int .i64 y.2.1, .int .i64 y.2.2] 149)).alloc (.cells #[.int .i64 0, .int .i64 0, .int .i64 0, .int .i64 0, .bool false] 97)).drew).heap[wr.heap.size + 1]? = some (.cells #[.int .i64 0, .int .i64 0, .int .i64 0, .int .i64 0, .bool false] 97) := by
       have := block_last (wr.alloc (.cells #[.int .i64 y.1, .int .i64 y.2.1, .int .i64 y.2.2] 149)) (.cells #[.int .i64 0, .int .i64 0, .int .i64 0, .int .i64 0, .bool false] 97)
       rw [show (wr.alloc (.cells #[.int .i64 y.1, .int .i64 y.2.1, .int .i64 y.2.2] 149)).heap.size = wr.heap.size + 1 by simp] at this
       exact this
      clear HSS hHeld how hb hpx hmap
      generalize hw2 : ((wr.alloc (.cells #[.int .i64 y.1, .int .i64 y.2.1, .int .i64 y.2.2] 149)).alloc (.cells #[.int .i64 0, .int .i64 0, .int .i64 0, .int .i64 0, .bool false] 97)).drew = w2 at *
      clear hw2
      have HQ := hide (show zs ++ (ks.drop (k + 1)).filterMap g = ks.filterMap g by rw [← hz, hdr, List.filterMap_cons, hgy])
      have HO := hide o2
      have HB9 := hide b2
      clear o2 b2 hz x2
      go_wp2
      go_roundw
      case rel => exact ⟨k + 1, zs, az, cz, nz, by omega, by go_num, rfl, hzs, by omega, HO.out, HQ.out, HB9.out⟩
      case measure => simp [intOf]; omega
     exact AllReadyH.nil
    exact AllReadyH.nil
  ·have hkn : k = ks.length := by omega
   subst hkn
   rw [List.drop_eq_nil_of_le (Nat.le_refl _)] at hz
   have hz : zs = ks.filterMap g := by simpa using hz
   have hl : nz = (ks.filterMap g).length := by rw [← hz]; exact hzs.symm
   rw [hz] at how
   subst hl
   have HO := hide how
   have HR := hide (grow_own how)
   have HB := hide hb
   clear how hb
   go_wp2
   go_ret
   exact ⟨_, _, rfl, HO.out, HR.out, HB.out⟩

theorem ne_cells {w : World} {b i : Nat} {cs : Array Value} {T : TypeId} (hk : ∀ cs T, w.heap[b]? ≠ some (.cells cs T)) (h : w.heap[i]? = some (.cells cs T)) : b ≠ i := by
 intro e
 subst e
 exact hk _ _ h

theorem own_kind {w w' : World} {base k : Nat} {e : TypeId} {v : Value} {n : Nat} {xs : List Value} (h : w.ownsRow base e k v n xs) {b : Nat} (hg : w.grownBy w' (some b)) (hk : ∀ cs T, w.heap[b]? ≠ some (.cells cs T)) : w'.ownsRow base e k v n xs := by
 refine gown_other h hg ?_
 intro i hi e1
 subst e1
 rcases h.2 with ⟨rfl, _⟩ | ⟨g, cap, cur, rfl, _, hh, _⟩
 ·cases hi
 ·cases hi
  exact hk _ _ hh

abbrev q361 : Oper := ⟨some 38, .move (.tmp 0), 142, "l08_fdb.go:166", #[], none⟩
abbrev q362 : Oper := ⟨some 39, .nilCheck (.tmp 38), 0, "l08_fdb.go:166", #[⟨0, .data⟩], none⟩
abbrev q363 : Oper := ⟨some 40, .fieldAddr 147 (.tmp 39) 1, 0, "l08_fdb.go:166", #[⟨1, .data⟩], none⟩
abbrev q364 : Oper := ⟨some 41, .load 145 (.tmp 40), 145, "l08_fdb.go:166", #[⟨2, .data⟩], none⟩
abbrev q365 : Oper := ⟨some 42, .load 149 (.tmp 5), 149, "l08_fdb.go:166", #[], none⟩
abbrev q366 : Oper := ⟨some 43, .load 97 (.tmp 3), 97, "l08_fdb.go:166", #[], none⟩
abbrev q367 : Oper := ⟨none, .mapUpdate 145 (.tmp 41) (.tmp 42) (.tmp 43), 0, "l08_fdb.go:166", #[⟨3, .data⟩, ⟨4, .data⟩, ⟨5, .data⟩, ⟨0, .phase⟩, ⟨1, .phase⟩, ⟨2, .phase⟩, ⟨3, .phase⟩, ⟨4, .phase⟩, ⟨5, .phase⟩], none⟩
abbrev q368 : Oper := ⟨some 31, .load 144 (.tmp 30), 144, "l08_fdb.go:164", #[⟨3, .data⟩], none⟩
abbrev q369 : Oper := ⟨some 34, .buildSlice 144 1 #[(0, .tmp 33)], 144, "l08_fdb.go:164", #[⟨6, .data⟩], none⟩
abbrev q370 : Oper := ⟨some 35, .call ⟨.value (.func 162), #[.tmp 31, .tmp 32, .tmp 34], #[144, 3, 144]⟩, 144, "l08_fdb.go:164", #[⟨4, .data⟩, ⟨5, .data⟩, ⟨7, .data⟩], none⟩
abbrev q371 : Oper := ⟨some 36, .nilCheck (.tmp 27), 0, "l08_fdb.go:164", #[⟨0, .data⟩, ⟨0, .phase⟩, ⟨1, .phase⟩, ⟨2, .phase⟩, ⟨3, .phase⟩, ⟨4, .phase⟩, ⟨5, .phase⟩, ⟨6, .phase⟩, ⟨7, .phase⟩, ⟨8, .phase⟩], none⟩
abbrev q372 : Oper := ⟨some 37, .fieldAddr 147 (.tmp 36) 0, 0, "l08_fdb.go:164", #[⟨9, .data⟩, ⟨0, .phase⟩, ⟨1, .phase⟩, ⟨2, .phase⟩, ⟨3, .phase⟩, ⟨4, .phase⟩, ⟨5, .phase⟩, ⟨6, .phase⟩, ⟨7, .phase⟩, ⟨8, .phase⟩], none⟩
abbrev q373 : Oper := ⟨none, .store 144 (.tmp 37) (.tmp 35), 0, "l08_fdb.go:164", #[⟨10, .data⟩, ⟨8, .data⟩, ⟨8, .chain⟩, ⟨0, .phase⟩, ⟨1, .phase⟩, ⟨2, .phase⟩, ⟨3, .phase⟩, ⟨4, .phase⟩, ⟨5, .phase⟩, ⟨6, .phase⟩, ⟨7, .phase⟩, ⟨8, .phase⟩], none⟩

theorem map_kind {P : Program} {α β : Type} {M : MK P α β} {w : World} {b n : Nat} {g : α → Option β} (h : MapIs M w b n g) : ∀ cs T, w.heap[b]? ≠ some (.cells cs T) := by
 obtain ⟨es, clock, hb, -⟩ := h
 intro cs T e
 rw [hb] at e
 cases e

theorem own_type {w : World} {base k : Nat} {e : TypeId} {v : Value} {n : Nat} {xs : List Value} (h : w.ownsRow base e k v n xs) {p : Nat} {cs : Array Value} {T : TypeId} (hp : w.heap[p]? = some (.cells cs T)) (hT : e ≠ T) : ∀ i, v.ownBlock = some i → i ≠ p := by
 intro i hi e1
 subst e1
 rcases h.2 with ⟨rfl, _⟩ | ⟨g, cap, cur, rfl, _, hh, _⟩
 ·cases hi
 ·cases hi
  rw [hh] at hp
  cases hp
  exact hT rfl

theorem own_map {P : Program} {α β : Type} {M : MK P α β} {w : World} {b N : Nat} {g : α → Option β} {base k : Nat} {e : TypeId} {v : Value} {n : Nat} {xs : List Value} (h : w.ownsRow base e k v n xs) (hm : MapIs M w b N g) : ¬ v.ownBlock = some b := by
 intro hi
 rcases h.2 with ⟨rfl, _⟩ | ⟨q, cap, cur, rfl, _, hh, _⟩
 ·cases hi
 ·cases hi
  exact map_kind hm _ _ hh

set_option maxRecDepth 100000 in
set_option maxHeartbeats 16000000 in
theorem put_any (w : World) (base p bm : Nat) (l : List FE) (e : FE) (h : Tab w base p bm (keysOf l) (entsOf l)) (hs : Sorted l) (h12 : l.length ≤ 12) (he : e.Rng) (hbase : base ≤ w.heap.size) :
  Calls Tryz.prog 112 #[.pointer (some ⟨p, 0, none⟩), .agg #[.int .i64 e.t, .int .i64 e.m, .int .i64 e.p, .int .i64 e.a, .bool e.s]] w fun r w' => ∃ ok ks' g', r = .returned (.bool ok) ∧ ok = ((lookE l e.t e.m).isSome || decide (l.length < 12)) ∧ TabN 16777217 w' base p bm ks' g' ∧ ks'.filterMap g' = (if ok = true then insF e l else l) ∧ Below base w w' := by
 obtain ⟨aq, cq, hbox, hown⟩ := h.box
 have hmap := h.map
 have hlp := h.lp
 have hlb := h.lb
 have hoks := h.oks
 have HLEN := hide (keys_length l)
 have hn12 : (keysOf l).length ≤ 12 := by rw [HLEN.out]; exact h12
 have howlt := hown.lt
 have hpw : p < w.heap.size := (Array.getElem?_eq_some_iff.1 hbox).1
 have hok0 : FKok (key0 e) := ⟨he.1, he.2.1, by show _ ∧ _; unfold key0; simp⟩
 have HM := hide (rise_mono hs e)
 clear h
 go_enter Tryz.func112, Tryz.ntmps112
 go_wp2_with fail
 refine (firstKey_any e _).mono ?_
 rintro r w1 ⟨rfl, hb1⟩
 have v1 := gr_trans (below_one w (.cells #[.int .i64 e.t, .int .i64 e.m, .int .i64 e.p, .int .i64 e.a, .bool e.s] 97)) hb1
 have ke1 := kept_block (block_last w (.cells #[.int .i64 e.t, .int .i64 e.m, .int .i64 e.p, .int .i64 e.a, .bool e.s] 97)) hb1
 have s1 := hb1.size
 have s1 : w.heap.size + 1 ≤ w1.heap.size := by simpa using s1
 have v2 := gr_trans v1 (below_one w1 (.cells #[.int .i64 e.t, .int .i64 e.m, .int .i64 0] 149))
 have ke2 := kept_block ke1 (below_one w1 (.cells #[.int .i64 e.t, .int .i64 e.m, .int .i64 0] 149))
 have kk2 := block_last w1 (.cells #[.int .i64 e.t, .int .i64 e.m, .int .i64 0] 149)
 have p2 := kept_block hbox v2
 have o2 := gown_below hown v2
 have m2 := hmap.kept v2
 have s2 : w1.heap.size + 1 ≤ (w1.alloc (.cells #[.int .i64 e.t, .int .i64 e.m, .int .i64 0] 149)).heap.size := by simp
 have be2 : Below base w (w1.alloc (.cells #[.int .i64 e.t, .int .i64 e.m, .int .i64 0] 149)) := v2.mono hbase
 clear hbox hown hmap ke1 hb1 v1
 go_wp2_with fail
 generalize hwb : w1.alloc (.cells #[.int .i64 e.t, .int .i64 e.m, .int .i64 0] 149) = wb at *
 clear hwb
 have hrow := grow_own (F := fkF) o2
 have hS : ∀ W, Below wb.heap.size wb W → (W.cell? ⟨p, 0, none⟩ = some (.slice aq (keysOf l).length cq) ∧ (W.cell? ⟨w1.heap.size, 0, none⟩ = some (.int .i64 e.t) ∧ W.cell? ⟨w1.heap.size, 1, none⟩ = some (.int .i64 e.m) ∧ W.cell? ⟨w1.heap.size, 2, none⟩ = some (.int .i64 0))) := fun W hW => ⟨(cells2 (kept_block p2 hW)).1.1, (cells3 (kept_block kk2 hW)).1⟩
 have HSS := hide hS
 have vv : Below wb.heap.size wb wb.drew := gr_drew (Below.refl _ _)
 clear hS
 refine wp_region_held_drew (S := (fun W => W.cell? ⟨p, 0, none⟩ = some (.slice aq (keysOf l).length cq) ∧ (W.cell? ⟨w1.heap.size, 0, none⟩ = some (.int .i64 e.t) ∧ W.cell? ⟨w1.heap.size, 1, none⟩ = some (.int .i64 e.m) ∧ W.cell? ⟨w1.heap.size, 2, none⟩ = some (.int .i64 0)))) (by kernel_rfl) (HSS.out _ vv) (fun hHeld => ?_)
 refine kK 0 ⟨some 11, .move (.tmp 0), 142, "l08_fdb.go:159", #[], none⟩ ?_
 refine kK 1 ⟨some 12, .nilCheck (.tmp 11), 0, "l08_fdb.go:159", #[⟨0, .data⟩], none⟩ ?_
 refine kK 2 ⟨some 13, .fieldAddr 147 (.tmp 12) 0, 0, "l08_fdb.go:159", #[⟨1, .data⟩], none⟩ ?_
 refine kK 3 ⟨some 14, .load 144 (.tmp 13), 144, "l08_fdb.go:159", #[⟨2, .data⟩], none⟩ ?_
 refine kK 4 ⟨some 15, .load 149 (.tmp 5), 149, "l08_fdb.go:159", #[], none⟩ ?_
 refine tR [5] ?_
 refine AllReadyH.cons (o := ⟨some 16, .call ⟨.value (.func 160), #[.tmp 14, .tmp 15, .func 161], #[144, 149, 186]⟩, 42, "l08_fdb.go:159", #[⟨3, .data⟩, ⟨4, .data⟩], none⟩) rfl (fun K hK => ?_) ?_
 ·go_simp
  refine (search_any aq _ cq (keysOf l) (key0 e) _ (hrow.below vv) (by omega) HM.out).mono ?_
  rintro r w2 ⟨pos, there, rfl, HFD, hb2⟩
  have vv := gr_trans vv hb2
  go_wp2_with fail
  refine hK.out _ _ (HSS.out _ vv) (fun hHeld => ?_)
  clear hK K
  try simp only [Act.put, lA, lB, lC]
  refine kK 6 ⟨some 10, .move (.tmp 16), 42, "l08_fdb.go:159", #[⟨5, .data⟩], none⟩ ?_
  refine kK 7 ⟨some 17, .extract (.tmp 10) 0, 3, "l08_fdb.go:159", #[⟨6, .data⟩], none⟩ ?_
  refine kK 8 ⟨some 18, .extract (.tmp 10) 1, 4, "l08_fdb.go:159", #[⟨6, .data⟩, { on := 9, ground := Ground.gcOnly Departure.lateStores }], none⟩ ?_
  refine kK 9 ⟨some 6, .assign (.tmp 17), 3, "l08_fdb.go:159", #[⟨7, .data⟩, ⟨5, .chain⟩, ⟨0, .phase⟩, ⟨1, .phase⟩, ⟨2, .phase⟩, ⟨3, .phase⟩, ⟨4, .phase⟩, ⟨5, .phase⟩, ⟨6, .phase⟩, ⟨7, .phase⟩, { on := 8, ground := Ground.textOnly Departure.lateStores }], none⟩ ?_
  refine kK 10 ⟨some 7, .assign (.tmp 18), 4, "l08_fdb.go:159", #[⟨8, .data⟩, ⟨9, .chain⟩, ⟨0, .phase⟩, ⟨1, .phase⟩, ⟨2, .phase⟩, ⟨3, .phase⟩, ⟨4, .phase⟩, ⟨5, .phase⟩, ⟨6, .phase⟩, ⟨7, .phase⟩, ⟨8, .phase⟩, ⟨9, .phase⟩], none⟩ ?_
  refine wpAnyH_done (by kernel_rfl) ?_ _
  clear HSS hHeld
  have p2 := kept_block p2 vv
  have o2 := gown_below o2 vv
  have m2 := m2.kept vv
  have ke2 := kept_block ke2 vv
  have kk2 := kept_block kk2 vv
  have be2 := be2.trans (vv.mono (Nat.le_trans hbase v2.size))
  have s2 := Nat.le_trans s2 vv.size
  have hbase2 : base ≤ w2.heap.size := by omega
  obtain ⟨hpos, hth, hyes, hnot⟩ := found_says hs HFD
  have hpos : pos ≤ (keysOf l).length := by rw [HLEN.out]; exact hpos
  clear vv hb2 hrow HM HFD v2
  cases there with
  | true =>
   obtain ⟨x, hx, hkx, hins⟩ := hyes rfl
   have HOK : Hid (true = ((lookE l e.t e.m).isSome || decide (l.length < 12))) := by rw [hth]; rfl
   have HOUT : Hid ((keysOf l).filterMap (upd (entsOf l) (key0 e) (some e)) = (if true = true then insF e l else l)) := by rw [if_pos rfl, hins]; exact out_set hkx
   have hoks7 := hoks
   have p7 := p2
   have o7 := o2
   have m7 := m2
   have kk7 := kk2
   have ke7 := ke2
   have be7 := be2
   have hbase7 := hbase2
   clear hyes hnot hth hx hkx hins p2 o2 m2 kk2 ke2 be2
   go_wp2_with fail
   obtain ⟨w8, hr8, m8, g8, -⟩ := (MapIs.block (w' := w2.drew) m7 rfl).store (by unfold maxLen; omega) hok0 e
   have hr8 : (Instr.mapUpdate 145 (.map (some bm)) (.agg #[.int .i64 e.t, .int .i64 e.m, .int .i64 0]) (.agg #[.int .i64 e.t, .int .i64 e.m, .int .i64 e.p, .int .i64 e.a, .bool e.s])).run Tryz.prog w2.drew = .ok () w8 := hr8
   have g8 : w2.grownBy w8 (some bm) := ⟨g8.os, g8.tape, g8.output, g8.size, g8.block⟩
   have hk7 : ∀ cs T, w2.heap[bm]? ≠ some (.cells cs T) := map_kind m7
   have n8 := ne_cells hk7 p7
   have m8k := ne_cells hk7 kk7
   have m8e := ne_cells hk7 ke7
   have p8 := kept_grown p7 g8 (fun i hi => by cases hi; exact n8)
   have kk8 := kept_grown kk7 g8 (fun i hi => by cases hi; exact m8k)
   have ke8 := kept_grown ke7 g8 (fun i hi => by cases hi; exact m8e)
   have HT : Hid (TabN 16777217 w8 base p bm (keysOf l) (upd (entsOf l) (key0 e) (some e))) := ⟨⟨aq, cq, p8, own_kind o7 g8 hk7⟩, m8, hlp, hlb, hoks7, by omega⟩
   have HB := hide (be7.grown g8 hbase7 (fun i hi => by cases hi; exact hlb))
   have hS0 : w2.drew.cell? ⟨p, 1, none⟩ = some (.map (some bm)) ∧ _ ∧ _ := ⟨(cells2 (w := w2.drew) p7).1.2, (cells3 (w := w2.drew) kk7).1, (cells5 (w := w2.drew) ke7).1⟩
   have hS1 : w8.cell? ⟨p, 1, none⟩ = some (.map (some bm)) ∧ _ ∧ _ := ⟨(cells2 p8).1.2, (cells3 kk8).1, (cells5 ke8).1⟩
   clear p7 o7 m7 kk7 ke7 be7 p8 kk8 ke8 n8 m8k m8e hk7 m8 g8
   refine wp_region_held_drew (S := (fun W => W.cell? ⟨p, 1, none⟩ = some (.map (some bm)) ∧ (W.cell? ⟨w1.heap.size, 0, none⟩ = some (.int .i64 e.t) ∧ W.cell? ⟨w1.heap.size, 1, none⟩ = some (.int .i64 e.m) ∧ W.cell? ⟨w1.heap.size, 2, none⟩ = some (.int .i64 0)) ∧ (W.cell? ⟨w.heap.size, 0, none⟩ = some (.int .i64 e.t) ∧ W.cell? ⟨w.heap.size, 1, none⟩ = some (.int .i64 e.m) ∧ W.cell? ⟨w.heap.size, 2, none⟩ = some (.int .i64 e.p) ∧ W.cell? ⟨w.heap.size, 3, none⟩ = some (.int .i64 e.a) ∧ W.cell? ⟨w.heap.size, 4, none⟩ = some (.bool e.s)))) (by kernel_rfl) (by first | exact hS0 | exact hS1) (fun hHeld => ?_)
   refine kK 0 q361 ?_
   refine kK 1 q362 ?_
   refine kK 2 q363 ?_
   refine kK 3 q364 ?_
   refine kK 4 q365 ?_
   refine kK 5 q366 ?_
   refine tR [6] ?_
   refine AllReadyH.cons (o := q367) rfl (fun K hK => ?_) ?_
   ·go_simp
    refine hK.out _ _ (by first | exact hS0 | exact hS1) (fun hHeld => ?_)
    clear hK K
    try simp only [Act.put, lA, lB, lC]
    refine wpAnyH_done (by kernel_rfl) ?_ _
    clear hS0 hS1 hr8 hHeld
    go_wp2
    go_ret
    exact ⟨true, _, _, rfl, HOK.out, HT.out, HOUT.out, HB.out⟩
   exact AllReadyH.nil
  | false =>
   obtain ⟨hnk, hins⟩ := hnot rfl
   obtain ⟨⟨pp0, pp1⟩, -⟩ := cells2 p2
   by_cases hf : l.length = 12
   ·have HOK : Hid (false = ((lookE l e.t e.m).isSome || decide (l.length < 12))) := by rw [hth, decide_eq_false (show ¬ l.length < 12 by omega)]; rfl
    have HT : Hid (TabN 16777217 w2 base p bm (keysOf l) (entsOf l)) := ⟨⟨aq, cq, p2, o2⟩, m2.mono (by omega), hlp, hlb, hoks, by omega⟩
    have HB := hide be2
    have HOUT : Hid ((keysOf l).filterMap (entsOf l) = (if false = true then insF e l else l)) := by rw [if_neg Bool.false_ne_true]; exact out_all (ents_map l)
    have hf2 : (((keysOf l).length : Int) == 12) = true := by rw [HLEN.out, hf]; rfl
    clear hyes hnot hth hnk hins p2 o2 m2 kk2 ke2 be2
    go_wp2
    go_ret
    exact ⟨false, _, _, rfl, HOK.out, HT.out, HOUT.out, HB.out⟩
   ·have hf2 : (((keysOf l).length : Int) == 12) = false := by rw [HLEN.out, beq_eq_false_iff_ne]; omega
    have HOK : Hid (true = ((lookE l e.t e.m).isSome || decide (l.length < 12))) := by rw [hth, decide_eq_true (show l.length < 12 by omega)]; rfl
    have HOUT : Hid (((keysOf l).take pos ++ key0 e :: (keysOf l).drop pos).filterMap (upd (entsOf l) (key0 e) (some e)) = (if true = true then insF e l else l)) := by rw [if_pos rfl, hins]; exact out_new hnk
    have hoks7 : ∀ k ∈ (keysOf l).take pos ++ key0 e :: (keysOf l).drop pos, FKok k := by
     intro k hk
     rcases List.mem_append.1 hk with hk | hk
     ·exact hoks k (List.mem_of_mem_take hk)
     ·rcases List.mem_cons.1 hk with rfl | hk
      ·exact hok0
      ·exact hoks k (List.mem_of_mem_drop hk)
    have HN7 : Hid (((keysOf l).take pos ++ key0 e :: (keysOf l).drop pos).length = (keysOf l).length + 1) := by show _ = _; simp; omega
    have b10 : Below w2.heap.size w2 ((w2.alloc (.cells #[.int .i64 e.t, .int .i64 e.m, .int .i64 0] 149)).drew) := gr_drew (below_one w2 (.cells #[.int .i64 e.t, .int .i64 e.m, .int .i64 0] 149))
    have own10 := gown_below o2 b10
    have hv10 : ((w2.alloc (.cells #[.int .i64 e.t, .int .i64 e.m, .int .i64 0] 149)).drew).heap[w2.heap.size]? = some (.cells #[.int .i64 e.t, .int .i64 e.m, .int .i64 0] 149) := block_last w2 (.cells #[.int .i64 e.t, .int .i64 e.m, .int .i64 0] 149)
    have hne10 : ∀ b, (Value.slice aq (keysOf l).length cq).ownBlock = some b → b ≠ w2.heap.size := fun b hb => by have := howlt b hb; omega
    have hbase10 : base ≤ ((w2.alloc (.cells #[.int .i64 e.t, .int .i64 e.m, .int .i64 0] 149)).drew).heap.size := Nat.le_trans hbase2 b10.size
    have p10 := kept_block p2 b10
    obtain ⟨⟨pd0, -⟩, -⟩ := cells2 (w := w2) p2
    obtain ⟨⟨pe0, -⟩, -⟩ := cells2 (w := w2.alloc (.cells #[.int .i64 e.t, .int .i64 e.m, .int .i64 0] 149)) p10
    have hS0 := (cells3 (w := w2.drew) kk2).1
    have hS1 := (cells3 (kept_block kk2 b10)).1
    clear hyes hnot hth hnk hins pp0 pp1 p10
    go_wp2_with fail
    refine wp_region_held_drew (S := (fun W => (W.cell? ⟨w1.heap.size, 0, none⟩ = some (.int .i64 e.t) ∧ W.cell? ⟨w1.heap.size, 1, none⟩ = some (.int .i64 e.m) ∧ W.cell? ⟨w1.heap.size, 2, none⟩ = some (.int .i64 0)))) (by kernel_rfl) (by first | exact hS0 | exact hS1 | exact hS2 | exact hS3) (fun hHeld => ?_)
    refine kK 0 ⟨some 27, .move (.tmp 0), 142, "l08_fdb.go:164", #[], none⟩ ?_
    refine kK 1 ⟨some 28, .move (.tmp 0), 142, "l08_fdb.go:164", #[], none⟩ ?_
    refine kK 2 ⟨some 29, .nilCheck (.tmp 28), 0, "l08_fdb.go:164", #[⟨1, .data⟩], none⟩ ?_
    refine kK 3 ⟨some 30, .fieldAddr 147 (.tmp 29) 0, 0, "l08_fdb.go:164", #[⟨2, .data⟩], none⟩ ?_
    refine kK 5 ⟨some 32, .move (.tmp 6), 3, "l08_fdb.go:164", #[], none⟩ ?_
    refine kK 6 ⟨some 33, .load 149 (.tmp 5), 149, "l08_fdb.go:164", #[], none⟩ ?_
    refine tR [4, 7] ?_
    refine AllReadyH.cons (o := q368) rfl (fun K hK => ?_) ?_
    ·go_simp
     refine hK.out _ _ (by first | exact hS0 | exact hS1 | exact hS2 | exact hS3) (fun hHeld => ?_)
     clear hK K
     try simp only [Act.put, lA, lB, lC]
     refine tR [7] ?_
     refine AllReadyH.cons (o := q369) rfl (fun K hK => ?_) ?_
     ·go_simp
      refine hK.out _ _ (by first | exact hS0 | exact hS1 | exact hS2 | exact hS3) (fun hHeld => ?_)
      clear hK K
      try simp only [Act.put, lA, lB, lC]
      refine tR [8] ?_
      refine AllReadyH.cons (o := q370) rfl (fun K hK => ?_) ?_
      ·go_simp
       refine (insert_any base aq (keysOf l).length cq (keysOf l) pos (key0 e) w2.heap.size _ own10 hv10 hne10 (by omega) hbase10 hpos).mono ?_
       rintro r w5 ⟨aq2, cq2, rfl, how5, hg5⟩
       have g5 : w2.grownBy w5 (Value.slice aq (keysOf l).length cq).ownBlock := grownTr (grownOf b10) hg5
       have p5 := kept_grown p2 g5 (fun i hi => own_type o2 p2 (by decide) i hi)
       have kk5 := kept_grown kk2 g5 (fun i hi => by have := howlt i hi; omega)
       have ke5 := kept_grown ke2 g5 (fun i hi => by have := howlt i hi; omega)
       have m5 := m2.grown g5 (fun e1 => own_map o2 m2 e1)
       have be5 := be2.grown g5 hbase2 (fun i hi => (howlt i hi).1)
       obtain ⟨⟨pf0, pf1⟩, pz0, pz1⟩ := cells2 p5
       have hS2 := (cells3 kk5).1
       have g6 := grown_set (w := w5) (rb := p) 0 (.slice aq2 ((keysOf l).length + 1) cq2)
       have kk6 := kept_grown kk5 g6 (fun i hi => by cases hi; omega)
       have hS3 := (cells3 kk6).1
       go_wp2_with fail
       refine hK.out _ _ (by first | exact hS0 | exact hS1 | exact hS2 | exact hS3) (fun hHeld => ?_)
       clear hK K
       try simp only [Act.put, lA, lB, lC]
       refine kK 9 q371 ?_
       refine kK 10 q372 ?_
       refine tR [11] ?_
       refine AllReadyH.cons (o := q373) rfl (fun K hK => ?_) ?_
       ·go_simp
        refine hK.out _ _ (by first | exact hS0 | exact hS1 | exact hS2 | exact hS3) (fun hHeld => ?_)
        clear hK K
        try simp only [Act.put, lA, lB, lC]
        refine wpAnyH_done (by kernel_rfl) ?_ _
        have p7 : (w5.setCell ⟨p, 0, none⟩ (.slice aq2 ((keysOf l).length + 1) cq2)).heap[p]? = some (.cells #[.slice aq2 ((keysOf l).length + 1) cq2, .map (some bm)] 147) := set_box0 p5 _
        have o7 := gown_other how5 g6 (fun i hi => own_type how5 p5 (by decide) i hi)
        have ke7 := kept_grown ke5 g6 (fun i hi => by cases hi; omega)
        have m7 := m5.grown g6 (fun e1 => by have := Option.some.inj e1; exact ne_cells (map_kind m5) p5 this.symm)
        have be7 := be5.grown g6 (Nat.le_trans hbase2 g5.size) (fun i hi => by cases hi; exact hlp)
        have hbase7 : base ≤ (w5.setCell ⟨p, 0, none⟩ (.slice aq2 ((keysOf l).length + 1) cq2)).heap.size := Nat.le_trans (Nat.le_trans hbase2 g5.size) g6.size
        have kk7 := kk6
        clear hS0 hS1 hS2 hS3 pd0 pe0 hHeld own10 hv10 hne10 b10 p5 kk5 ke5 m5 be5 g5 hg5 g6 how5 p2 o2 kk2 ke2 m2 be2 pf0 pf1 pz0 pz1 kk6
        generalize hw6 : w5.setCell ⟨p, 0, none⟩ (.slice aq2 ((keysOf l).length + 1) cq2) = w6 at *
        clear hw6
        go_wp2_with fail
        obtain ⟨w8, hr8, m8, g8, -⟩ := (MapIs.block (w' := w6.drew) m7 rfl).store (by unfold maxLen; omega) hok0 e
        have hr8 : (Instr.mapUpdate 145 (.map (some bm)) (.agg #[.int .i64 e.t, .int .i64 e.m, .int .i64 0]) (.agg #[.int .i64 e.t, .int .i64 e.m, .int .i64 e.p, .int .i64 e.a, .bool e.s])).run Tryz.prog w6.drew = .ok () w8 := hr8
        have g8 : w6.grownBy w8 (some bm) := ⟨g8.os, g8.tape, g8.output, g8.size, g8.block⟩
        have hk7 : ∀ cs T, w6.heap[bm]? ≠ some (.cells cs T) := map_kind m7
        have n8 := ne_cells hk7 p7
        have m8k := ne_cells hk7 kk7
        have m8e := ne_cells hk7 ke7
        have p8 := kept_grown p7 g8 (fun i hi => by cases hi; exact n8)
        have kk8 := kept_grown kk7 g8 (fun i hi => by cases hi; exact m8k)
        have ke8 := kept_grown ke7 g8 (fun i hi => by cases hi; exact m8e)
        have HT : Hid (TabN 16777217 w8 base p bm ((keysOf l).take pos ++ key0 e :: (keysOf l).drop pos) (upd (entsOf l) (key0 e) (some e))) := ⟨⟨aq2, cq2, by rw [HN7.out]; exact p8, by rw [HN7.out]; exact own_kind o7 g8 hk7⟩, m8, hlp, hlb, hoks7, by rw [HN7.out]; omega⟩
        have HB := hide (be7.grown g8 hbase7 (fun i hi => by cases hi; exact hlb))
        have hS0 : w6.drew.cell? ⟨p, 1, none⟩ = some (.map (some bm)) ∧ _ ∧ _ := ⟨(cells2 (w := w6.drew) p7).1.2, (cells3 (w := w6.drew) kk7).1, (cells5 (w := w6.drew) ke7).1⟩
        have hS1 : w8.cell? ⟨p, 1, none⟩ = some (.map (some bm)) ∧ _ ∧ _ := ⟨(cells2 p8).1.2, (cells3 kk8).1, (cells5 ke8).1⟩
        clear p7 o7 m7 kk7 ke7 be7 p8 kk8 ke8 n8 m8k m8e hk7 m8 g8
        refine wp_region_held_drew (S := (fun W => W.cell? ⟨p, 1, none⟩ = some (.map (some bm)) ∧ (W.cell? ⟨w1.heap.size, 0, none⟩ = some (.int .i64 e.t) ∧ W.cell? ⟨w1.heap.size, 1, none⟩ = some (.int .i64 e.m) ∧ W.cell? ⟨w1.heap.size, 2, none⟩ = some (.int .i64 0)) ∧ (W.cell? ⟨w.heap.size, 0, none⟩ = some (.int .i64 e.t) ∧ W.cell? ⟨w.heap.size, 1, none⟩ = some (.int .i64 e.m) ∧ W.cell? ⟨w.heap.size, 2, none⟩ = some (.int .i64 e.p) ∧ W.cell? ⟨w.heap.size, 3, none⟩ = some (.int .i64 e.a) ∧ W.cell? ⟨w.heap.size, 4, none⟩ = some (.bool e.s)))) (by kernel_rfl) (by first | exact hS0 | exact hS1) (fun hHeld => ?_)
        refine kK 0 q361 ?_
        refine kK 1 q362 ?_
        refine kK 2 q363 ?_
        refine kK 3 q364 ?_
        refine kK 4 q365 ?_
        refine kK 5 q366 ?_
        refine tR [6] ?_
        refine AllReadyH.cons (o := q367) rfl (fun K hK => ?_) ?_
        ·go_simp
         refine hK.out _ _ (by first | exact hS0 | exact hS1) (fun hHeld => ?_)
         clear hK K
         try simp only [Act.put, lA, lB, lC]
         refine wpAnyH_done (by kernel_rfl) ?_ _
         clear hS0 hS1 hr8 hHeld
         go_wp2
         go_ret
         exact ⟨true, _, _, rfl, HOK.out, HT.out, HOUT.out, HB.out⟩
        exact AllReadyH.nil
       exact AllReadyH.nil
      exact AllReadyH.nil
     exact AllReadyH.nil
    refine AllReadyH.cons (o := q369) rfl (fun K hK => ?_) ?_
    ·go_simp
     refine hK.out _ _ (by first | exact hS0 | exact hS1 | exact hS2 | exact hS3) (fun hHeld => ?_)
     clear hK K
     try simp only [Act.put, lA, lB, lC]
     refine tR [4] ?_
     refine AllReadyH.cons (o := q368) rfl (fun K hK => ?_) ?_
     ·go_simp
      refine hK.out _ _ (by first | exact hS0 | exact hS1 | exact hS2 | exact hS3) (fun hHeld => ?_)
      clear hK K
      try simp only [Act.put, lA, lB, lC]
      refine tR [8] ?_
      refine AllReadyH.cons (o := q370) rfl (fun K hK => ?_) ?_
      ·go_simp
       refine (insert_any base aq (keysOf l).length cq (keysOf l) pos (key0 e) w2.heap.size _ own10 hv10 hne10 (by omega) hbase10 hpos).mono ?_
       rintro r w5 ⟨aq2, cq2, rfl, how5, hg5⟩
       have g5 : w2.grownBy w5 (Value.slice aq (keysOf l).length cq).ownBlock := grownTr (grownOf b10) hg5
       have p5 := kept_grown p2 g5 (fun i hi => own_type o2 p2 (by decide) i hi)
       have kk5 := kept_grown kk2 g5 (fun i hi => by have := howlt i hi; omega)
       have ke5 := kept_grown ke2 g5 (fun i hi => by have := howlt i hi; omega)
       have m5 := m2.grown g5 (fun e1 => own_map o2 m2 e1)
       have be5 := be2.grown g5 hbase2 (fun i hi => (howlt i hi).1)
       obtain ⟨⟨pf0, pf1⟩, pz0, pz1⟩ := cells2 p5
       have hS2 := (cells3 kk5).1
       have g6 := grown_set (w := w5) (rb := p) 0 (.slice aq2 ((keysOf l).length + 1) cq2)
       have kk6 := kept_grown kk5 g6 (fun i hi => by cases hi; omega)
       have hS3 := (cells3 kk6).1
       go_wp2_with fail
       refine hK.out _ _ (by first | exact hS0 | exact hS1 | exact hS2 | exact hS3) (fun hHeld => ?_)
       clear hK K
       try simp only [Act.put, lA, lB, lC]
       refine kK 9 q371 ?_
       refine kK 10 q372 ?_
       refine tR [11] ?_
       refine AllReadyH.cons (o := q373) rfl (fun K hK => ?_) ?_
       ·go_simp
        refine hK.out _ _ (by first | exact hS0 | exact hS1 | exact hS2 | exact hS3) (fun hHeld => ?_)
        clear hK K
        try simp only [Act.put, lA, lB, lC]
        refine wpAnyH_done (by kernel_rfl) ?_ _
        have p7 : (w5.setCell ⟨p, 0, none⟩ (.slice aq2 ((keysOf l).length + 1) cq2)).heap[p]? = some (.cells #[.slice aq2 ((keysOf l).length + 1) cq2, .map (some bm)] 147) := set_box0 p5 _
        have o7 := gown_other how5 g6 (fun i hi => own_type how5 p5 (by decide) i hi)
        have ke7 := kept_grown ke5 g6 (fun i hi => by cases hi; omega)
        have m7 := m5.grown g6 (fun e1 => by have := Option.some.inj e1; exact ne_cells (map_kind m5) p5 this.symm)
        have be7 := be5.grown g6 (Nat.le_trans hbase2 g5.size) (fun i hi => by cases hi; exact hlp)
        have hbase7 : base ≤ (w5.setCell ⟨p, 0, none⟩ (.slice aq2 ((keysOf l).length + 1) cq2)).heap.size := Nat.le_trans (Nat.le_trans hbase2 g5.size) g6.size
        have kk7 := kk6
        clear hS0 hS1 hS2 hS3 pd0 pe0 hHeld own10 hv10 hne10 b10 p5 kk5 ke5 m5 be5 g5 hg5 g6 how5 p2 o2 kk2 ke2 m2 be2 pf0 pf1 pz0 pz1 kk6
        generalize hw6 : w5.setCell ⟨p, 0, none⟩ (.slice aq2 ((keysOf l).length + 1) cq2) = w6 at *
        clear hw6
        go_wp2_with fail
        obtain ⟨w8, hr8, m8, g8, -⟩ := (MapIs.block (w' := w6.drew) m7 rfl).store (by unfold maxLen; omega) hok0 e
        have hr8 : (Instr.mapUpdate 145 (.map (some bm)) (.agg #[.int .i64 e.t, .int .i64 e.m, .int .i64 0]) (.agg #[.int .i64 e.t, .int .i64 e.m, .int .i64 e.p, .int .i64 e.a, .bool e.s])).run Tryz.prog w6.drew = .ok () w8 := hr8
        have g8 : w6.grownBy w8 (some bm) := ⟨g8.os, g8.tape, g8.output, g8.size, g8.block⟩
        have hk7 : ∀ cs T, w6.heap[bm]? ≠ some (.cells cs T) := map_kind m7
        have n8 := ne_cells hk7 p7
        have m8k := ne_cells hk7 kk7
        have m8e := ne_cells hk7 ke7
        have p8 := kept_grown p7 g8 (fun i hi => by cases hi; exact n8)
        have kk8 := kept_grown kk7 g8 (fun i hi => by cases hi; exact m8k)
        have ke8 := kept_grown ke7 g8 (fun i hi => by cases hi; exact m8e)
        have HT : Hid (TabN 16777217 w8 base p bm ((keysOf l).take pos ++ key0 e :: (keysOf l).drop pos) (upd (entsOf l) (key0 e) (some e))) := ⟨⟨aq2, cq2, by rw [HN7.out]; exact p8, by rw [HN7.out]; exact own_kind o7 g8 hk7⟩, m8, hlp, hlb, hoks7, by rw [HN7.out]; omega⟩
        have HB := hide (be7.grown g8 hbase7 (fun i hi => by cases hi; exact hlb))
        have hS0 : w6.drew.cell? ⟨p, 1, none⟩ = some (.map (some bm)) ∧ _ ∧ _ := ⟨(cells2 (w := w6.drew) p7).1.2, (cells3 (w := w6.drew) kk7).1, (cells5 (w := w6.drew) ke7).1⟩
        have hS1 : w8.cell? ⟨p, 1, none⟩ = some (.map (some bm)) ∧ _ ∧ _ := ⟨(cells2 p8).1.2, (cells3 kk8).1, (cells5 ke8).1⟩
        clear p7 o7 m7 kk7 ke7 be7 p8 kk8 ke8 n8 m8k m8e hk7 m8 g8
        refine wp_region_held_drew (S := (fun W => W.cell? ⟨p, 1, none⟩ = some (.map (some bm)) ∧ (W.cell? ⟨w1.heap.size, 0, none⟩ = some (.int .i64 e.t) ∧ W.cell? ⟨w1.heap.size, 1, none⟩ = some (.int .i64 e.m) ∧ W.cell? ⟨w1.heap.size, 2, none⟩ = some (.int .i64 0)) ∧ (W.cell? ⟨w.heap.size, 0, none⟩ = some (.int .i64 e.t) ∧ W.cell? ⟨w.heap.size, 1, none⟩ = some (.int .i64 e.m) ∧ W.cell? ⟨w.heap.size, 2, none⟩ = some (.int .i64 e.p) ∧ W.cell? ⟨w.heap.size, 3, none⟩ = some (.int .i64 e.a) ∧ W.cell? ⟨w.heap.size, 4, none⟩ = some (.bool e.s)))) (by kernel_rfl) (by first | exact hS0 | exact hS1) (fun hHeld => ?_)
        refine kK 0 q361 ?_
        refine kK 1 q362 ?_
        refine kK 2 q363 ?_
        refine kK 3 q364 ?_
        refine kK 4 q365 ?_
        refine kK 5 q366 ?_
        refine tR [6] ?_
        refine AllReadyH.cons (o := q367) rfl (fun K hK => ?_) ?_
        ·go_simp
         refine hK.out _ _ (by first | exact hS0 | exact hS1) (fun hHeld => ?_)
         clear hK K
         try simp only [Act.put, lA, lB, lC]
         refine wpAnyH_done (by kernel_rfl) ?_ _
         clear hS0 hS1 hr8 hHeld
         go_wp2
         go_ret
         exact ⟨true, _, _, rfl, HOK.out, HT.out, HOUT.out, HB.out⟩
        exact AllReadyH.nil
       exact AllReadyH.nil
      exact AllReadyH.nil
     exact AllReadyH.nil
    exact AllReadyH.nil
 exact AllReadyH.nil

end Go.Proofs.YtddalpglihhipaaGreat
