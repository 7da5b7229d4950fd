/-
  The program's bridge in memory of its own: which ports do not send; what it is behind a turn.
-/
import Derived.Test.YtfknffdlmcckkaaGreatPBK01
import Derived.Test.YtfknffdlmcckkaaGreatPBK19
import Derived.Test.YtfknffdlmcckkaaGreatPBK26
namespace Go.Proofs.YtfknffdlmcckkaaGreat
open Go.RowKit

def quietTo (bits : Int) : Nat → List Int
 | 0 => []
 | k + 1 => if bitOf bits (k : Int) = true then quietTo bits k else quietTo bits k ++ [(k : Int)]

theorem quiet_flush (bits : Int) (l : List FE) : ∀ k, (quietTo bits k).foldl flushF l = flushTo bits l k
 | 0 => rfl
 | k + 1 => by
  rw [quietTo, flushTo]
  split
  ·exact quiet_flush bits l k
  ·rw [List.foldl_append, quiet_flush bits l k]
   rfl

theorem quiet_len (bits : Int) : ∀ k, (quietTo bits k).length ≤ k
 | 0 => Nat.le_refl _
 | k + 1 => by
  rw [quietTo]
  have := quiet_len bits k
  split
  ·omega
  ·simp; omega

theorem sendsB_rng : ∀ b0 b1 b2 b3 b4 b5 : Bool, ∀ n : Fin 7, 0 ≤ sendsB (six b0 b1 b2 b3 b4 b5) n.val ∧ sendsB (six b0 b1 b2 b3 b4 b5) n.val ≤ 63 := by
 decide +kernel

theorem sends_rng (id : Int) (l : List PT) : 0 ≤ sendsOf id l ∧ sendsOf id l ≤ 63 := by
 unfold sendsOf
 rw [sends_is]
 generalize (fun i : Nat => decide (roleOf id l (i : Int) ≤ 2)) = f
 have hn : min l.length 6 ≤ 6 := Nat.min_le_right _ _
 generalize min l.length 6 = m at hn
 have e : ∀ j, j < 6 → f j = six (f 0) (f 1) (f 2) (f 3) (f 4) (f 5) j := by
  intro j hj
  rcases (show j = 0 ∨ j = 1 ∨ j = 2 ∨ j = 3 ∨ j = 4 ∨ j = 5 by omega) with rfl | rfl | rfl | rfl | rfl | rfl <;> rfl
 rw [sendsB_cut f _ m (fun j hj => e j (by omega))]
 exact sendsB_rng (f 0) (f 1) (f 2) (f 3) (f 4) (f 5) ⟨m, by omega⟩

theorem has_sends (id : Int) (l : List PT) (k : Nat) (hk : k ≤ 7) : hasP (sendsOf id l) (k : Int) = bitOf (sendsOf id l) (k : Int) := by
 have := sends_rng id l
 exact hasP_same (by unfold I64; omega) (Or.inl (by omega))

set_option maxRecDepth 100000 in
set_option maxHeartbeats 4000000 in
theorem implQuiet_made (id : Int) (a : Option Addr) (n c : Nat) (l : List PT) (w : World) (h : GRow ptF w a n c l) (hn : n ≤ 6) (bits : Int) (hbits : sendsOf id l = bits) :
  Calls Tryz.prog 86 #[.slice a n c, .int .i64 id] w fun e w' => ∃ ao cap, e = .returned (.slice ao (quietTo bits n).length cap) ∧ w'.ownsRow w.heap.size 3 1 (.slice ao (quietTo bits n).length cap) (quietTo bits n).length (intF.all (quietTo bits n)) ∧ Below w.heap.size w w' := by
 have HBI : Hid (∀ k : Nat, k ≤ 7 → hasP bits (k : Int) = bitOf bits (k : Int)) := hide (fun k hk => by rw [← hbits]; exact has_sends id l k hk)
 have HBT := hide hbits
 clear hbits
 go_enter Tryz.func86, Tryz.ntmps86
 go_wp2_with fail
 refine (implSends_any id a n c l _ h).mono ?_
 rintro e w1 ⟨rfl, hb1⟩
 rw [HBT.out]
 go_wp2_with fail
 go_loopw [6, 13] (fun p i wr => ∃ (k : Nat) (ao : Option Addr) (cap : Nat), k ≤ n ∧ i = .int .i64 k ∧ p = .slice ao (quietTo bits k).length cap ∧ wr.ownsRow w.heap.size 3 1 (.slice ao (quietTo bits k).length cap) (quietTo bits k).length (intF.all (quietTo bits k)) ∧ Below w.heap.size w wr) (fun _ i _ => n - (intOf i).toNat)
 case atStart => exact ⟨0, none, 0, Nat.zero_le _, rfl, rfl, World.ownsRow_nil _ _ _ _, hb1⟩
 case round =>
  obtain ⟨k, ao, cap, hk, rfl, rfl, own, hb⟩ := hrel
  clear hb1
  by_cases hlt : k < n
  ·have i1 : (0 : Int) ≤ (k : Int) := by omega
   have i2 : (k : Int) < (n : Int) := by omega
   have HLQ := hide (quiet_len bits k)
   go_wp2_with fail
   refine (implHasPort_any bits (k : Int) (by omega) _).mono ?_
   rintro e w2 ⟨rfl, e2⟩
   obtain rfl := e2.symm
   rw [HBI.out k (by omega)]
   cases hbk : bitOf bits (k : Int)
   ·have HF : Hid (quietTo bits (k + 1) = quietTo bits k ++ [(k : Int)]) := hide (by rw [quietTo, if_neg (by rw [hbk]; decide)])
    clear hbk
    generalize hwa : wr.alloc (Obj.cells #[Value.int .i64 k] 3) = wa
    have bra : Below wr.heap.size wr wa := by subst hwa; exact below_one _ _
    have ka : wa.heap[wr.heap.size]? = some (.cells #[.int .i64 k] 3) := by rw [← hwa]; exact block_last _ _
    have gone : GRow intF wa (some ⟨wr.heap.size, 0, none⟩) 1 1 [(k : Int)] := grow_own (F := intF) (own_one intF (x := (k : Int)) (base := 0) ka rfl (Nat.zero_le _))
    have hI2 := gown_below own bra
    have HBA := hide (gr_trans hb bra)
    clear own hb
    generalize hq : (quietTo bits k).length = q at *
    go_wp2_with (at_builtin; refine wpList_append_flat (F := intF) _ rfl _ _ 27 3 rfl w.heap.size Tryz.underlying27 Tryz.infoI64 rfl (by decide) _ q (quietTo bits k) rfl hI2 (some ⟨wr.heap.size, 0, none⟩) 1 1 [(k : Int)] rfl gone (by have := HLQ.out; omega) HBA.out.size ?_)
    intro a7 c7 w7 how hr hgr hb7
    have HB7 := hide (HBA.out.trans hb7)
    have HQ1 : Hid ((quietTo bits (k + 1)).length = q + 1) := hide (by rw [HF.out, List.length_append, hq]; rfl)
    rw [← HF.out] at how
    have HO := hide how
    clear how hr hgr hb7 hI2 gone ka hq
    go_wp2
    go_roundw
    case rel => exact ⟨k + 1, a7, c7, by omega, by go_num, by rw [HQ1.out], by rw [HQ1.out]; exact HO.out, HB7.out⟩
    case measure => simp [intOf]; omega
   ·have HF : Hid (quietTo bits (k + 1) = quietTo bits k) := hide (by rw [quietTo, if_pos hbk])
    have HO := hide own
    clear hbk own
    go_wp2
    go_roundw
    case rel => exact ⟨k + 1, ao, cap, by omega, by go_num, by rw [HF.out], by rw [HF.out]; exact HO.out, hb⟩
    case measure => simp [intOf]; omega
  ·have hkn : k = n := by omega
   subst hkn
   have HO := hide own
   clear own
   go_wp2
   go_ret
   exact ⟨ao, cap, rfl, HO.out, hb⟩

theorem flush_rngF {l : List FE} (h : ∀ x ∈ l, x.Rng) (p : Int) : ∀ x ∈ flushF l p, x.Rng := fun x hx => h x (List.mem_filter.1 hx).1

theorem folds_rng (qs : List Int) : ∀ {l : List FE}, (∀ x ∈ l, x.Rng) → ∀ x ∈ qs.foldl flushF l, x.Rng := by
 induction qs with
 | nil => exact fun h => h
 | cons q qs ih => exact fun h => ih (flush_rngF h q)

theorem folds_len (qs : List Int) : ∀ {l : List FE}, (qs.foldl flushF l).length ≤ l.length := by
 induction qs with
 | nil => exact Nat.le_refl _
 | cons q qs ih => exact Nat.le_trans ih (List.length_filter_le _ _)

theorem int_at {w : World} {base : Nat} {ao : Option Addr} {n cap : Nat} {l : List Int} (h : w.ownsRow base 3 1 (.slice ao n cap) n (intF.all l)) (i : Nat) (hi : i < n) : ∃ (z : Int) (b off : Nat), l[i]? = some z ∧ ao = some ⟨b, off, none⟩ ∧ w.cell? ⟨b, off + i, none⟩ = some (.int .i64 z) := by
 obtain ⟨z, b, off, hz, ha, hc⟩ := (grow_own (F := intF) h).at i hi
 exact ⟨z, b, off, hz, ha, by have := hc 0 _ rfl; simpa [intF] using this⟩

theorem take_succ_fold {qs : List Int} {k : Nat} {z : Int} (hz : qs[k]? = some z) (l : List FE) : (qs.take (k + 1)).foldl flushF l = flushF ((qs.take k).foldl flushF l) z := by
 rw [List.take_add_one, hz, List.foldl_append]
 rfl

set_option maxRecDepth 100000 in
set_option maxHeartbeats 8000000 in
theorem implTurned_made (base : Nat) (a : Option Addr) (n c : Nat) (fa : Option Addr) (fn fc : Nat) (ra : Option Addr) (rn rc : Nat) (oa : Option Addr) (on oc : Nat) (B : BR) (w : World) (h : BrOwn w base a n c fa fn fc ra rn rc oa on oc B) (hbase : base ≤ w.heap.size) (hn : n ≤ 6) (hfn : fn ≤ 16777216) (hv : 0 ≤ B.vers ∧ B.vers ≤ 1000000) (hR : ∀ x ∈ B.f, x.Rng) :
  Calls Tryz.prog 39 #[.agg #[.slice a n c, .int .i64 B.id, .string B.name, .slice none 0 0, .slice fa fn fc, .slice ra rn rc, .slice oa on oc, .int .i64 B.ticks, .int .i64 B.parse, .int .i64 B.word, .int .i64 B.drops, .int .i64 B.vers]] w fun e w' => ∃ (fa2 : Option Addr) (fn2 fc2 : Nat), e = .returned (.agg #[.int .i64 B.id, .string B.name, .slice a n c, .slice fa2 fn2 fc2, .slice ra rn rc, .slice oa on oc, .int .i64 B.ticks, .int .i64 B.parse, .int .i64 B.word, .int .i64 B.drops, .int .i64 (oneMore B.vers)]) ∧ BrOwn w' base a n c fa2 fn2 fc2 ra rn rc oa on oc (turned B) ∧ Below w.heap.size w w' := by
 have hpl := hide (grow_own (F := ptF) h.ports).size
 have HFL := hide (grow_own (F := fentF) h.f).size
 generalize hw1 : w.alloc (Obj.cells #[.slice a n c, .int .i64 B.id, .string B.name, .slice none 0 0, .slice fa fn fc, .slice ra rn rc, .slice oa on oc, .int .i64 B.ticks, .int .i64 B.parse, .int .i64 B.word, .int .i64 B.drops, .int .i64 B.vers] 68) = w1
 generalize hw2 : w1.alloc (Obj.cells #[.int .i64 0, .string ⟨#[]⟩, .slice none 0 0, .slice none 0 0, .slice none 0 0, .slice none 0 0, .int .i64 0, .int .i64 0, .int .i64 0, .int .i64 0, .int .i64 0] 31) = w2
 have b01 : Below w.heap.size w w1 := by rw [← hw1]; exact below_one _ _
 have b12 : Below w1.heap.size w1 w2 := by rw [← hw2]; exact below_one _ _
 have z1 : w.heap.size < w1.heap.size := by rw [← hw1]; simp
 have st2 : IbSt w w2 w1.heap.size w.heap.size #[.int .i64 0, .string ⟨#[]⟩, .slice none 0 0, .slice none 0 0, .slice none 0 0, .slice none 0 0, .int .i64 0, .int .i64 0, .int .i64 0, .int .i64 0, .int .i64 0] #[.slice a n c, .int .i64 B.id, .string B.name, .slice none 0 0, .slice fa fn fc, .slice ra rn rc, .slice oa on oc, .int .i64 B.ticks, .int .i64 B.parse, .int .i64 B.word, .int .i64 B.drops, .int .i64 B.vers] 31 68 := ⟨kept_block (by rw [← hw1]; exact block_last _ _) b12, by rw [← hw2]; exact block_last _ _, gr_trans b01 b12, Nat.le_refl _, Nat.le_of_lt z1, Nat.ne_of_gt z1⟩
 have own2 := h.below (gr_trans b01 b12)
 obtain ⟨x0, x1, x2, x3, x4, x5, x6, x7, x8, x9, x10, x11⟩ := cells12 st2.box
 have f11 := frozen8 st2.box 11
 obtain ⟨V, hV⟩ : ∃ V, V = oneMore B.vers := ⟨_, rfl⟩
 have HV := hide hV
 have HVR := hide hv
 have HR := hide hR
 clear hv hR z1 b01 b12
 go_enter Tryz.func39, Tryz.ntmps39
 go_wp2_with fail
 refine (implOne_any B.vers _ HVR.out.2 HVR.out.1).mono ?_
 rintro e w3 ⟨rfl, e3⟩
 obtain rfl := e3.symm
 rw [← hV]
 clear hV hw1 hw2
 generalize hRR : w1.heap.size = R at *
 have st4 := st2.put 11 (.int .i64 V) (cs' := #[.slice a n c, .int .i64 B.id, .string B.name, .slice none 0 0, .slice fa fn fc, .slice ra rn rc, .slice oa on oc, .int .i64 B.ticks, .int .i64 B.parse, .int .i64 B.word, .int .i64 B.drops, .int .i64 V]) rfl
 have own4 := own2.other st2.box (by decide) (by decide) (by decide) (by decide) 11 (.int .i64 V)
 generalize hw4 : w2.setCell ⟨w.heap.size, 11, none⟩ (.int .i64 V) = w4 at st4 own4
 go_upto_region 2 with fail
 clear x0 x1 x2 x3 x4 x5 x6 x7 x8 x9 x10 x11 f11 st2 own2
 try rw [hw4]
 clear hw4
 obtain ⟨x0, x1, x2, x3, x4, x5, x6, x7, x8, x9, x10, x11⟩ := cells12 st4.box
 generalize hbits : sendsOf B.id B.ports = bits
 have HBI := hide hbits
 go_wp2_with fail
 refine (implQuiet_made B.id a n c B.ports _ (grow_own (F := ptF) own4.ports) hn bits hbits).mono ?_
 rintro e w5 ⟨aq, cq, rfl, oq, hb5⟩
 have st5 := st4.later hb5
 have own5 := own4.below hb5
 have HQ6 := hide (Nat.le_trans (quiet_len bits n) hn)
 have HQF := hide (quiet_flush bits B.f n)
 have oq := gown_lt oq (base' := w.heap.size) st4.below.size
 clear x0 x1 x2 x3 x4 x5 x6 x7 x8 x9 x10 x11 st4 own4 hb5 hbits
 generalize hqs : quietTo bits n = qs at *
 generalize hqn : qs.length = qn at *
 have HQN := hide hqn
 clear hqn hqs
 go_wp2_with fail
 go_loopw [18] (fun i wr => ∃ (k : Nat) (fa2 : Option Addr) (fn2 fc2 : Nat), k ≤ qn ∧ i = .int .i64 k ∧ fn2 ≤ fn ∧ IbSt w wr R w.heap.size #[.int .i64 0, .string ⟨#[]⟩, .slice none 0 0, .slice none 0 0, .slice none 0 0, .slice none 0 0, .int .i64 0, .int .i64 0, .int .i64 0, .int .i64 0, .int .i64 0] #[.slice a n c, .int .i64 B.id, .string B.name, .slice none 0 0, .slice fa2 fn2 fc2, .slice ra rn rc, .slice oa on oc, .int .i64 B.ticks, .int .i64 B.parse, .int .i64 B.word, .int .i64 B.drops, .int .i64 V] 31 68 ∧ BrOwn wr base a n c fa2 fn2 fc2 ra rn rc oa on oc { B with f := (qs.take k).foldl flushF B.f } ∧ wr.ownsRow w.heap.size 3 1 (.slice aq qn cq) qn (intF.all qs)) (fun i _ => qn - (intOf i).toNat)
 case atStart => exact ⟨0, fa, fn, fc, Nat.zero_le _, rfl, Nat.le_refl _, st5, own5, oq⟩
 case round =>
  obtain ⟨k, fa2, fn2, fc2, hk, rfl, hf2, st, own, oq⟩ := hrel
  have hq6 : qn ≤ 6 := HQ6.out
  clear st5 own5
  obtain ⟨x0, x1, x2, x3, x4, x5, x6, x7, x8, x9, x10, x11⟩ := cells12 st.box
  by_cases hlt : k < qn
  ·have i1 : (0 : Int) ≤ (k : Int) := by omega
   have i2 : (k : Int) < (qn : Int) := by omega
   obtain ⟨z, qb, qo, hz, rfl, cz⟩ := int_at oq k hlt
   have HF := hide (take_succ_fold hz B.f)
   have HRF : Hid (∀ x ∈ (qs.take k).foldl flushF B.f, x.Rng) := hide (folds_rng _ HR.out)
   have HLF : Hid (((qs.take (k + 1)).foldl flushF B.f).length ≤ fn) := hide (by have := folds_len (qs.take (k + 1)) (l := B.f); have := HFL.out; omega)
   clear hz
   generalize hLS : (qs.take k).foldl flushF B.f = ls at *
   go_wp2_with fail
   refine (implFlush_rng fa2 fn2 fc2 ls z _ (grow_own (F := fentF) own.f) (by omega) HRF.out).mono ?_
   rintro e w7 ⟨fa7, fc7, rfl, o7, -, hb7⟩
   have st7 := st.later hb7
   have oq7 := gown_below oq hb7
   have o7 := gown_lt o7 (base' := base) (Nat.le_trans hbase st.below.size)
   have own7 := (own.below hb7).putF (Below.refl _ _) o7
   clear x0 x1 x2 x3 x4 x5 x6 x7 x8 x9 x10 x11 hb7 o7 st own cz oq
   obtain ⟨x0, x1, x2, x3, x4, x5, x6, x7, x8, x9, x10, x11⟩ := cells12 st7.box
   have f4 := frozen8 st7.box 4
   rw [← HF.out] at own7 ⊢
   generalize hL : ((qs.take (k + 1)).foldl flushF B.f).length = L at *
   have HST := hide (st7.put 4 (.slice fa7 L fc7) (cs' := #[.slice a n c, .int .i64 B.id, .string B.name, .slice none 0 0, .slice fa7 L fc7, .slice ra rn rc, .slice oa on oc, .int .i64 B.ticks, .int .i64 B.parse, .int .i64 B.word, .int .i64 B.drops, .int .i64 V]) rfl)
   have HOW := hide (own7.other st7.box (by decide) (by decide) (by decide) (by decide) 4 (.slice fa7 L fc7))
   have HOQ := hide (st7.stay oq7 (by decide) 4 (.slice fa7 L fc7))
   clear st7 own7 oq7 hL
   go_wp2
   go_roundw
   case rel => exact ⟨k + 1, fa7, L, fc7, by omega, by go_num, HLF.out, HST.out, HOW.out, HOQ.out⟩
   case measure => simp [intOf]; omega
  ·have hkn : k = qn := by omega
   subst hkn
   have HT : Hid (turned B = { B with vers := V, f := (qs.take k).foldl flushF B.f }) := hide (by unfold turned; rw [HBI.out, hpl.out, HV.out, ← HQF.out, List.take_of_length_le (by rw [HQN.out]; exact Nat.le_refl _)])
   have HST := hide st
   have HOW := hide own
   clear st own oq
   go_wp2_with fail
   refine (implFace_any a n c fa2 fn2 fc2 ra rn rc oa on oc { B with vers := V } _).mono ?_
   rintro e w8 ⟨rfl, hb8⟩
   have st8 := HST.out.later hb8
   have own8 := HOW.out.below hb8
   clear x0 x1 x2 x3 x4 x5 x6 x7 x8 x9 x10 x11 hb8
   obtain ⟨y0, y1, y2, y3, y4, y5, y6, y7, y8, y9, y10⟩ := cells11 st8.res
   have fr := frozen8 st8.res
   have fr0 := fr 0
   have fr1 := fr 1
   have fr2 := fr 2
   have fr3 := fr 3
   have fr4 := fr 4
   have fr5 := fr 5
   have fr6 := fr 6
   have fr7 := fr 7
   have fr8 := fr 8
   have fr9 := fr 9
   have fr10 := fr 10
   have HO := hide (own8.boxed11 st8.res (.int .i64 B.id) (.string B.name) (.slice a n c) (.slice fa2 fn2 fc2) (.slice ra rn rc) (.slice oa on oc) (.int .i64 B.ticks) (.int .i64 B.parse) (.int .i64 B.word) (.int .i64 B.drops) (.int .i64 V))
   have HB := hide (below_set11 st8.below st8.hR (.int .i64 B.id) (.string B.name) (.slice a n c) (.slice fa2 fn2 fc2) (.slice ra rn rc) (.slice oa on oc) (.int .i64 B.ticks) (.int .i64 B.parse) (.int .i64 B.word) (.int .i64 B.drops) (.int .i64 V))
   clear st8 own8 fr
   go_wp2
   exact bodyPost_ret (v := .agg #[.int .i64 B.id, .string B.name, .slice a n c, .slice fa2 fn2 fc2, .slice ra rn rc, .slice oa on oc, .int .i64 B.ticks, .int .i64 B.parse, .int .i64 B.word, .int .i64 B.drops, .int .i64 V]) (by simp [results, Tryz.results39, go_sem, *]) rfl ⟨fa2, fn2, fc2, (by rw [HV.out]), (by rw [HT.out]; exact ⟨HO.out.ports, HO.out.f, HO.out.v⟩), HB.out⟩

end Go.Proofs.YtfknffdlmcckkaaGreat
