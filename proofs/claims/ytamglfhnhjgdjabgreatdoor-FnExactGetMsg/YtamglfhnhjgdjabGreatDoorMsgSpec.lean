/-
  GetMsg of the specification by its contract.
-/
import Derived.Test.YtamglfhnhjgdjabGreatDoorMsgGot
import Derived.Test.YtamglfhnhjgdjabGreatDoorQL
import Derived.Test.YtamglfhnhjgdjabGreatDoorPduSpec3
namespace Go.Proofs.YtamglfhnhjgdjabGreatDoor
open Go.RowKit

theorem getM_outer {word z : List Int} {k : Int} {body : List Int} {nx : Int} {ok : Bool} (hT : getTlv z 0 = (k, body, nx, ok)) (h : ¬ (ok = true ∧ k = 48 ∧ nx = z.length)) : getM word z = (1, none) := by
  unfold getM
  rw [hT]
  simp only
  rw [if_neg h]

theorem getM_parts {word z body : List Int} (hT : getTlv z 0 = (48, body, (z.length : Int), true)) :
    getM word z = match numM body 0 with
      | none => (1, none)
      | some (n, t) =>
        match partM body t 4 with
        | none => (1, none)
        | some (s, u) => if n = 1 then if s = word then toldM (getP (body.drop u.toNat)) else (3, none) else (2, none) := by
  unfold getM
  rw [hT]
  simp only [and_self, if_true]
  rfl

theorem bytes_ne' {a b : ByteArray} (h : ¬ a = b) : (a.toList == b.toList) = false := by
  rw [beq_eq_false_iff_ne]
  intro e
  rw [ByteArray.toList_eq, ByteArray.toList_eq] at e
  exact h (ByteArray.ext (Array.toList_inj.mp e))

set_option maxRecDepth 100000 in
set_option maxHeartbeats 4000000 in
theorem specGetMsg_any (W : ByteArray) (ao : Option Addr) (n c : Nat) (z : List Int) (g : Int × Option PD) (hG : getM (strB W) z = g) (w : World) (hr : Row w ao n c z) (hs : n ≤ 1048576) :
    Calls Tryz.prog 4 #[.string W, .slice ao n c] w fun e w' => GotM g w e w' ∧ Below w.heap.size w w' := by
  have hzl := hr.size
  have hby := hr.byte
  have q0 := below_one w (.cells #[.int .i64 0, .int .i64 0, .int .i64 0, .int .i64 0, .slice none 0 0] 25)
  have hk0 := block_last w (.cells #[.int .i64 0, .int .i64 0, .int .i64 0, .int .i64 0, .slice none 0 0] 25)
  rcases hT : getTlv z 0 with ⟨k, body, nx, ok⟩
  have hbl : body.length ≤ 250 := by
    cases ok
    · rw [getTlv_bad hT]; exact Nat.zero_le _
    · exact tlv_short hby hT
  have hbb := byt_of_part hby hT
  have HG := hide hG
  have HT := hide hT
  clear hG hT
  go_enter Tryz.func4, Tryz.ntmps4
  go_wp2_with fail
  refine (specGet_made _ _ _ z 0 k nx ok body HT.out _ (hr.below q0) (by omega)).mono ?_
  rintro e w1 ⟨bo, bc, rfl, -, r1, u1⟩
  have k1 := kept_block hk0 u1
  have b1 := gr_trans q0 u1
  have hlt1 : w.heap.size < w1.heap.size := (Array.getElem?_eq_some_iff.1 k1).1
  have d1 := below_one w1 (.cells #[.slice bo body.length bc, .int .i64 0, .bool false] 38)
  have R0 : SRd (w1.alloc (.cells #[.slice bo body.length bc, .int .i64 0, .bool false] 38)) w1.heap.size bo body.length bc body 0 false := ⟨block_last w1 _, r1.below d1, by omega⟩
  have k1' := kept_block k1 d1
  have b1' := gr_trans b1 d1
  have r1' := r1.below d1
  clear q0 hk0 u1 k1 b1 d1 r1
  go_wp2_with fail
  generalize hwc : (w1.alloc (.cells #[.slice bo body.length bc, .int .i64 0, .bool false] 38)) = wc at *
  have hwcs : wc.heap.size = w1.heap.size + 1 := by rw [← hwc]; simp
  clear hwc
  refine (snum_any w1.heap.size bo body.length bc body 0 false _ R0).mono ?_
  rintro e w2 ⟨m, t1, bad1, rfl, h2, g2, hst1⟩
  have k2 := kept_grown k1' g2 (fun k hk => by cases hk; omega)
  have b2 := belowGr b1' g2 (by omega)
  have hs2 := g2.size
  clear R0 k1' b1' g2
  go_wp2_with fail
  refine (spart_any w1.heap.size bo body.length bc body t1 4 bad1 _ h2).mono ?_
  rintro e w3 ⟨so, s, sc, t2, bad2, rfl, r3, h3, g3, hsl, hsb, hst2⟩
  have k3 := kept_grown k2 g3 (fun k hk => by cases hk; omega)
  have b3 := belowGr b2 g3 (by omega)
  have B3 := hide b3
  have S1 := hide hst1
  have S2 := hide hst2
  have H3 := hide h3
  have hrb : w1.heap.size < w3.heap.size := (Array.getElem?_eq_some_iff.1 h3.box).1
  obtain ⟨⟨c0, c1, c2, c3, c4⟩, f0, f1, f2, f3, f4⟩ := cells5 k3
  obtain ⟨⟨v0, v1, v2⟩, -⟩ := cells3 h3.box
  have m2 : ¬ w1.heap.size = w.heap.size := by omega
  have m3 : ¬ w.heap.size = w1.heap.size := by omega
  clear k2 b2 b3 h2 h3 g3 hst1 hst2
  by_cases hout : ok = true ∧ k = 48 ∧ nx = (n : Int)
  · obtain ⟨rfl, rfl, rfl⟩ := hout
    have HTT : Hid (getTlv z 0 = (48, body, (z.length : Int), true)) := hide (by rw [hzl]; exact HT.out)
    cases bad2 with
    | true =>
      have hg : g = (1, none) := by
        rw [← HG.out, getM_parts HTT.out]
        rcases S1.out with ⟨rfl, -, hn⟩ | ⟨rfl, hn⟩
        · rw [hn]
          simp only
          rcases S2.out with ⟨h, -⟩ | ⟨-, -, h | h⟩
          · cases h
          · cases h
          · rw [h]
        · rcases hn with h | h
          · cases h
          · rw [h]
      subst hg
      clear HG HT HTT S1 S2 k3 H3 r3
      go_wp2
      refine bodyPost_ret (v := .tuple #[.agg #[.int .i64 0, .int .i64 0, .int .i64 0, .int .i64 0, .slice none 0 0], .int .i64 1]) (by simp [results, Tryz.results4, go_sem, *]) rfl ⟨⟨0, 0, 0, 0, [], none, 0, rfl, bowns_nil _ _, rfl⟩, ?_⟩
      exact below_set5 B3.out (Nat.le_refl _) _ _ _ _ _
    | false =>
      obtain ⟨rfl, hP⟩ : bad1 = false ∧ getTlv body t1 = (4, s, t2, true) := by
        rcases S2.out with ⟨-, h1, h2, -⟩ | ⟨h, -⟩
        · exact ⟨h1, h2⟩
        · cases h
      have hN : numM body 0 = some (m, t1) := by
        rcases S1.out with ⟨-, -, h⟩ | ⟨h, -⟩
        · exact h
        · cases h
      have hG2 : (if m = 1 then if s = strB W then toldM (getP (body.drop t2.toNat)) else (3, none) else (2, none)) = g := by
        rw [← HG.out, getM_parts HTT.out, hN]
        simp only
        rw [part_of hP]
      obtain ⟨p0, q, -, rfl, hpq, hql, -, -⟩ := tlv_lies hbb hP
      simp only [Int.toNat_natCast] at hG2
      by_cases hm : m = 1
      · subst hm
        rw [if_pos rfl] at hG2
        have hcv := conv_row 9 w3 so s.length sc s r3 Tryz.underlying9
        by_cases hw : s = strB W
        · have hW : W = byB s := by
            refine strB_eq ?_
            rw [strB_byB hsb, hw]
          rw [if_pos hw] at hG2
          subst hW
          clear hw S1 S2 HG HT HTT hN
          have r4 := H3.out.row
          obtain ⟨bb, off, rfl, hc⟩ := r4.at (by omega)
          have hle := r4.le
          have hcut : Row w3 (some ⟨bb, (if bc = q then off else off + q), none⟩) (body.length - q) (bc - q) ((body.drop q).take (body.length - q)) := r4.cut hc q (body.length - q) (by omega) _ _ rfl (by intro h; rw [if_neg (by omega)]) (by intro h; cases h)
          rw [List.take_of_length_le (by simp)] at hcut
          have g0 : (0 : Int) ≤ (q : Int) := by omega
          have g1 : (q : Int) ≤ (body.length : Int) := by omega
          have g2 : (body.length : Int) ≤ (bc : Int) := by omega
          have HR := hide hcut
          have HG2 := hide hG2
          have K3 := hide k3
          have hlt3 : w.heap.size < w3.heap.size := by omega
          clear hcut hc r4 H3 hP r3 hG2 k3 r1'
          by_cases hcf : bc = q
          · rw [if_pos hcf, show bc - q = 0 by omega] at HR
            go_wp2_with fail
            rcases hp : getP (body.drop q) with _ | P
            · have HGP := hide hp
              have hg : g = (1, none) := by rw [← HG2.out, HGP.out]; rfl
              subst hg
              clear HG2 hp
              refine (specGetPdu_any _ _ _ (body.drop q) none HGP.out _ HR.out (by omega)).mono ?_
              rintro e w4 ⟨⟨k', id, a, b, ys, lo, cap, rfl, -, -⟩, hb4⟩
              have k4 := kept_block K3.out hb4
              have B4 := hide (gr_trans B3.out hb4)
              have m5 := hb4.size
              have m6 : ¬ w4.heap.size = w.heap.size := by omega
              have m7 : ¬ w.heap.size = w4.heap.size := by omega
              have m8 : w.heap.size < w4.heap.size := by omega
              clear c0 c1 c2 c3 c4 f0 f1 f2 f3 f4 v0 v1 v2 hcv
              obtain ⟨⟨c0, c1, c2, c3, c4⟩, f0, f1, f2, f3, f4⟩ := cells5 k4
              clear k4 K3 hb4 HR HGP
              go_wp2
              refine bodyPost_ret (v := .tuple #[.agg #[.int .i64 0, .int .i64 0, .int .i64 0, .int .i64 0, .slice none 0 0], .int .i64 1]) (by simp [results, Tryz.results4, go_sem, *]) rfl ⟨⟨0, 0, 0, 0, [], none, 0, rfl, bowns_nil _ _, rfl⟩, ?_⟩
              exact gr_alloc (below_set5 B4.out (Nat.le_refl _) _ _ _ _ _) _
            · have HGP := hide hp
              have hg : g = (0, some P) := by rw [← HG2.out, HGP.out]; rfl
              subst hg
              clear HG2 hp
              refine (specGetPdu_any _ _ _ (body.drop q) (some P) HGP.out _ HR.out (by omega)).mono ?_
              rintro e w4 ⟨⟨k', id, a, b, ys, lo, cap, rfl, hbo, hpd⟩, hb4⟩
              have k4 := kept_block K3.out hb4
              have B4 := hide (gr_trans B3.out hb4)
              have m5 := hb4.size
              have m6 : ¬ w4.heap.size = w.heap.size := by omega
              have m7 : ¬ w.heap.size = w4.heap.size := by omega
              have m8 : w.heap.size < w4.heap.size := by omega
              have HBO := hide (hbo.lt (base' := w.heap.size + 1) (by omega))
              have HPD := hide hpd
              clear c0 c1 c2 c3 c4 f0 f1 f2 f3 f4 v0 v1 v2 hcv
              obtain ⟨⟨c0, c1, c2, c3, c4⟩, f0, f1, f2, f3, f4⟩ := cells5 k4
              clear k4 K3 hb4 HR HGP hbo hpd
              go_wp2
              refine bodyPost_ret (v := .tuple #[.agg #[.int .i64 k', .int .i64 id, .int .i64 a, .int .i64 b, .slice lo ys.length cap], .int .i64 0]) (by simp [results, Tryz.results4, go_sem, *]) rfl ⟨⟨k', id, a, b, ys, lo, cap, rfl, ?_, HPD.out⟩, ?_⟩
              · refine BOwns.below ?_ (below_one _ _)
                refine BOwns.lt (base := w.heap.size + 1) ?_ (by omega)
                repeat (refine BOwns.set_below ?_ (by omega))
                exact HBO.out
              · exact gr_alloc (below_set5 B4.out (Nat.le_refl _) _ _ _ _ _) _
          · rw [if_neg hcf] at HR
            go_wp2_with fail
            rcases hp : getP (body.drop q) with _ | P
            · have HGP := hide hp
              have hg : g = (1, none) := by rw [← HG2.out, HGP.out]; rfl
              subst hg
              clear HG2 hp
              refine (specGetPdu_any _ _ _ (body.drop q) none HGP.out _ HR.out (by omega)).mono ?_
              rintro e w4 ⟨⟨k', id, a, b, ys, lo, cap, rfl, -, -⟩, hb4⟩
              have k4 := kept_block K3.out hb4
              have B4 := hide (gr_trans B3.out hb4)
              have m5 := hb4.size
              have m6 : ¬ w4.heap.size = w.heap.size := by omega
              have m7 : ¬ w.heap.size = w4.heap.size := by omega
              have m8 : w.heap.size < w4.heap.size := by omega
              clear c0 c1 c2 c3 c4 f0 f1 f2 f3 f4 v0 v1 v2 hcv
              obtain ⟨⟨c0, c1, c2, c3, c4⟩, f0, f1, f2, f3, f4⟩ := cells5 k4
              clear k4 K3 hb4 HR HGP
              go_wp2
              refine bodyPost_ret (v := .tuple #[.agg #[.int .i64 0, .int .i64 0, .int .i64 0, .int .i64 0, .slice none 0 0], .int .i64 1]) (by simp [results, Tryz.results4, go_sem, *]) rfl ⟨⟨0, 0, 0, 0, [], none, 0, rfl, bowns_nil _ _, rfl⟩, ?_⟩
              exact gr_alloc (below_set5 B4.out (Nat.le_refl _) _ _ _ _ _) _
            · have HGP := hide hp
              have hg : g = (0, some P) := by rw [← HG2.out, HGP.out]; rfl
              subst hg
              clear HG2 hp
              refine (specGetPdu_any _ _ _ (body.drop q) (some P) HGP.out _ HR.out (by omega)).mono ?_
              rintro e w4 ⟨⟨k', id, a, b, ys, lo, cap, rfl, hbo, hpd⟩, hb4⟩
              have k4 := kept_block K3.out hb4
              have B4 := hide (gr_trans B3.out hb4)
              have m5 := hb4.size
              have m6 : ¬ w4.heap.size = w.heap.size := by omega
              have m7 : ¬ w.heap.size = w4.heap.size := by omega
              have m8 : w.heap.size < w4.heap.size := by omega
              have HBO := hide (hbo.lt (base' := w.heap.size + 1) (by omega))
              have HPD := hide hpd
              clear c0 c1 c2 c3 c4 f0 f1 f2 f3 f4 v0 v1 v2 hcv
              obtain ⟨⟨c0, c1, c2, c3, c4⟩, f0, f1, f2, f3, f4⟩ := cells5 k4
              clear k4 K3 hb4 HR HGP hbo hpd
              go_wp2
              refine bodyPost_ret (v := .tuple #[.agg #[.int .i64 k', .int .i64 id, .int .i64 a, .int .i64 b, .slice lo ys.length cap], .int .i64 0]) (by simp [results, Tryz.results4, go_sem, *]) rfl ⟨⟨k', id, a, b, ys, lo, cap, rfl, ?_, HPD.out⟩, ?_⟩
              · refine BOwns.below ?_ (below_one _ _)
                refine BOwns.lt (base := w.heap.size + 1) ?_ (by omega)
                repeat (refine BOwns.set_below ?_ (by omega))
                exact HBO.out
              · exact gr_alloc (below_set5 B4.out (Nat.le_refl _) _ _ _ _ _) _
        · rw [if_neg hw] at hG2
          subst hG2
          have hne : ¬ byB s = W := by
            intro h
            apply hw
            rw [← h, strB_byB hsb]
          have hw' := bytes_ne' hne
          clear HG HT HTT S1 S2 k3 H3 hP hN hw
          go_wp2
          refine bodyPost_ret (v := .tuple #[.agg #[.int .i64 0, .int .i64 0, .int .i64 0, .int .i64 0, .slice none 0 0], .int .i64 3]) (by simp [results, Tryz.results4, go_sem, *]) rfl ⟨⟨0, 0, 0, 0, [], none, 0, rfl, bowns_nil _ _, rfl⟩, ?_⟩
          exact below_set5 B3.out (Nat.le_refl _) _ _ _ _ _
      · rw [if_neg hm] at hG2
        subst hG2
        clear HG HT HTT S1 S2 k3 H3 r3 hP hN
        go_wp2
        refine bodyPost_ret (v := .tuple #[.agg #[.int .i64 0, .int .i64 0, .int .i64 0, .int .i64 0, .slice none 0 0], .int .i64 2]) (by simp [results, Tryz.results4, go_sem, *]) rfl ⟨⟨0, 0, 0, 0, [], none, 0, rfl, bowns_nil _ _, rfl⟩, ?_⟩
        exact below_set5 B3.out (Nat.le_refl _) _ _ _ _ _
  · have hg : g = (1, none) := by
      rw [← HG.out]
      exact getM_outer HT.out (by rw [hzl]; exact hout)
    subst hg
    have hno : ok = false ∨ (ok = true ∧ ¬ k = 48) ∨ (ok = true ∧ k = 48 ∧ ¬ nx = (n : Int)) := by
      cases ok
      · exact .inl rfl
      · by_cases hk : k = 48
        · exact .inr (.inr ⟨rfl, hk, fun h => hout ⟨rfl, hk, h⟩⟩)
        · exact .inr (.inl ⟨rfl, hk⟩)
    clear HG HT S1 S2 k3 H3 hout r3
    rcases hno with rfl | ⟨rfl, hkk⟩ | ⟨rfl, rfl, hnn⟩
    all_goals
      go_wp2
      refine bodyPost_ret (v := .tuple #[.agg #[.int .i64 0, .int .i64 0, .int .i64 0, .int .i64 0, .slice none 0 0], .int .i64 1]) (by simp [results, Tryz.results4, go_sem, *]) rfl ⟨⟨0, 0, 0, 0, [], none, 0, rfl, bowns_nil _ _, rfl⟩, ?_⟩
      exact below_set5 B3.out (Nat.le_refl _) _ _ _ _ _

end Go.Proofs.YtamglfhnhjgdjabGreatDoor
