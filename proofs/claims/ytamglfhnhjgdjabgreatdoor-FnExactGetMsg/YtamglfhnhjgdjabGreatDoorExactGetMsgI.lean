/-
  FnExactGetMsg answers true at all arguments: GetMsg answers as the specification; it writes into no argument and keeps nothing of one; its answer owns its memory, behind another call too.
-/
import Derived.Test.YtamglfhnhjgdjabGreatDoorMsgSpec
import Derived.Test.YtamglfhnhjgdjabGreatDoorMsgIs
import Derived.Test.YtamglfhnhjgdjabGreatDoorPduMark
import Derived.Test.YtamglfhnhjgdjabGreatDoorPduEq
import Derived.Test.YtamglfhnhjgdjabGreatDoorQA
import Derived.WalkKit
import Derived.ProofKit
import Derived.OpenShut
import Derived.ShutString
import Derived.ChangeOld
import Derived.Below
import Derived.LaidMore
import Derived.Stop.Joined
import Derived.Stop.LaidErr
import Derived.SevenTiedAt
import Derived.LaidLaws
import Derived.LaidHandle
import Derived.Test.YtamglfhnhjgdjabGreatDoorCards
import Derived.Test.YtamglfhnhjgdjabGreatDoorTie
namespace Go.Proofs.YtamglfhnhjgdjabGreatDoor
open Go.RowKit

theorem wt_small {w : World} {base : Nat} {y : BI} (h : BOwn w base y) (hok : okB y.d = true) : y.wt ≤ 40 := by
  have h1 : y.on = y.o.length := by have := h.o.1; simp [cI] at this; omega
  have h2 : y.zn = y.z.length := by have := h.z.1; simp [cI] at this; omega
  unfold okB BI.d at hok
  rw [Bool.and_eq_true] at hok
  obtain ⟨ho, hv⟩ := hok
  have h3 : y.o.length ≤ 10 := (ok_all ho).2.2
  unfold BI.wt
  rcases okV_ways hv with ⟨-, -, hS, hz⟩ | ⟨-, -, hS, hz⟩ | ⟨-, hl, -, hz⟩ | ⟨-, hz, -, hS⟩
  · simp only at hS hz; rw [h1, h2, hS, hz]; have : (ByteArray.mk #[]).size = 0 := rfl; simp; omega
  · simp only at hS hz; rw [h1, h2, hS, hz]; have : (ByteArray.mk #[]).size = 0 := rfl; simp; omega
  · simp only at hl hz; rw [h1, h2, hz]; simp; omega
  · have h4 : y.z.length ≤ 10 := (ok_all hz).2.2
    simp only at hS; rw [h1, h2, hS]; have : (ByteArray.mk #[]).size = 0 := rfl; omega

theorem bulk_small {w : World} {base : Nat} : ∀ (ys : List BI), (∀ y ∈ ys, BOwn w base y) → (∀ x ∈ ys.map BI.d, okB x = true) → bulk ys ≤ 40 * ys.length
  | [], _, _ => Nat.le_refl _
  | y :: r, h1, h2 => by
    have a1 := wt_small (h1 y (List.mem_cons_self ..)) (h2 y.d (by simp))
    have a2 := bulk_small r (fun u hu => h1 u (List.mem_cons_of_mem _ hu)) (fun x hx => h2 x (by simp at hx ⊢; exact .inr hx))
    rw [bulk_cons, List.length_cons]
    omega

theorem getP_small {z : List Int} (hz : Byt z) {K I A B : Int} {L : List BD} (h : (getP z).getD ⟨0, 0, 0, 0, []⟩ = ⟨K, I, A, B, L⟩) : (∀ x ∈ L, okB x = true) ∧ L.length ≤ 10 := by
  cases hg : getP z with
  | none =>
    rw [hg] at h
    simp only [Option.getD_none, PD.mk.injEq] at h
    obtain ⟨-, -, -, -, rfl⟩ := h
    exact ⟨(by intro x hx; cases hx), Nat.zero_le _⟩
  | some x =>
    rw [hg] at h
    simp only [Option.getD_some] at h
    subst h
    obtain ⟨h1, -, -⟩ := pdu_read hz hg
    obtain ⟨c1, -, -, -, -, -, c7⟩ := okP_parts h1
    exact ⟨c1, c7⟩

theorem getM_small {word z : List Int} (hz : Byt z) {K I A B : Int} {L : List BD} (h : (getM word z).2.getD ⟨0, 0, 0, 0, []⟩ = ⟨K, I, A, B, L⟩) : (∀ x ∈ L, okB x = true) ∧ L.length ≤ 10 := by
  have hno : (none : Option PD).getD ⟨0, 0, 0, 0, []⟩ = ⟨K, I, A, B, L⟩ → (∀ x ∈ L, okB x = true) ∧ L.length ≤ 10 := by
    intro h
    simp only [Option.getD_none, PD.mk.injEq] at h
    obtain ⟨-, -, -, -, rfl⟩ := h
    exact ⟨(by intro x hx; cases hx), Nat.zero_le _⟩
  have hb := getTlv_byte z 0 hz
  unfold getM at h
  split at h
  · split at h
    · exact hno h
    · split at h
      · exact hno h
      · rename_i u hp
        split at h
        · split at h
          · have hd : Byt ((getTlv z 0).2.1.drop u.toNat) := fun x hx => hb x (List.mem_of_mem_drop hx)
            refine getP_small hd (K := K) (I := I) (A := A) (B := B) ?_
            rw [← h]
            cases getP ((getTlv z 0).2.1.drop u.toNat) <;> rfl
          · exact hno h
        · exact hno h
  · exact hno h

set_option maxRecDepth 100000 in
set_option maxHeartbeats 4000000 in
theorem exactGetMsg_walkI (hI : ImplIs) (S : ByteArray) (a0 : Option Addr) (l0 c0 : Nat) (z0 : List Int) (w : World) (_hS : S.size ≤ maxLen) (h0 : Row w a0 l0 c0 z0) (hnd : Hnd w) :
    Calls Tryz.prog 3 #[.string S, .slice a0 l0 c0] w fun e w' => e = .returned (.bool true) ∧ Below w.heap.size w w' := by
  by_cases gS : 1048576 < S.size
  · go_enter Tryz.func3, Tryz.ntmps3
    go_wp2
    go_ret
    exact ⟨rfl, Below.refl _ _⟩
  by_cases g0 : 1048576 < l0
  · go_enter Tryz.func3, Tryz.ntmps3
    go_wp2
    go_ret
    exact ⟨rfl, Below.refl _ _⟩
  rcases hM : getM (strB S) z0 with ⟨code, r⟩
  rcases hG : r.getD ⟨0, 0, 0, 0, []⟩ with ⟨K, I, A, B, L⟩
  obtain ⟨hLok, hLl⟩ := getM_small (word := strB S) (K := K) (I := I) (A := A) (B := B) (L := L) h0.byte (by rw [hM]; exact hG)
  have HM := hide hM
  have HG := hide hG
  have HL := hide hLok
  clear hG hM hLok
  go_enter Tryz.func3, Tryz.ntmps3
  go_wp2_with fail
  refine (copy_made _ _ _ z0 _ h0 (by omega)).mono ?_
  rintro e w1 ⟨ao1, cp1, rfl, -, r1, hb1⟩
  go_wp2_with fail
  refine (specGetMsg_any S _ _ _ z0 _ HM.out _ r1 (by omega)).mono ?_
  rintro e w2 ⟨hgot2, hb2⟩
  obtain ⟨ys2, lo2, cp2, rfl, o2, d2⟩ := gotM_len HG.out hgot2
  have q2 : Below w.heap.size w w2 := hb1.trans (hb2.mono hb1.size)
  have m2 := q2.size
  have r2 := o2.brow
  have D2 := hide d2
  have u2 := q2.trans ((below_one w2 (.cells #[.int .i64 K, .int .i64 I, .int .i64 A, .int .i64 B, .slice lo2 L.length cp2] 25)).mono m2)
  clear hb1 hb2 r1 o2 hgot2 d2
  go_wp2_with fail
  refine (copy_made _ _ _ z0 _ (h0.below u2) (by omega)).mono ?_
  rintro e w3 ⟨ao3, cp3, rfl, ho3, r3, hb3⟩
  have k5 := kept_block (block_last w2 _) hb3
  have v3 : Below w2.heap.size w2 w3 := (below_one w2 _).trans (hb3.mono (below_one w2 _).size)
  have m3 : w2.heap.size + 1 ≤ w3.heap.size := by have := hb3.size; simpa using this
  have ho3 := own_lt ho3 (base' := w2.heap.size + 1) (by simp)
  have b3 := ho3.lt
  clear hb3 u2
  go_wp2_with fail
  refine (hI S _ _ _ z0 _ HM.out _ r3 (by omega) (hnd.below (gr_trans q2 v3))).mono ?_
  rintro e w4 ⟨hgot4, hb4⟩
  obtain ⟨ys4, lo4, cp4, rfl, o4, d4⟩ := gotM_len HG.out hgot4
  have m4 := hb4.size
  have b4 := o4.blk
  have hl4 := o4.size
  have hbk : bulk ys4 ≤ 400 := by have := bulk_small ys4 o4.item (by rw [d4]; exact HL.out); omega
  have D4 := hide d4
  have k5 := kept_block k5 hb4
  have v4 : Below w2.heap.size w2 w4 := v3.trans (hb4.mono v3.size)
  have o3 := own_below ho3 hb4
  have r3 := r3.below hb4
  have KB5 := hide k5
  have B4 := hide b4
  obtain ⟨⟨x0, x1, x2, x3, x4⟩, -⟩ := cells5 (kept_block k5 (below_one w4 (.cells #[.int .i64 K, .int .i64 I, .int .i64 A, .int .i64 B, .slice lo4 L.length cp4] 25)))
  clear k5 hb4 v3 ho3 hgot4 d4 b4
  go_wp2_with fail
  refine (eqPdu_same K I A B _ _ _ ys4 _ _ _ ys2 (D4.out.trans D2.out.symm) _ (o4.brow.below (below_one w4 _)) ((r2.below v4).below (below_one w4 _))).mono ?_
  rintro e w5 ⟨rfl, hb5⟩
  have k9 := kept_block (block_last w4 _) hb5
  have d5 : Below w4.heap.size w4 w5 := (below_one w4 _).trans (hb5.mono (below_one w4 _).size)
  have p5 := v4.trans (d5.mono (by omega))
  clear hb5 x0 x1 x2 x3 x4
  go_wp2_with fail
  refine (copy_made _ _ _ z0 _ (h0.below (q2.trans (p5.mono m2))) (by omega)).mono ?_
  rintro e w6 ⟨ao6, cp6, rfl, -, r6, hb6⟩
  go_wp2_with fail
  refine (eq_same _ _ _ _ _ _ z0 _ ((r3.below d5).below hb6) r6).mono ?_
  rintro e w7 ⟨rfl, n7, rfl⟩
  have f7 : Below w5.heap.size w5 (w6.drewN n7) := below_drewN hb6 n7
  have d7 : Below w4.heap.size w4 (w6.drewN n7) := d5.trans (f7.mono d5.size)
  have p7 := v4.trans (d7.mono (by omega))
  have k9 := kept_block k9 f7
  have k5 := kept_block KB5.out d7
  have o3 := own_below o3 d7
  have o4 := o4.below d7
  clear f7 d7 d5 p5 hb6 r6 r3 KB5 v4
  generalize w6.drewN n7 = w7 at *
  have K9 := hide k9
  have K5 := hide k5
  clear k9 k5
  -- the marks
  go_wp2_with fail
  refine (mark_grown _ _ _ _ z0 _ _ o3 (by omega) (by omega) (by omega)).mono ?_
  rintro e w8 ⟨rfl, o8, g8⟩
  have o4 := o4.only (Only.of_grown g8) (fun b hb hc => by have h1 := (B4.out b hb).1; have h2 := (b3 b (mem_blkL.2 hc)).2; omega)
  have p8 := p7.grown g8 p7.size (fun k hk => by have := (b3 k hk).1; omega)
  have k9 := kept_grown K9.out g8 (fun k hk => by have := (b3 k hk).2; omega)
  have k5 := kept_grown K5.out g8 (fun k hk => by have := (b3 k hk).1; omega)
  obtain ⟨⟨x0, x1, x2, x3, x4⟩, -⟩ := cells5 k9
  obtain ⟨⟨y0, y1, y2, y3, y4⟩, -⟩ := cells5 k5
  have K9 := hide k9
  have K5 := hide k5
  clear o8 o3 p7 g8 k9 k5
  go_wp2_with fail
  refine (eqPdu_same K I A B _ _ _ ys4 _ _ _ ys2 (D4.out.trans D2.out.symm) _ o4.brow (r2.below p8)).mono ?_
  rintro e w9 ⟨rfl, hb9⟩
  have o4 := o4.below hb9
  have p9 := p8.trans (hb9.mono p8.size)
  have k9 := kept_block K9.out hb9
  have k5 := kept_block K5.out hb9
  clear x0 x1 x2 x3 x4 y0 y1 y2 y3 y4 K9 K5 p8 hb9
  obtain ⟨⟨x0, x1, x2, x3, x4⟩, -⟩ := cells5 k9
  have K9 := hide k9
  have K5 := hide k5
  have hE := endBs_le ys4 1
  clear k9 k5
  go_wp2_with fail
  refine (markPdu_grown K I A B _ _ _ _ ys4 1 _ o4 (by omega) (by omega) (by omega)).mono ?_
  rintro e w10 ⟨rfl, o10, on10⟩
  have p10 := p9.trans (on10.below p9.size (fun b hb => by have := (B4.out b hb).1; omega))
  have k9 := on10.kept K9.out (fun hb => by have := (B4.out _ hb).2; omega)
  have k5 := on10.kept K5.out (fun hb => by have := (B4.out _ hb).1; omega)
  clear x0 x1 x2 x3 x4 K9 K5 p9 o4 on10
  obtain ⟨⟨x0, x1, x2, x3, x4⟩, -⟩ := cells5 k9
  have K9 := hide k9
  have K5 := hide k5
  have r10 := o10.brow
  clear k9 k5 o10
  go_wp2_with fail
  refine (heldPdu_any K I A B _ _ _ ys4 1 _ r10 (by omega) (by omega) (by omega)).mono ?_
  rintro e w11 ⟨rfl, hb11⟩
  have p11 := p10.trans (hb11.mono p10.size)
  have r11 := r10.below hb11
  have k9 := hide (kept_block K9.out hb11)
  have k5 := hide (kept_block K5.out hb11)
  generalize hEE : endBs 1 ys4 = EE at *
  have HEE := hide hEE
  clear x0 x1 x2 x3 x4 K9 K5 p10 hb11 r10 hEE
  go_wp2_with fail
  refine (copy_made _ _ _ z0 _ (h0.below (q2.trans (p11.mono m2))) (by omega)).mono ?_
  rintro e w12 ⟨ao12, cp12, rfl, -, r12, hb12⟩
  go_wp2_with fail
  refine (hI S _ _ _ z0 _ HM.out _ r12 (by omega) (hnd.below (q2.trans ((p11.trans (hb12.mono p11.size)).mono m2)))).mono ?_
  rintro e w13 ⟨hgot13, hb13⟩
  obtain ⟨ys13, lo13, cp13, rfl, o13, d13'⟩ := gotM_len HG.out hgot13
  have D13 := hide d13'
  have d13 := hb12.trans (hb13.mono hb12.size)
  have p13 := p11.trans (d13.mono p11.size)
  have K9 := hide (kept_block k9.out d13)
  have k5' := kept_block k5.out d13
  have r11 := r11.below d13
  obtain ⟨⟨y0, y1, y2, y3, y4⟩, -⟩ := cells5 (kept_block k5' (below_one w13 (.cells #[.int .i64 K, .int .i64 I, .int .i64 A, .int .i64 B, .slice lo13 L.length cp13] 25)))
  clear hb12 hb13 d13 p11 k9 k5 k5' r12 hgot13 d13'
  go_wp2_with fail
  refine (eqPdu_same K I A B _ _ _ ys13 _ _ _ ys2 (D13.out.trans D2.out.symm) _ (o13.brow.below (below_one w13 _)) ((r2.below p13).below (below_one w13 _))).mono ?_
  rintro e w14 ⟨rfl, hb14⟩
  have d14 : Below w13.heap.size w13 w14 := (below_one w13 _).trans (hb14.mono (below_one w13 _).size)
  have p14 := p13.trans (d14.mono p13.size)
  obtain ⟨⟨x0, x1, x2, x3, x4⟩, -⟩ := cells5 (kept_block K9.out d14)
  clear y0 y1 y2 y3 y4 hb14 p13 o13 K9
  go_wp2_with fail
  refine (heldPdu_any K I A B _ _ _ ys4 1 _ (r11.below d14) (by omega) (by omega) (by omega)).mono ?_
  rintro e w15 ⟨rfl, hb15⟩
  rw [HEE.out]
  go_wp2
  go_ret
  exact ⟨rfl, q2.trans ((p14.trans (hb15.mono p14.size)).mono m2)⟩

end Go.Proofs.YtamglfhnhjgdjabGreatDoor
