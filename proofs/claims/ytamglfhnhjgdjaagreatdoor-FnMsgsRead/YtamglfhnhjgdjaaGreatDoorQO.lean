/-
  Bytes of a drawn message: DrawGetMsg by its contract.
  FnMsgsRead answers true at all arguments, for a program whose GetMsg is as the document's mathematics has it: what drawn bytes are is told as the specification tells it, and of any bytes there is one code.
-/
import Derived.Test.YtamglfhnhjgdjaaGreatDoorDrawMsg2
import Derived.Test.YtamglfhnhjgdjaaGreatDoorMsgSpec
import Derived.Test.YtamglfhnhjgdjaaGreatDoorMsgIs
import Derived.Test.YtamglfhnhjgdjaaGreatDoorDrawd
import Derived.Test.YtamglfhnhjgdjaaGreatDoorPduLaws
import Derived.Test.YtamglfhnhjgdjaaGreatDoorCards
import Derived.Test.YtamglfhnhjgdjaaGreatDoorTie
import Derived.WalkKit
import Derived.ProofKit
import Derived.OpenShut
import Derived.ShutString
import Derived.ChangeOld
import Derived.Below
import Derived.LaidMore
import Derived.Stop.Joined
import Derived.Stop.LaidErr
import Derived.SevenTiedAt
import Derived.LaidLaws
import Derived.LaidHandle
namespace Go.Proofs.YtamglfhnhjgdjaaGreatDoor
open Go.RowKit

theorem putM_le (word : List Int) (k id a b : Int) (bs : List BD) : (putM word k id a b bs).length ≤ 1000 := by
  unfold putM
  split
  · have := putTlv_length [] 48 (msgB word (putP k id a b bs))
    simp at this
    omega
  · simp

set_option maxRecDepth 100000 in
set_option maxHeartbeats 2000000 in
theorem drawGetMsg_any (a0 : Option Addr) (l0 c0 : Nat) (z0 : List Int) (w : World) (h0 : Row w a0 l0 c0 z0) (hs : l0 ≤ 1048576) :
    Calls Tryz.prog 13 #[.slice a0 l0 c0] w fun e w' => ∃ (S : ByteArray) (ao : Option Addr) (n cap : Nat) (zs : List Int), e = .returned (.tuple #[.string S, .slice ao n cap]) ∧ S.size ≤ 30 ∧ n ≤ 3000 ∧ Row w' ao n cap zs ∧ Below w.heap.size w w' := by
  go_enter Tryz.func13, Tryz.ntmps13
  go_wp2_with fail
  refine (new_any a0 l0 c0 z0 _ h0 hs).mono ?_
  rintro e w1 ⟨rfl, cur1, q1⟩
  have hlt := cur1.lt
  go_wp2_with fail
  refine (pickS_any w.heap.size a0 l0 c0 z0 _ _ _ w1 cur1 rfl ?h1a ?h2a ?h3a ?h4a).mono ?_
  case h1a => rfl
  case h2a => kernel_rfl
  case h3a => decide
  case h4a => decide
  rintro e w2 ⟨S, hS, rfl, went2⟩
  have q2 : Below w.heap.size w w2 := q1.trans (below_of_grown went2.grown (by omega) (by omega))
  have hs2 := went2.grown.size
  clear q1
  go_wp2_with fail
  refine (l4Draw_any _ a0 l0 c0 z0 _ went2.cur).mono ?_
  rintro e w3 ⟨k, id, a, b, ys, lo, cap, rfl, hys, hbo, went3⟩
  have q3 : Below w.heap.size w w3 := q2.trans (below_of_grown went3.grown (by omega) (by omega))
  have hs3 := went3.grown.size
  have d3 := below_one w3 (.cells #[.int .i64 k, .int .i64 id, .int .i64 a, .int .i64 b, .slice lo ys.length cap] 26)
  have k3 := block_last w3 (.cells #[.int .i64 k, .int .i64 id, .int .i64 a, .int .i64 b, .slice lo ys.length cap] 26)
  have bo3 := (hbo.lt (base' := w.heap.size + 1) (by omega)).below d3
  have q3' := gr_trans q3 d3
  have cur3 := went3.cur.below d3
  clear q2 q3 d3 hbo went2 went3
  go_wp2_with fail
  generalize hw3 : (w3.alloc (.cells #[.int .i64 k, .int .i64 id, .int .i64 a, .int .i64 b, .slice lo ys.length cap] 26)) = w3' at *
  have hs3' : w3'.heap.size = w3.heap.size + 1 := by rw [← hw3]; simp
  clear hw3
  refine (once_any _ a0 l0 c0 z0 8 _ cur3 (by omega)).mono ?_
  rintro e w4 ⟨x4, rfl, went4⟩
  have q4 : Below w.heap.size w w4 := q3'.trans (below_of_grown went4.grown (by omega) (by omega))
  have k4 := kept_grown k3 went4.grown (fun k hk => by cases hk; omega)
  have bo4 := bo3.only (Only.of_grown (ao := some ⟨w.heap.size, 0, none⟩) (n := 0) (c := 0) went4.grown) (by
    intro b hb hc
    have h1 := (bo3.blk b hb).1
    have h2 : b = w.heap.size := by simpa [blkL] using hc
    omega)
  have cur4 := went4.cur
  clear q3' k3 bo3 cur3 went4
  cases x4
  · obtain ⟨⟨p0, p1, p2, p3, p4⟩, -⟩ := cells5 k4
    have hlt4 : w3.heap.size < w4.heap.size := (Array.getElem?_eq_some_iff.1 k4).1
    have r4 := bo4.brow
    have hyl : (⟨#[121, 97, 114, 100]⟩ : ByteArray).size ≤ maxLen := by unfold maxLen; decide
    generalize hP : putM (strB ⟨#[121, 97, 114, 100]⟩) k id a b (ys.map BI.d) = P
    have hPl : P.length ≤ 1000 := by rw [← hP]; exact putM_le _ _ _ _ _ _
    have HP := hide hP
    clear hP bo4
    go_wp2_with fail
    refine (specPutMsg_made ⟨#[121, 97, 114, 100]⟩ hyl k id a b lo ys.length cap ys P HP.out _ r4).mono ?_
    rintro e w5 ⟨ao5, cp5, rfl, o5, r5, hb5⟩
    have q5 := gr_trans q4 hb5
    have cur5 := cur4.below hb5
    have hs5 := hb5.size
    clear p0 p1 p2 p3 p4 k4 r4 hb5 q4 cur4
    go_wp2_with fail
    refine (bend_any _ a0 l0 c0 z0 w4.heap.size ao5 P.length cp5 P _ cur5 (by omega) hs5 o5 r5.byte (by omega)).mono ?_
    rintro e w6 ⟨ao6, n6, cp6, zs6, rfl, hn6, hby6, hz6, o6, cur6, hb6⟩
    have q6 := hide (q5.trans (hb6.mono (Nat.le_refl _)))
    have r6 := hide (row_own o6 hby6)
    clear q5 hb6 o6 cur5 cur6 o5 r5
    go_wp2
    exact bodyPost_ret (v := .tuple #[.string S, .slice ao6 n6 cp6]) (by simp [results, Tryz.results13, go_sem, *]) rfl ⟨S, ao6, n6, cp6, zs6, rfl, hS, by omega, r6.out, q6.out⟩
  · go_wp2_with fail
    have D : DG w w4.drew w4.drew w.heap.size w3.heap.size a0 l0 c0 z0 k id a b lo cap ys := ⟨k4, bo4.below (Below.refl _ _).drew, Went.start (cur4.below (Below.refl _ _).drew) (Below.refl _ _), q4.drew, by omega, (Array.getElem?_eq_some_iff.1 k4).1, fun j hj => (bo4.blk j hj).2⟩
    have k4d : w4.drew.heap[w3.heap.size]? = some (.cells #[.int .i64 k, .int .i64 id, .int .i64 a, .int .i64 b, .slice lo ys.length cap] 26) := k4
    refine wp_region_held_drew (S := (fun W => W.heap[w3.heap.size]? = some (.cells #[.int .i64 k, .int .i64 id, .int .i64 a, .int .i64 b, .slice lo ys.length cap] 26))) (by kernel_rfl) k4d (fun _ => ?_)
    refine wpAnyH_take (i := 0) (oi := _) (v := ?_) rfl (by kernel_rfl) (by kernel_rfl) (by kernel_rfl) (fun _ _ _ h => h) (Or.inl ⟨by rfl, ?_⟩) k4d ?_
    rotate_left
    · (intro wY hY; go_simp; try with_reducible rfl)
    try simp only [Act.put]
    try simp only [List.setIfInBounds_toArray]
    try simp only [List.set_cons_succ]
    try simp only [List.set_cons_zero]
    refine wpAnyH_take (i := 3) (oi := _) (v := ?_) rfl (by kernel_rfl) (by kernel_rfl) (by kernel_rfl) (fun _ _ _ h => h) (Or.inl ⟨by rfl, ?_⟩) k4d ?_
    rotate_left
    · (intro wY hY; go_simp; try with_reducible rfl)
    try simp only [Act.put]
    try simp only [List.setIfInBounds_toArray]
    try simp only [List.set_cons_succ]
    try simp only [List.set_cons_zero]
    refine wpAnyH_take (i := 10) (oi := _) (v := ?_) rfl (by kernel_rfl) (by kernel_rfl) (by kernel_rfl) (fun _ _ _ h => h) (Or.inl ⟨by rfl, ?_⟩) k4d ?_
    rotate_left
    · (intro wY hY; obtain ⟨⟨y0, y1, y2, y3, y4⟩, -⟩ := cells5 hY; go_simp; try with_reducible rfl)
    try simp only [Act.put]
    try simp only [List.setIfInBounds_toArray]
    try simp only [List.set_cons_succ]
    try simp only [List.set_cons_zero]
    refine dg0000 D ?_
    intro v17 v18 v20 v21 v22 v23 v24 v25 v27 v28 ao n cp zs W hn hrow hlow
    clear D k4d k4 bo4 cur4 q4
    go_wp2
    exact bodyPost_ret (v := .tuple #[.string S, .slice ao n cp]) (by simp [results, Tryz.results13, go_sem, *]) rfl ⟨S, ao, n, cp, zs, rfl, hS, hn, hrow, hlow⟩

theorem getM_codes (word z : List Int) : (getM word z).1 = 0 ∨ (((getM word z).1 = 1 ∨ (getM word z).1 = 2 ∨ (getM word z).1 = 3) ∧ (getM word z).2 = none) := by
  unfold getM
  split
  · split
    · exact .inr ⟨.inl rfl, rfl⟩
    · split
      · exact .inr ⟨.inl rfl, rfl⟩
      · split
        · split
          · cases getP _ with
            | none => exact .inr ⟨.inl rfl, rfl⟩
            | some p => exact .inl rfl
          · exact .inr ⟨.inr (.inr rfl), rfl⟩
        · exact .inr ⟨.inr (.inl rfl), rfl⟩
  · exact .inr ⟨.inl rfl, rfl⟩

set_option maxRecDepth 100000 in
set_option maxHeartbeats 2000000 in
theorem msgsRead_walkI (hI : ImplIs) (a0 : Option Addr) (l0 c0 : Nat) (z0 : List Int) (w : World) (h0 : Row w a0 l0 c0 z0) (hg : Hnd w) :
    Calls Tryz.prog 4 #[.slice a0 l0 c0] w fun e w' => e = .returned (.bool true) ∧ Below w.heap.size w w' := by
  by_cases g0 : 1048576 < l0
  · have i1 : (1048576 : Int) < l0 := by omega
    go_enter Tryz.func4, Tryz.ntmps4
    go_wp2
    go_ret
    exact ⟨rfl, Below.refl _ _⟩
  go_enter Tryz.func4, Tryz.ntmps4
  go_wp2_with fail
  refine (big_no _ _ _ _ g0).mono ?_
  rintro e w0 ⟨rfl, rfl⟩
  go_wp2_with fail
  refine (drawGetMsg_any _ _ _ z0 _ h0 (by omega)).mono ?_
  rintro e w1 ⟨S, ao1, n1, cp1, zs, rfl, -, hn1, r1, q1⟩
  rcases hM : getM (strB S) zs with ⟨code, r⟩
  have hcodes := getM_codes (strB S) zs
  rw [hM] at hcodes
  rcases hY : r.getD ⟨0, 0, 0, 0, []⟩ with ⟨K, I, A, B, L⟩
  have hc : code = 0 ∨ ((code = 1 ∨ code = 2 ∨ code = 3) ∧ K = 0) := by
    rcases hcodes with h | ⟨h, hn⟩
    · exact .inl h
    · refine .inr ⟨h, ?_⟩
      simp only at hn
      rw [hn] at hY
      simp only [Option.getD_none, PD.mk.injEq] at hY
      exact hY.1.symm
  have HM := hide hM
  have HY := hide hY
  have HC := hide hc
  clear hM hY hcodes hc
  go_wp2_with fail
  refine (hI S ao1 n1 cp1 zs _ HM.out _ r1 (by omega) (hg.below q1)).mono ?_
  rintro e w2 ⟨hgot2, hb2⟩
  obtain ⟨ys2, lo2, cp2, rfl, o2, d2⟩ := gotM_len HY.out hgot2
  have e2 := below_one w2 (.cells #[.int .i64 K, .int .i64 I, .int .i64 A, .int .i64 B, .slice lo2 L.length cp2] 26)
  have k2 := block_last w2 (.cells #[.int .i64 K, .int .i64 I, .int .i64 A, .int .i64 B, .slice lo2 L.length cp2] 26)
  have f2 := gr_trans hb2 e2
  have q2 := gr_trans q1 f2
  have r1 := r1.below f2
  have r2 := o2.brow.below e2
  have D2 := hide d2
  clear hb2 e2 f2 q1 hgot2 o2 d2
  go_wp2_with fail
  generalize (w2.alloc (.cells #[.int .i64 K, .int .i64 I, .int .i64 A, .int .i64 B, .slice lo2 L.length cp2] 26)) = w2' at *
  refine (specGetMsg_any S ao1 n1 cp1 zs _ HM.out _ r1 (by omega)).mono ?_
  rintro e w3 ⟨hgot3, hb3⟩
  obtain ⟨ys3, lo3, cp3, rfl, o3, d3⟩ := gotM_len HY.out hgot3
  have e3 := below_one w3 (.cells #[.int .i64 K, .int .i64 I, .int .i64 A, .int .i64 B, .slice lo3 L.length cp3] 26)
  have k3 := block_last w3 (.cells #[.int .i64 K, .int .i64 I, .int .i64 A, .int .i64 B, .slice lo3 L.length cp3] 26)
  have f3 := gr_trans hb3 e3
  have q3 := gr_trans q2 f3
  have k2 := kept_block k2 f3
  have r2 := r2.below f3
  have r3 := o3.brow.below e3
  have D3 := hide d3
  clear hb3 e3 f3 q2 hgot3 o3 d3 r1
  go_wp2_with fail
  generalize (w3.alloc (.cells #[.int .i64 K, .int .i64 I, .int .i64 A, .int .i64 B, .slice lo3 L.length cp3] 26)) = w3' at *
  refine (drawGetTlv_any _ _ _ z0 _ (h0.below q3) (by omega)).mono ?_
  rintro e w4 ⟨ao4, n4, cp4, zs4, t4, rfl, hn4, -, -, r4, hb4⟩
  have q4 := gr_trans q3 hb4
  have k2 := kept_block k2 hb4
  have k3 := kept_block k3 hb4
  have r2 := r2.below hb4
  have r3 := r3.below hb4
  clear q3 hb4
  rcases hM4 : getM (strB S) zs4 with ⟨code4, x4⟩
  rcases hY4 : x4.getD ⟨0, 0, 0, 0, []⟩ with ⟨K4, I4, A4, B4, L4⟩
  have HM4 := hide hM4
  have HY4 := hide hY4
  clear hM4 hY4
  go_wp2_with fail
  refine (hI S ao4 n4 cp4 zs4 _ HM4.out _ r4 (by omega) (hg.below q4)).mono ?_
  rintro e w5 ⟨hgot5, hb5⟩
  obtain ⟨ys5, lo5, cp5, rfl, -, -⟩ := gotM_len HY4.out hgot5
  have f5 := gr_trans hb5 (below_one w5 (.cells #[.int .i64 K4, .int .i64 I4, .int .i64 A4, .int .i64 B4, .slice lo5 L4.length cp5] 26))
  have q5 := gr_trans q4 f5
  have k2 := kept_block k2 f5
  have k3 := kept_block k3 f5
  have r2 := r2.below f5
  have r3 := r3.below f5
  have r4 := r4.below f5
  clear hb5 f5 q4 hgot5
  go_wp2_with fail
  generalize (w5.alloc (.cells #[.int .i64 K4, .int .i64 I4, .int .i64 A4, .int .i64 B4, .slice lo5 L4.length cp5] 26)) = w5' at *
  refine (specGetMsg_any S ao4 n4 cp4 zs4 _ HM4.out _ r4 (by omega)).mono ?_
  rintro e w6 ⟨hgot6, hb6⟩
  obtain ⟨ys6, lo6, cp6, rfl, -, -⟩ := gotM_len HY4.out hgot6
  have f6 := gr_trans hb6 (below_one w6 (.cells #[.int .i64 K4, .int .i64 I4, .int .i64 A4, .int .i64 B4, .slice lo6 L4.length cp6] 26))
  have q6 := gr_trans q5 f6
  have k2 := kept_block k2 f6
  have k3 := kept_block k3 f6
  have r2 := r2.below f6
  have r3 := r3.below f6
  clear hb6 f6 q5 hgot6 r4
  obtain ⟨⟨x0, x1, x2, x3, x4⟩, -⟩ := cells5 k2
  obtain ⟨⟨y0, y1, y2, y3, y4⟩, -⟩ := cells5 k3
  have K2 := hide k2
  clear k2 k3
  go_wp2_with fail
  generalize (w6.alloc (.cells #[.int .i64 K4, .int .i64 I4, .int .i64 A4, .int .i64 B4, .slice lo6 L4.length cp6] 26)) = w6' at *
  refine (samePdu_any K I A B _ _ _ ys2 _ _ _ ys3 _ r2 r3).mono ?_
  rintro e w7 ⟨rfl, hb7⟩
  rw [D2.out, D3.out, sameD_self]
  have k2 := kept_block K2.out hb7
  have Q7 := hide (gr_trans q6 hb7)
  clear q6 hb7 x0 x1 x2 x3 x4 y0 y1 y2 y3 y4 K2
  obtain ⟨⟨x0, x1, x2, x3, x4⟩, -⟩ := cells5 k2
  clear k2
  rcases HC.out with rfl | ⟨rfl | rfl | rfl, rfl⟩
  all_goals
    clear HC HM HY HM4 HY4
    go_wp2
    go_ret
    exact ⟨rfl, Q7.out⟩

end Go.Proofs.YtamglfhnhjgdjaaGreatDoor
