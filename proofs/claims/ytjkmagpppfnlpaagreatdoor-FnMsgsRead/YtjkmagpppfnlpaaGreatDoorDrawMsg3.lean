/-
  Bytes of a drawn message: DrawGetMsg by its contract.
-/
import Derived.Test.YtjkmagpppfnlpaaGreatDoorDrawMsg2
namespace Go.Proofs.YtjkmagpppfnlpaaGreatDoor
open Go.RowKit

theorem putM_le (word : List Int) (k id a b : Int) (bs : List BD) : (putM word k id a b bs).length ≤ 1000 := by
  unfold putM
  split
  · have := putTlv_length [] 48 (msgB word (putP k id a b bs))
    simp at this
    omega
  · simp

set_option maxRecDepth 100000 in
set_option maxHeartbeats 2000000 in
theorem drawGetMsg_any (a0 : Option Addr) (l0 c0 : Nat) (z0 : List Int) (w : World) (h0 : Row w a0 l0 c0 z0) (hs : l0 ≤ 1048576) :
    Calls Tryz.prog 14 #[.slice a0 l0 c0] w fun e w' => ∃ (S : ByteArray) (ao : Option Addr) (n cap : Nat) (zs : List Int), e = .returned (.tuple #[.string S, .slice ao n cap]) ∧ S.size ≤ 30 ∧ n ≤ 3000 ∧ Row w' ao n cap zs ∧ Below w.heap.size w w' := by
  go_enter Tryz.func14, Tryz.ntmps14
  go_wp2_with fail
  refine (new_any a0 l0 c0 z0 _ h0 hs).mono ?_
  rintro e w1 ⟨rfl, cur1, q1⟩
  have hlt := cur1.lt
  go_wp2_with fail
  refine (pickS_any w.heap.size a0 l0 c0 z0 _ _ _ w1 cur1 rfl ?h1a ?h2a ?h3a ?h4a).mono ?_
  case h1a => rfl
  case h2a => kernel_rfl
  case h3a => decide
  case h4a => decide
  rintro e w2 ⟨S, hS, rfl, went2⟩
  have q2 : Below w.heap.size w w2 := q1.trans (below_of_grown went2.grown (by omega) (by omega))
  have hs2 := went2.grown.size
  clear q1
  go_wp2_with fail
  refine (l4Draw_any _ a0 l0 c0 z0 _ went2.cur).mono ?_
  rintro e w3 ⟨k, id, a, b, ys, lo, cap, rfl, hys, hbo, went3⟩
  have q3 : Below w.heap.size w w3 := q2.trans (below_of_grown went3.grown (by omega) (by omega))
  have hs3 := went3.grown.size
  have d3 := below_one w3 (.cells #[.int .i64 k, .int .i64 id, .int .i64 a, .int .i64 b, .slice lo ys.length cap] 26)
  have k3 := block_last w3 (.cells #[.int .i64 k, .int .i64 id, .int .i64 a, .int .i64 b, .slice lo ys.length cap] 26)
  have bo3 := (hbo.lt (base' := w.heap.size + 1) (by omega)).below d3
  have q3' := gr_trans q3 d3
  have cur3 := went3.cur.below d3
  clear q2 q3 d3 hbo went2 went3
  go_wp2_with fail
  generalize hw3 : (w3.alloc (.cells #[.int .i64 k, .int .i64 id, .int .i64 a, .int .i64 b, .slice lo ys.length cap] 26)) = w3' at *
  have hs3' : w3'.heap.size = w3.heap.size + 1 := by rw [← hw3]; simp
  clear hw3
  refine (once_any _ a0 l0 c0 z0 8 _ cur3 (by omega)).mono ?_
  rintro e w4 ⟨x4, rfl, went4⟩
  have q4 : Below w.heap.size w w4 := q3'.trans (below_of_grown went4.grown (by omega) (by omega))
  have k4 := kept_grown k3 went4.grown (fun k hk => by cases hk; omega)
  have bo4 := bo3.only (Only.of_grown (ao := some ⟨w.heap.size, 0, none⟩) (n := 0) (c := 0) went4.grown) (by
    intro b hb hc
    have h1 := (bo3.blk b hb).1
    have h2 : b = w.heap.size := by simpa [blkL] using hc
    omega)
  have cur4 := went4.cur
  clear q3' k3 bo3 cur3 went4
  cases x4
  · obtain ⟨⟨p0, p1, p2, p3, p4⟩, -⟩ := cells5 k4
    have hlt4 : w3.heap.size < w4.heap.size := (Array.getElem?_eq_some_iff.1 k4).1
    have r4 := bo4.brow
    have hyl : (⟨#[121, 97, 114, 100]⟩ : ByteArray).size ≤ maxLen := by unfold maxLen; decide
    generalize hP : putM (strB ⟨#[121, 97, 114, 100]⟩) k id a b (ys.map BI.d) = P
    have hPl : P.length ≤ 1000 := by rw [← hP]; exact putM_le _ _ _ _ _ _
    have HP := hide hP
    clear hP bo4
    go_wp2_with fail
    refine (specPutMsg_made ⟨#[121, 97, 114, 100]⟩ hyl k id a b lo ys.length cap ys P HP.out _ r4).mono ?_
    rintro e w5 ⟨ao5, cp5, rfl, o5, r5, hb5⟩
    have q5 := gr_trans q4 hb5
    have cur5 := cur4.below hb5
    have hs5 := hb5.size
    clear p0 p1 p2 p3 p4 k4 r4 hb5 q4 cur4
    go_wp2_with fail
    refine (bend_any _ a0 l0 c0 z0 w4.heap.size ao5 P.length cp5 P _ cur5 (by omega) hs5 o5 r5.byte (by omega)).mono ?_
    rintro e w6 ⟨ao6, n6, cp6, zs6, rfl, hn6, hby6, hz6, o6, cur6, hb6⟩
    have q6 := hide (q5.trans (hb6.mono (Nat.le_refl _)))
    have r6 := hide (row_own o6 hby6)
    clear q5 hb6 o6 cur5 cur6 o5 r5
    go_wp2
    exact bodyPost_ret (v := .tuple #[.string S, .slice ao6 n6 cp6]) (by simp [results, Tryz.results14, go_sem, *]) rfl ⟨S, ao6, n6, cp6, zs6, rfl, hS, by omega, r6.out, q6.out⟩
  · go_wp2_with fail
    have D : DG w w4.drew w4.drew w.heap.size w3.heap.size a0 l0 c0 z0 k id a b lo cap ys := ⟨k4, bo4.below (Below.refl _ _).drew, Went.start (cur4.below (Below.refl _ _).drew) (Below.refl _ _), q4.drew, by omega, (Array.getElem?_eq_some_iff.1 k4).1, fun j hj => (bo4.blk j hj).2⟩
    have k4d : w4.drew.heap[w3.heap.size]? = some (.cells #[.int .i64 k, .int .i64 id, .int .i64 a, .int .i64 b, .slice lo ys.length cap] 26) := k4
    refine wp_region_held_drew (S := (fun W => W.heap[w3.heap.size]? = some (.cells #[.int .i64 k, .int .i64 id, .int .i64 a, .int .i64 b, .slice lo ys.length cap] 26))) (by kernel_rfl) k4d (fun _ => ?_)
    refine wpAnyH_take (i := 0) (oi := _) (v := ?_) rfl (by kernel_rfl) (by kernel_rfl) (by kernel_rfl) (fun _ _ _ h => h) (Or.inl ⟨by rfl, ?_⟩) k4d ?_
    rotate_left
    · (intro wY hY; go_simp; try with_reducible rfl)
    try simp only [Act.put]
    try simp only [List.setIfInBounds_toArray]
    try simp only [List.set_cons_succ]
    try simp only [List.set_cons_zero]
    refine wpAnyH_take (i := 3) (oi := _) (v := ?_) rfl (by kernel_rfl) (by kernel_rfl) (by kernel_rfl) (fun _ _ _ h => h) (Or.inl ⟨by rfl, ?_⟩) k4d ?_
    rotate_left
    · (intro wY hY; go_simp; try with_reducible rfl)
    try simp only [Act.put]
    try simp only [List.setIfInBounds_toArray]
    try simp only [List.set_cons_succ]
    try simp only [List.set_cons_zero]
    refine wpAnyH_take (i := 10) (oi := _) (v := ?_) rfl (by kernel_rfl) (by kernel_rfl) (by kernel_rfl) (fun _ _ _ h => h) (Or.inl ⟨by rfl, ?_⟩) k4d ?_
    rotate_left
    · (intro wY hY; obtain ⟨⟨y0, y1, y2, y3, y4⟩, -⟩ := cells5 hY; go_simp; try with_reducible rfl)
    try simp only [Act.put]
    try simp only [List.setIfInBounds_toArray]
    try simp only [List.set_cons_succ]
    try simp only [List.set_cons_zero]
    refine dg0000 D ?_
    intro v17 v18 v20 v21 v22 v23 v24 v25 v27 v28 ao n cp zs W hn hrow hlow
    clear D k4d k4 bo4 cur4 q4
    go_wp2
    exact bodyPost_ret (v := .tuple #[.string S, .slice ao n cp]) (by simp [results, Tryz.results14, go_sem, *]) rfl ⟨S, ao, n, cp, zs, rfl, hS, hn, hrow, hlow⟩

end Go.Proofs.YtjkmagpppfnlpaaGreatDoor
