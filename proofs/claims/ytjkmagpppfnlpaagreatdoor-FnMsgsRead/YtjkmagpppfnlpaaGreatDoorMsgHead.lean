/-
  What stands ahead of the request in a message, as the program reads it: readHead by its contracts.
-/
import Derived.Test.YtjkmagpppfnlpaaGreatDoorMsgPart
namespace Go.Proofs.YtjkmagpppfnlpaaGreatDoor
open Go.RowKit

theorem cellsH {w : World} {C : Nat} {t : TypeId} {c0 c1 c2 : Value} (h : w.heap[C]? = some (.cells #[c0, c1, c2] t)) :
    (w.cell? ⟨C, 0, none⟩ = some c0 ∧ w.cell? ⟨C, 1, none⟩ = some c1 ∧ w.cell? ⟨C, 2, none⟩ = some c2) ∧ w.frozen? ⟨C, 0, none⟩ = false ∧ w.frozen? ⟨C, 1, none⟩ = false ∧ w.frozen? ⟨C, 2, none⟩ = false := by
  refine ⟨⟨?_, ?_, ?_⟩, ?_, ?_, ?_⟩ <;> simp [World.cell?, World.frozen?, h]

theorem Row.set {w : World} {b off len cap : Nat} {zs : List Int} (h : Row w (some ⟨b, off, none⟩) len cap zs) {P : Nat} (hP : ¬ b = P) (j : Nat) (u : Value) : Row (w.setCell ⟨P, j, none⟩ u) (some ⟨b, off, none⟩) len cap zs where
  size := h.size
  le := h.le
  top := h.top
  nil := h.nil
  byte := h.byte
  cell := by
    rcases h.cell with h0 | ⟨b', off', e, hc⟩
    · exact .inl h0
    · cases e
      refine .inr ⟨b, off, rfl, fun i hi => ?_⟩
      rw [World.cell?_setCell_far w ⟨P, j, none⟩ ⟨b, off + i, none⟩ u (fun e => hP e.symm)]
      exact hc i hi

/-- Where there is no head: the first thing that is missing, as the program asks. -/
theorem headJ_none {z : List Int} (h : headJ z = none) :
    partM z 0 48 = none ∨ ∃ body nx, partM z 0 48 = some (body, nx) ∧ (partM body 0 2 = none ∨ ∃ nb t, partM body 0 2 = some (nb, t) ∧ (partM body t 4 = none ∨ ∃ s u, partM body t 4 = some (s, u) ∧
      ((getInt nb).2 = false ∨ ((getInt nb).2 = true ∧ ¬ nx = (z.length : Int))))) := by
  rcases h0 : partM z 0 48 with _ | ⟨body, nx⟩
  · exact .inl rfl
  · refine .inr ⟨body, nx, rfl, ?_⟩
    rcases h1 : partM body 0 2 with _ | ⟨nb, t⟩
    · exact .inl rfl
    · refine .inr ⟨nb, t, rfl, ?_⟩
      rcases h2 : partM body t 4 with _ | ⟨s, u⟩
      · exact .inl rfl
      · refine .inr ⟨s, u, rfl, ?_⟩
        rcases h3 : (getInt nb).2 with _ | _
        · exact .inl rfl
        · refine .inr ⟨rfl, fun e => ?_⟩
          subst e
          unfold headJ at h
          rw [part_some h0] at h
          simp [numM, h1, h2, h3] at h

theorem headJ_all {z : List Int} {m : Int} {s r : List Int} (h : headJ z = some (m, s, r)) (hz : Byt z) :
    ∃ body nb t, ∃ q : Nat, partM z 0 48 = some (body, (z.length : Int)) ∧ partM body 0 2 = some (nb, t) ∧ getInt nb = (m, true) ∧ partM body t 4 = some (s, (q : Int)) ∧ 0 < q ∧ q ≤ body.length ∧ r = body.drop q ∧ Byt s := by
  obtain ⟨body, t, q, hT, hN, hP, -, hq, hql, hr, hs⟩ := headJ_yes h hz
  unfold numM at hN
  split at hN
  · rename_i nb nx hp
    split at hN
    · rename_i hi
      cases hN
      refine ⟨body, nb, _, q, part_of hT, hp, ?_, hP, hq, hql, hr, hs⟩
      rw [← hi]
    · cases hN
  · cases hN

set_option maxRecDepth 100000 in
set_option maxHeartbeats 1000000 in
theorem head_outer (ao : Option Addr) (n c : Nat) (z : List Int) (hP : partM z 0 48 = none) (w : World) (hr : Row w ao n c z) (hs : n ≤ 1048576) :
    Calls Tryz.prog 61 #[.slice ao n c] w fun e w' => e = .returned (.tuple #[.agg #[.int .i64 0, .string ⟨#[]⟩, .slice none 0 0], .iface 56 (.agg #[.int .i64 1])]) ∧ Below w.heap.size w w' := by
  have HP := hide hP
  clear hP
  have q0 := below_one w (.cells #[.int .i64 0, .string ⟨#[]⟩, .slice none 0 0] 94)
  have hk0 := block_last w (.cells #[.int .i64 0, .string ⟨#[]⟩, .slice none 0 0] 94)
  go_enter Tryz.func61, Tryz.ntmps61
  go_wp2_with fail
  refine (partTag_no ao n c z 0 48 HP.out _ (hr.below q0) hs).mono ?_
  rintro e w1 ⟨rfl, hb⟩
  obtain ⟨⟨c0, c1, c2⟩, f0, f1, f2⟩ := cellsH (kept_block hk0 hb)
  have b1 := q0.trans (hb.mono q0.size)
  have B1 := hide b1
  clear hb q0 hk0 b1 HP
  go_wp2
  refine bodyPost_ret (v := .tuple #[.agg #[.int .i64 0, .string ⟨#[]⟩, .slice none 0 0], .iface 56 (.agg #[.int .i64 1])]) (by simp [results, Tryz.results61, go_sem, *]) rfl ⟨rfl, ?_⟩
  repeat (refine below_set ?_ (Nat.le_refl _) _ _)
  exact B1.out

set_option maxRecDepth 100000 in
set_option maxHeartbeats 1000000 in
theorem head_num (ao : Option Addr) (n c : Nat) (z body : List Int) (nx : Int) (h0 : partM z 0 48 = some (body, nx)) (hP : partM body 0 2 = none) (w : World) (hr : Row w ao n c z) (hs : n ≤ 1048576) :
    Calls Tryz.prog 61 #[.slice ao n c] w fun e w' => e = .returned (.tuple #[.agg #[.int .i64 0, .string ⟨#[]⟩, .slice none 0 0], .iface 56 (.agg #[.int .i64 1])]) ∧ Below w.heap.size w w' := by
  have hz := hr.size
  have hbl := getTlv_length z 0
  rw [part_some h0] at hbl
  simp only at hbl
  have H0 := hide h0
  have HP := hide hP
  clear h0 hP
  have q0 := below_one w (.cells #[.int .i64 0, .string ⟨#[]⟩, .slice none 0 0] 94)
  have hk0 := block_last w (.cells #[.int .i64 0, .string ⟨#[]⟩, .slice none 0 0] 94)
  go_enter Tryz.func61, Tryz.ntmps61
  go_wp2_with fail
  refine (partTag_yes ao n c z 0 48 body nx H0.out _ (hr.below q0) hs).mono ?_
  rintro e w1 ⟨ao1, cp1, rfl, -, r1, hb⟩
  have k1 := kept_block hk0 hb
  have b1 := q0.trans (hb.mono q0.size)
  clear hb q0 hk0 H0
  go_wp2_with fail
  refine (partTag_no ao1 _ cp1 body 0 2 HP.out _ r1 (by omega)).mono ?_
  rintro e w2 ⟨rfl, hb2⟩
  obtain ⟨⟨c0, c1, c2⟩, f0, f1, f2⟩ := cellsH (kept_block k1 hb2)
  have B2 := hide (gr_trans b1 hb2)
  clear b1 hb2 k1 HP r1
  go_wp2
  refine bodyPost_ret (v := .tuple #[.agg #[.int .i64 0, .string ⟨#[]⟩, .slice none 0 0], .iface 56 (.agg #[.int .i64 1])]) (by simp [results, Tryz.results61, go_sem, *]) rfl ⟨rfl, ?_⟩
  repeat (refine below_set ?_ (Nat.le_refl _) _ _)
  exact B2.out

set_option maxRecDepth 100000 in
set_option maxHeartbeats 2000000 in
theorem head_text (ao : Option Addr) (n c : Nat) (z body nb : List Int) (nx t : Int) (h0 : partM z 0 48 = some (body, nx)) (h1 : partM body 0 2 = some (nb, t)) (hP : partM body t 4 = none) (w : World) (hr : Row w ao n c z) (hs : n ≤ 1048576) :
    Calls Tryz.prog 61 #[.slice ao n c] w fun e w' => e = .returned (.tuple #[.agg #[.int .i64 0, .string ⟨#[]⟩, .slice none 0 0], .iface 56 (.agg #[.int .i64 1])]) ∧ Below w.heap.size w w' := by
  have hz := hr.size
  have hbl := getTlv_length z 0
  rw [part_some h0] at hbl
  simp only at hbl
  have H0 := hide h0
  have H1 := hide h1
  have HP := hide hP
  clear h0 h1 hP
  have q0 := below_one w (.cells #[.int .i64 0, .string ⟨#[]⟩, .slice none 0 0] 94)
  have hk0 := block_last w (.cells #[.int .i64 0, .string ⟨#[]⟩, .slice none 0 0] 94)
  go_enter Tryz.func61, Tryz.ntmps61
  go_wp2_with fail
  refine (partTag_yes ao n c z 0 48 body nx H0.out _ (hr.below q0) hs).mono ?_
  rintro e w1 ⟨ao1, cp1, rfl, -, r1, hb⟩
  have k1 := kept_block hk0 hb
  have b1 := q0.trans (hb.mono q0.size)
  clear hb q0 hk0 H0
  go_wp2_with fail
  refine (partTag_yes ao1 _ cp1 body 0 2 nb t H1.out _ r1 (by omega)).mono ?_
  rintro e w2 ⟨ao2, cp2, rfl, -, -, hb2⟩
  have k2 := kept_block k1 hb2
  have r2 := r1.below hb2
  have b2 := gr_trans b1 hb2
  clear b1 hb2 k1 r1 H1
  go_wp2_with fail
  refine (partTag_no ao1 _ cp1 body t 4 HP.out _ r2 (by omega)).mono ?_
  rintro e w3 ⟨rfl, hb3⟩
  obtain ⟨⟨c0, c1, c2⟩, f0, f1, f2⟩ := cellsH (kept_block k2 hb3)
  have B3 := hide (gr_trans b2 hb3)
  clear b2 hb3 k2 HP r2
  go_wp2
  refine bodyPost_ret (v := .tuple #[.agg #[.int .i64 0, .string ⟨#[]⟩, .slice none 0 0], .iface 56 (.agg #[.int .i64 1])]) (by simp [results, Tryz.results61, go_sem, *]) rfl ⟨rfl, ?_⟩
  repeat (refine below_set ?_ (Nat.le_refl _) _ _)
  exact B3.out

set_option maxRecDepth 100000 in
set_option maxHeartbeats 2000000 in
theorem head_bad (ao : Option Addr) (n c : Nat) (z body nb s : List Int) (nx t u m : Int) (ok : Bool) (h0 : partM z 0 48 = some (body, nx)) (h1 : partM body 0 2 = some (nb, t)) (h2 : partM body t 4 = some (s, u)) (hi : getInt nb = (m, ok))
    (hno : ok = false ∨ (ok = true ∧ ¬ nx = (z.length : Int))) (w : World) (hr : Row w ao n c z) (hs : n ≤ 1048576) :
    Calls Tryz.prog 61 #[.slice ao n c] w fun e w' => e = .returned (.tuple #[.agg #[.int .i64 0, .string ⟨#[]⟩, .slice none 0 0], .iface 56 (.agg #[.int .i64 1])]) ∧ Below w.heap.size w w' := by
  have hz := hr.size
  rw [hz] at hno
  have hbl := getTlv_length z 0
  rw [part_some h0] at hbl
  simp only at hbl
  have hnl := getTlv_length body 0
  rw [part_some h1] at hnl
  simp only at hnl
  have H0 := hide h0
  have H1 := hide h1
  have H2 := hide h2
  have HI := hide hi
  clear h0 h1 h2 hi
  have q0 := below_one w (.cells #[.int .i64 0, .string ⟨#[]⟩, .slice none 0 0] 94)
  have hk0 := block_last w (.cells #[.int .i64 0, .string ⟨#[]⟩, .slice none 0 0] 94)
  go_enter Tryz.func61, Tryz.ntmps61
  go_wp2_with fail
  refine (partTag_yes ao n c z 0 48 body nx H0.out _ (hr.below q0) hs).mono ?_
  rintro e w1 ⟨ao1, cp1, rfl, -, r1, hb⟩
  have k1 := kept_block hk0 hb
  have b1 := q0.trans (hb.mono q0.size)
  clear hb q0 hk0 H0
  go_wp2_with fail
  refine (partTag_yes ao1 _ cp1 body 0 2 nb t H1.out _ r1 (by omega)).mono ?_
  rintro e w2 ⟨ao2, cp2, rfl, -, n2, hb2⟩
  have k2 := kept_block k1 hb2
  have r2 := r1.below hb2
  have b2 := gr_trans b1 hb2
  clear b1 hb2 k1 r1 H1
  go_wp2_with fail
  refine (partTag_yes ao1 _ cp1 body t 4 s u H2.out _ r2 (by omega)).mono ?_
  rintro e w3 ⟨ao3, cp3, rfl, -, -, hb3⟩
  have k3 := kept_block k2 hb3
  have n3 := n2.below hb3
  have B3 := hide (gr_trans b2 hb3)
  obtain ⟨⟨c0, c1, c2⟩, f0, f1, f2⟩ := cellsH k3
  clear b2 hb3 k2 H2 r2 n2 k3
  go_wp2_with fail
  refine (implGetInt_any ao2 _ cp2 nb _ n3 (by omega)).mono ?_
  rintro e w4 ⟨rfl, rfl⟩
  rw [HI.out]
  clear HI n3
  rcases hno with rfl | ⟨rfl, hnn⟩
  all_goals
    go_wp2
    refine bodyPost_ret (v := .tuple #[.agg #[.int .i64 0, .string ⟨#[]⟩, .slice none 0 0], .iface 56 (.agg #[.int .i64 1])]) (by simp [results, Tryz.results61, go_sem, *]) rfl ⟨rfl, ?_⟩
    repeat (refine below_set ?_ (Nat.le_refl _) _ _)
    exact B3.out

theorem readHead_no (ao : Option Addr) (n c : Nat) (z : List Int) (h : headJ z = none) (w : World) (hr : Row w ao n c z) (hs : n ≤ 1048576) :
    Calls Tryz.prog 61 #[.slice ao n c] w fun e w' => e = .returned (.tuple #[.agg #[.int .i64 0, .string ⟨#[]⟩, .slice none 0 0], .iface 56 (.agg #[.int .i64 1])]) ∧ Below w.heap.size w w' := by
  rcases headJ_none h with h0 | ⟨body, nx, h0, h1 | ⟨nb, t, h1, h2 | ⟨s, u, h2, h3⟩⟩⟩
  · exact head_outer ao n c z h0 w hr hs
  · exact head_num ao n c z body nx h0 h1 w hr hs
  · exact head_text ao n c z body nb nx t h0 h1 h2 w hr hs
  · exact head_bad ao n c z body nb s nx t u (getInt nb).1 (getInt nb).2 h0 h1 h2 rfl h3 w hr hs

set_option maxRecDepth 100000 in
set_option maxHeartbeats 4000000 in
theorem readHead_yes (ao : Option Addr) (n c : Nat) (z : List Int) (m : Int) (s r : List Int) (h : headJ z = some (m, s, r)) (w : World) (hr : Row w ao n c z) (hs : n ≤ 1048576) :
    Calls Tryz.prog 61 #[.slice ao n c] w fun e w' => ∃ ao' cap, e = .returned (.tuple #[.agg #[.int .i64 m, .string (byB s), .slice ao' r.length cap], .nilIface]) ∧ Row w' ao' r.length cap r ∧ Below w.heap.size w w' := by
  obtain ⟨body, nb, t, q, h0, h1, hi, h2, hq0, hql, rfl, hsb⟩ := headJ_all h hr.byte
  have hz := hr.size
  have hbl := getTlv_length z 0
  rw [part_some h0] at hbl
  simp only at hbl
  have hnl := getTlv_length body 0
  rw [part_some h1] at hnl
  simp only at hnl
  rw [hz] at h0
  have H0 := hide h0
  have H1 := hide h1
  have H2 := hide h2
  have HI := hide hi
  clear h0 h1 h2 hi h
  have q0 := below_one w (.cells #[.int .i64 0, .string ⟨#[]⟩, .slice none 0 0] 94)
  have hk0 := block_last w (.cells #[.int .i64 0, .string ⟨#[]⟩, .slice none 0 0] 94)
  go_enter Tryz.func61, Tryz.ntmps61
  go_wp2_with fail
  refine (partTag_yes ao n c z 0 48 body n H0.out _ (hr.below q0) hs).mono ?_
  rintro e w1 ⟨ao1, cp1, rfl, ho1, r1, hb⟩
  have k1 := kept_block hk0 hb
  have b1 := q0.trans (hb.mono q0.size)
  clear hb q0 hk0 H0
  go_wp2_with fail
  refine (partTag_yes ao1 _ cp1 body 0 2 nb t H1.out _ r1 (by omega)).mono ?_
  rintro e w2 ⟨ao2, cp2, rfl, -, n2, hb2⟩
  have k2 := kept_block k1 hb2
  have r2 := r1.below hb2
  have b2 := gr_trans b1 hb2
  clear b1 hb2 k1 r1 H1
  go_wp2_with fail
  refine (partTag_yes ao1 _ cp1 body t 4 s q H2.out _ r2 (by omega)).mono ?_
  rintro e w3 ⟨ao3, cp3, rfl, -, s3, hb3⟩
  have k3 := kept_block k2 hb3
  have n3 := n2.below hb3
  have r3 := r2.below hb3
  have b3 := gr_trans b2 hb3
  have hlt : w.heap.size < w3.heap.size := (Array.getElem?_eq_some_iff.1 k3).1
  clear b2 hb3 k2 H2 r2 n2
  go_wp2_with fail
  refine (implGetInt_any ao2 _ cp2 nb _ n3 (by omega)).mono ?_
  rintro e w4 ⟨rfl, rfl⟩
  rw [HI.out]
  clear HI n3
  have B4 := hide b3
  have hcv := conv_row 9 _ ao3 _ cp3 s (s3.below (Below.refl _ _).drew) Tryz.underlying9
  obtain ⟨bb, off, rfl, hc⟩ := r3.at (by omega)
  have hle := r3.le
  have hcut : Row _ (some ⟨bb, (if cp1 = q then off else off + q), none⟩) (body.length - q) (cp1 - q) ((body.drop q).take (body.length - q)) := r3.cut hc q (body.length - q) (by omega) _ _ rfl (by intro h; rw [if_neg (by omega)]) (by intro h; cases h)
  rw [List.take_of_length_le (by simp)] at hcut
  have HR := hide hcut
  have g0 : (0 : Int) ≤ (q : Int) := by omega
  have g1 : (q : Int) ≤ (body.length : Int) := by omega
  have g2 : (body.length : Int) ≤ (cp1 : Int) := by omega
  have g4 : (body.drop q).length = body.length - q := by simp
  have hbP : ¬ bb = w.heap.size := by have := (ho1.lt bb (by rfl)).1; simp at this; omega
  obtain ⟨⟨c0, c1, c2⟩, f0, f1, f2⟩ := cellsH k3
  clear hcut hc r3 ho1 b3 k3 s3
  by_cases hcf : cp1 = q
  · rw [if_pos hcf, show cp1 - q = 0 by omega] at HR
    go_wp2_with fail
    go_region
    all_goals
      go_wp2
      refine bodyPost_ret (v := .tuple #[.agg #[.int .i64 m, .string (byB s), .slice (some ⟨bb, off, none⟩) (body.length - q) 0], .nilIface]) (by simp [results, Tryz.results61, go_sem, *]) rfl ⟨_, _, by rw [g4], ?_, ?_⟩
      · rw [g4]
        exact Row.below (((HR.out.set hbP 0 _).set hbP 1 _).set hbP 2 _) (Below.refl _ _).drew
      · refine Below.drew ?_
        repeat (refine below_set ?_ (Nat.le_refl _) _ _)
        exact B4.out
  · rw [if_neg hcf] at HR
    go_wp2_with fail
    go_region
    all_goals
      go_wp2
      refine bodyPost_ret (v := .tuple #[.agg #[.int .i64 m, .string (byB s), .slice (some ⟨bb, off + q, none⟩) (body.length - q) (cp1 - q)], .nilIface]) (by simp [results, Tryz.results61, go_sem, *]) rfl ⟨_, _, by rw [g4], ?_, ?_⟩
      · rw [g4]
        exact Row.below (((HR.out.set hbP 0 _).set hbP 1 _).set hbP 2 _) (Below.refl _ _).drew
      · refine Below.drew ?_
        repeat (refine below_set ?_ (Nat.le_refl _) _ _)
        exact B4.out

end Go.Proofs.YtjkmagpppfnlpaaGreatDoor
