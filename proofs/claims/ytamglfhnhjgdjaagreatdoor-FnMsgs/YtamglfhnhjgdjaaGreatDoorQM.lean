/-
  What stands ahead of the request in a message, whatever the text's length; what is told by it is what the document's mathematics tells.
  A part of a kind out of bytes, as the program reads what stands ahead of a message: partWithTag by its contracts.
  What stands ahead of the request in a message, as the program reads it: readHead by its contracts.
-/
import Derived.Test.YtamglfhnhjgdjaaGreatDoorQL
import Derived.Test.YtamglfhnhjgdjaaGreatDoorQD
import Derived.Test.YtamglfhnhjgdjaaGreatDoorQF
namespace Go.Proofs.YtamglfhnhjgdjaaGreatDoor
open Go.RowKit

/-- The number, the text and the bytes behind. -/
def headJ (z : List Int) : Option (Int × List Int × List Int) :=
  if (getTlv z 0).2.2.2 = true ∧ (getTlv z 0).1 = 48 ∧ (getTlv z 0).2.2.1 = z.length then
    match numM (getTlv z 0).2.1 0 with
    | none => none
    | some (n, t) =>
      match partM (getTlv z 0).2.1 t 4 with
      | none => none
      | some (s, u) => some (n, s, (getTlv z 0).2.1.drop u.toNat)
  else none

/-- What is told by it. -/
def getJ (word z : List Int) : Int × Option PD :=
  match headJ z with
  | none => (1, none)
  | some (n, s, r) => if n = 1 then if s = word then toldM (getP r) else (3, none) else (2, none)

theorem getJ_is (word z : List Int) : getJ word z = getM word z := by
  unfold getJ headJ getM
  by_cases hc : (getTlv z 0).2.2.2 = true ∧ (getTlv z 0).1 = 48 ∧ (getTlv z 0).2.2.1 = z.length
  · rw [if_pos hc, if_pos hc]
    rcases hN : numM (getTlv z 0).2.1 0 with _ | ⟨n, t⟩
    · rfl
    · simp only
      rcases hP : partM (getTlv z 0).2.1 t 4 with _ | ⟨s, u⟩
      · rfl
      · rfl
  · rw [if_neg hc, if_neg hc]

theorem headJ_no {z : List Int} (h : headJ z = none) {k : Int} {body : List Int} {nx : Int} {ok : Bool} (hT : getTlv z 0 = (k, body, nx, ok)) :
    ¬ (ok = true ∧ k = 48 ∧ nx = z.length) ∨ (getTlv z 0 = (48, body, (z.length : Int), true) ∧ (numM body 0 = none ∨ ∃ m t, numM body 0 = some (m, t) ∧ partM body t 4 = none)) := by
  unfold headJ at h
  rw [hT] at h
  simp only at h
  by_cases hc : ok = true ∧ k = 48 ∧ nx = z.length
  · rw [if_pos hc] at h
    obtain ⟨rfl, rfl, rfl⟩ := hc
    refine .inr ⟨hT, ?_⟩
    rcases hN : numM body 0 with _ | ⟨m, t⟩
    · exact .inl rfl
    · refine .inr ⟨m, t, rfl, ?_⟩
      rw [hN] at h
      simp only at h
      rcases hp : partM body t 4 with _ | ⟨s, u⟩
      · rfl
      · rw [hp] at h
        cases h
  · exact .inl hc

theorem headJ_yes {z : List Int} {m : Int} {s r : List Int} (h : headJ z = some (m, s, r)) (hz : Byt z) :
    ∃ body t, ∃ q : Nat, getTlv z 0 = (48, body, (z.length : Int), true) ∧ numM body 0 = some (m, t) ∧ partM body t 4 = some (s, (q : Int)) ∧ s.length ≤ 250 ∧ 0 < q ∧ q ≤ body.length ∧ r = body.drop q ∧ Byt s := by
  rcases hT : getTlv z 0 with ⟨k, body, nx, ok⟩
  have hbb := getTlv_byte z 0 hz
  unfold headJ at h
  rw [hT] at h hbb
  simp only at h hbb
  split at h
  · rename_i hc
    obtain ⟨rfl, rfl, rfl⟩ := hc
    split at h
    · cases h
    · rename_i m' t hN
      split at h
      · cases h
      · rename_i s' u hP
        simp only [Option.some.injEq, Prod.mk.injEq] at h
        obtain ⟨rfl, rfl, rfl⟩ := h
        obtain ⟨p, q, hp, hq, hpq, hql, hok, -⟩ := tlv_lies hbb (part_some hP)
        subst hq
        refine ⟨body, t, q, rfl, hN, hP, ?_, by omega, hql, by simp, ?_⟩
        · unfold TlvOk at hok
          omega
        · have := getTlv_byte body t hbb
          rw [part_some hP] at this
          exact this
  · cases h

theorem headJ_small {z : List Int} {m : Int} {s r : List Int} (h : headJ z = some (m, s, r)) (hz : Byt z) : r.length ≤ z.length ∧ Byt s := by
  obtain ⟨body, t, q, hT, -, -, -, -, -, rfl, hsb⟩ := headJ_yes h hz
  refine ⟨?_, hsb⟩
  have := getTlv_length z 0
  rw [hT] at this
  simp at this ⊢
  omega

set_option maxRecDepth 100000 in
set_option maxHeartbeats 1000000 in
theorem partTag_yes (a1 : Option Addr) (l1 c1 : Nat) (z1 : List Int) (t tag : Int) (P : List Int) (next : Int) (hP : partM z1 t tag = some (P, next)) (w : World) (h1 : Row w a1 l1 c1 z1) (hs : l1 ≤ 1048576) :
    Calls Tryz.prog 74 #[.slice a1 l1 c1, .int .i64 t, .int .i64 tag] w fun e w' => ∃ ao cap, e = .returned (.tuple #[.slice ao P.length cap, .int .i64 next, .nilIface]) ∧
      w'.ownsRow w.heap.size 5 1 (.slice ao P.length cap) P.length (cB P) ∧ Row w' ao P.length cap P ∧ Below w.heap.size w w' := by
  have HT := hide (part_some hP)
  clear hP
  go_enter Tryz.func74, Tryz.ntmps74
  go_wp2_with fail
  refine (implGet_made a1 l1 c1 z1 t tag next true P HT.out _ h1 (by omega)).mono ?_
  rintro e w1 ⟨ao, cap, rfl, ho, r1, hb⟩
  go_wp2
  refine bodyPost_ret (v := .tuple #[.slice ao P.length cap, .int .i64 next, .nilIface]) (by simp [results, Tryz.results74, go_sem]) rfl ⟨ao, cap, rfl, ho, r1, hb⟩

theorem partM_no {z : List Int} {t tag : Int} (h : partM z t tag = none) {k : Int} {P : List Int} {nx : Int} {ok : Bool} (hT : getTlv z t = (k, P, nx, ok)) : ok = false ∨ (ok = true ∧ ¬ k = tag) := by
  unfold partM at h
  rw [hT] at h
  simp only at h
  split at h
  · cases h
  · rename_i hc
    cases ok
    · exact .inl rfl
    · exact .inr ⟨rfl, fun e => hc ⟨rfl, e⟩⟩

set_option maxRecDepth 100000 in
set_option maxHeartbeats 1000000 in
theorem partTag_no (a1 : Option Addr) (l1 c1 : Nat) (z1 : List Int) (t tag : Int) (hP : partM z1 t tag = none) (w : World) (h1 : Row w a1 l1 c1 z1) (hs : l1 ≤ 1048576) :
    Calls Tryz.prog 74 #[.slice a1 l1 c1, .int .i64 t, .int .i64 tag] w fun e w' => e = .returned (.tuple #[.slice none 0 0, .int .i64 0, .iface 53 (.agg #[.int .i64 1])]) ∧ Below w.heap.size w w' := by
  rcases hT : getTlv z1 t with ⟨k, P, nx, ok⟩
  have hno := partM_no hP hT
  have HT := hide hT
  clear hP hT
  go_enter Tryz.func74, Tryz.ntmps74
  go_wp2_with fail
  refine (implGet_made a1 l1 c1 z1 t k nx ok P HT.out _ h1 (by omega)).mono ?_
  rintro e w1 ⟨ao, cap, rfl, -, -, hb⟩
  clear HT
  rcases hno with rfl | ⟨rfl, hkk⟩
  all_goals
    go_wp2
    refine bodyPost_ret (v := .tuple #[.slice none 0 0, .int .i64 0, .iface 53 (.agg #[.int .i64 1])]) (by simp [results, Tryz.results74, go_sem]) rfl ⟨rfl, hb⟩

theorem cellsH {w : World} {C : Nat} {t : TypeId} {c0 c1 c2 : Value} (h : w.heap[C]? = some (.cells #[c0, c1, c2] t)) :
    (w.cell? ⟨C, 0, none⟩ = some c0 ∧ w.cell? ⟨C, 1, none⟩ = some c1 ∧ w.cell? ⟨C, 2, none⟩ = some c2) ∧ w.frozen? ⟨C, 0, none⟩ = false ∧ w.frozen? ⟨C, 1, none⟩ = false ∧ w.frozen? ⟨C, 2, none⟩ = false := by
  refine ⟨⟨?_, ?_, ?_⟩, ?_, ?_, ?_⟩ <;> simp [World.cell?, World.frozen?, h]

/-- Where there is no head: the first thing that is missing, as the program asks. -/
theorem headJ_none {z : List Int} (h : headJ z = none) :
    partM z 0 48 = none ∨ ∃ body nx, partM z 0 48 = some (body, nx) ∧ (partM body 0 2 = none ∨ ∃ nb t, partM body 0 2 = some (nb, t) ∧ (partM body t 4 = none ∨ ∃ s u, partM body t 4 = some (s, u) ∧
      ((getInt nb).2 = false ∨ ((getInt nb).2 = true ∧ ¬ nx = (z.length : Int))))) := by
  rcases h0 : partM z 0 48 with _ | ⟨body, nx⟩
  · exact .inl rfl
  · refine .inr ⟨body, nx, rfl, ?_⟩
    rcases h1 : partM body 0 2 with _ | ⟨nb, t⟩
    · exact .inl rfl
    · refine .inr ⟨nb, t, rfl, ?_⟩
      rcases h2 : partM body t 4 with _ | ⟨s, u⟩
      · exact .inl rfl
      · refine .inr ⟨s, u, rfl, ?_⟩
        rcases h3 : (getInt nb).2 with _ | _
        · exact .inl rfl
        · refine .inr ⟨rfl, fun e => ?_⟩
          subst e
          unfold headJ at h
          rw [part_some h0] at h
          simp [numM, h1, h2, h3] at h

theorem headJ_all {z : List Int} {m : Int} {s r : List Int} (h : headJ z = some (m, s, r)) (hz : Byt z) :
    ∃ body nb t, ∃ q : Nat, partM z 0 48 = some (body, (z.length : Int)) ∧ partM body 0 2 = some (nb, t) ∧ getInt nb = (m, true) ∧ partM body t 4 = some (s, (q : Int)) ∧ 0 < q ∧ q ≤ body.length ∧ r = body.drop q ∧ Byt s := by
  obtain ⟨body, t, q, hT, hN, hP, -, hq, hql, hr, hs⟩ := headJ_yes h hz
  unfold numM at hN
  split at hN
  · rename_i nb nx hp
    split at hN
    · rename_i hi
      cases hN
      refine ⟨body, nb, _, q, part_of hT, hp, ?_, hP, hq, hql, hr, hs⟩
      rw [← hi]
    · cases hN
  · cases hN

set_option maxRecDepth 100000 in
set_option maxHeartbeats 1000000 in
theorem head_outer (ao : Option Addr) (n c : Nat) (z : List Int) (hP : partM z 0 48 = none) (w : World) (hr : Row w ao n c z) (hs : n ≤ 1048576) :
    Calls Tryz.prog 51 #[.slice ao n c] w fun e w' => e = .returned (.tuple #[.agg #[.int .i64 0, .string ⟨#[]⟩, .slice none 0 0], .iface 53 (.agg #[.int .i64 1])]) ∧ Below w.heap.size w w' := by
  have HP := hide hP
  clear hP
  have q0 := below_one w (.cells #[.int .i64 0, .string ⟨#[]⟩, .slice none 0 0] 90)
  have hk0 := block_last w (.cells #[.int .i64 0, .string ⟨#[]⟩, .slice none 0 0] 90)
  go_enter Tryz.func51, Tryz.ntmps51
  go_wp2_with fail
  refine (partTag_no ao n c z 0 48 HP.out _ (hr.below q0) hs).mono ?_
  rintro e w1 ⟨rfl, hb⟩
  obtain ⟨⟨c0, c1, c2⟩, f0, f1, f2⟩ := cellsH (kept_block hk0 hb)
  have b1 := q0.trans (hb.mono q0.size)
  have B1 := hide b1
  clear hb q0 hk0 b1 HP
  go_wp2
  refine bodyPost_ret (v := .tuple #[.agg #[.int .i64 0, .string ⟨#[]⟩, .slice none 0 0], .iface 53 (.agg #[.int .i64 1])]) (by simp [results, Tryz.results51, go_sem, *]) rfl ⟨rfl, ?_⟩
  repeat (refine below_set ?_ (Nat.le_refl _) _ _)
  exact B1.out

set_option maxRecDepth 100000 in
set_option maxHeartbeats 1000000 in
theorem head_num (ao : Option Addr) (n c : Nat) (z body : List Int) (nx : Int) (h0 : partM z 0 48 = some (body, nx)) (hP : partM body 0 2 = none) (w : World) (hr : Row w ao n c z) (hs : n ≤ 1048576) :
    Calls Tryz.prog 51 #[.slice ao n c] w fun e w' => e = .returned (.tuple #[.agg #[.int .i64 0, .string ⟨#[]⟩, .slice none 0 0], .iface 53 (.agg #[.int .i64 1])]) ∧ Below w.heap.size w w' := by
  have hz := hr.size
  have hbl := getTlv_length z 0
  rw [part_some h0] at hbl
  simp only at hbl
  have H0 := hide h0
  have HP := hide hP
  clear h0 hP
  have q0 := below_one w (.cells #[.int .i64 0, .string ⟨#[]⟩, .slice none 0 0] 90)
  have hk0 := block_last w (.cells #[.int .i64 0, .string ⟨#[]⟩, .slice none 0 0] 90)
  go_enter Tryz.func51, Tryz.ntmps51
  go_wp2_with fail
  refine (partTag_yes ao n c z 0 48 body nx H0.out _ (hr.below q0) hs).mono ?_
  rintro e w1 ⟨ao1, cp1, rfl, -, r1, hb⟩
  have k1 := kept_block hk0 hb
  have b1 := q0.trans (hb.mono q0.size)
  clear hb q0 hk0 H0
  go_wp2_with fail
  refine (partTag_no ao1 _ cp1 body 0 2 HP.out _ r1 (by omega)).mono ?_
  rintro e w2 ⟨rfl, hb2⟩
  obtain ⟨⟨c0, c1, c2⟩, f0, f1, f2⟩ := cellsH (kept_block k1 hb2)
  have B2 := hide (gr_trans b1 hb2)
  clear b1 hb2 k1 HP r1
  go_wp2
  refine bodyPost_ret (v := .tuple #[.agg #[.int .i64 0, .string ⟨#[]⟩, .slice none 0 0], .iface 53 (.agg #[.int .i64 1])]) (by simp [results, Tryz.results51, go_sem, *]) rfl ⟨rfl, ?_⟩
  repeat (refine below_set ?_ (Nat.le_refl _) _ _)
  exact B2.out

set_option maxRecDepth 100000 in
set_option maxHeartbeats 2000000 in
theorem head_text (ao : Option Addr) (n c : Nat) (z body nb : List Int) (nx t : Int) (h0 : partM z 0 48 = some (body, nx)) (h1 : partM body 0 2 = some (nb, t)) (hP : partM body t 4 = none) (w : World) (hr : Row w ao n c z) (hs : n ≤ 1048576) :
    Calls Tryz.prog 51 #[.slice ao n c] w fun e w' => e = .returned (.tuple #[.agg #[.int .i64 0, .string ⟨#[]⟩, .slice none 0 0], .iface 53 (.agg #[.int .i64 1])]) ∧ Below w.heap.size w w' := by
  have hz := hr.size
  have hbl := getTlv_length z 0
  rw [part_some h0] at hbl
  simp only at hbl
  have H0 := hide h0
  have H1 := hide h1
  have HP := hide hP
  clear h0 h1 hP
  have q0 := below_one w (.cells #[.int .i64 0, .string ⟨#[]⟩, .slice none 0 0] 90)
  have hk0 := block_last w (.cells #[.int .i64 0, .string ⟨#[]⟩, .slice none 0 0] 90)
  go_enter Tryz.func51, Tryz.ntmps51
  go_wp2_with fail
  refine (partTag_yes ao n c z 0 48 body nx H0.out _ (hr.below q0) hs).mono ?_
  rintro e w1 ⟨ao1, cp1, rfl, -, r1, hb⟩
  have k1 := kept_block hk0 hb
  have b1 := q0.trans (hb.mono q0.size)
  clear hb q0 hk0 H0
  go_wp2_with fail
  refine (partTag_yes ao1 _ cp1 body 0 2 nb t H1.out _ r1 (by omega)).mono ?_
  rintro e w2 ⟨ao2, cp2, rfl, -, -, hb2⟩
  have k2 := kept_block k1 hb2
  have r2 := r1.below hb2
  have b2 := gr_trans b1 hb2
  clear b1 hb2 k1 r1 H1
  go_wp2_with fail
  refine (partTag_no ao1 _ cp1 body t 4 HP.out _ r2 (by omega)).mono ?_
  rintro e w3 ⟨rfl, hb3⟩
  obtain ⟨⟨c0, c1, c2⟩, f0, f1, f2⟩ := cellsH (kept_block k2 hb3)
  have B3 := hide (gr_trans b2 hb3)
  clear b2 hb3 k2 HP r2
  go_wp2
  refine bodyPost_ret (v := .tuple #[.agg #[.int .i64 0, .string ⟨#[]⟩, .slice none 0 0], .iface 53 (.agg #[.int .i64 1])]) (by simp [results, Tryz.results51, go_sem, *]) rfl ⟨rfl, ?_⟩
  repeat (refine below_set ?_ (Nat.le_refl _) _ _)
  exact B3.out

set_option maxRecDepth 100000 in
set_option maxHeartbeats 2000000 in
theorem head_bad (ao : Option Addr) (n c : Nat) (z body nb s : List Int) (nx t u m : Int) (ok : Bool) (h0 : partM z 0 48 = some (body, nx)) (h1 : partM body 0 2 = some (nb, t)) (h2 : partM body t 4 = some (s, u)) (hi : getInt nb = (m, ok))
    (hno : ok = false ∨ (ok = true ∧ ¬ nx = (z.length : Int))) (w : World) (hr : Row w ao n c z) (hs : n ≤ 1048576) :
    Calls Tryz.prog 51 #[.slice ao n c] w fun e w' => e = .returned (.tuple #[.agg #[.int .i64 0, .string ⟨#[]⟩, .slice none 0 0], .iface 53 (.agg #[.int .i64 1])]) ∧ Below w.heap.size w w' := by
  have hz := hr.size
  rw [hz] at hno
  have hbl := getTlv_length z 0
  rw [part_some h0] at hbl
  simp only at hbl
  have hnl := getTlv_length body 0
  rw [part_some h1] at hnl
  simp only at hnl
  have H0 := hide h0
  have H1 := hide h1
  have H2 := hide h2
  have HI := hide hi
  clear h0 h1 h2 hi
  have q0 := below_one w (.cells #[.int .i64 0, .string ⟨#[]⟩, .slice none 0 0] 90)
  have hk0 := block_last w (.cells #[.int .i64 0, .string ⟨#[]⟩, .slice none 0 0] 90)
  go_enter Tryz.func51, Tryz.ntmps51
  go_wp2_with fail
  refine (partTag_yes ao n c z 0 48 body nx H0.out _ (hr.below q0) hs).mono ?_
  rintro e w1 ⟨ao1, cp1, rfl, -, r1, hb⟩
  have k1 := kept_block hk0 hb
  have b1 := q0.trans (hb.mono q0.size)
  clear hb q0 hk0 H0
  go_wp2_with fail
  refine (partTag_yes ao1 _ cp1 body 0 2 nb t H1.out _ r1 (by omega)).mono ?_
  rintro e w2 ⟨ao2, cp2, rfl, -, n2, hb2⟩
  have k2 := kept_block k1 hb2
  have r2 := r1.below hb2
  have b2 := gr_trans b1 hb2
  clear b1 hb2 k1 r1 H1
  go_wp2_with fail
  refine (partTag_yes ao1 _ cp1 body t 4 s u H2.out _ r2 (by omega)).mono ?_
  rintro e w3 ⟨ao3, cp3, rfl, -, -, hb3⟩
  have k3 := kept_block k2 hb3
  have n3 := n2.below hb3
  have B3 := hide (gr_trans b2 hb3)
  obtain ⟨⟨c0, c1, c2⟩, f0, f1, f2⟩ := cellsH k3
  clear b2 hb3 k2 H2 r2 n2 k3
  go_wp2_with fail
  refine (implGetInt_any ao2 _ cp2 nb _ n3 (by omega)).mono ?_
  rintro e w4 ⟨rfl, rfl⟩
  rw [HI.out]
  clear HI n3
  rcases hno with rfl | ⟨rfl, hnn⟩
  all_goals
    go_wp2
    refine bodyPost_ret (v := .tuple #[.agg #[.int .i64 0, .string ⟨#[]⟩, .slice none 0 0], .iface 53 (.agg #[.int .i64 1])]) (by simp [results, Tryz.results51, go_sem, *]) rfl ⟨rfl, ?_⟩
    repeat (refine below_set ?_ (Nat.le_refl _) _ _)
    exact B3.out

theorem readHead_no (ao : Option Addr) (n c : Nat) (z : List Int) (h : headJ z = none) (w : World) (hr : Row w ao n c z) (hs : n ≤ 1048576) :
    Calls Tryz.prog 51 #[.slice ao n c] w fun e w' => e = .returned (.tuple #[.agg #[.int .i64 0, .string ⟨#[]⟩, .slice none 0 0], .iface 53 (.agg #[.int .i64 1])]) ∧ Below w.heap.size w w' := by
  rcases headJ_none h with h0 | ⟨body, nx, h0, h1 | ⟨nb, t, h1, h2 | ⟨s, u, h2, h3⟩⟩⟩
  · exact head_outer ao n c z h0 w hr hs
  · exact head_num ao n c z body nx h0 h1 w hr hs
  · exact head_text ao n c z body nb nx t h0 h1 h2 w hr hs
  · exact head_bad ao n c z body nb s nx t u (getInt nb).1 (getInt nb).2 h0 h1 h2 rfl h3 w hr hs

set_option maxRecDepth 100000 in
set_option maxHeartbeats 4000000 in
theorem readHead_yes (ao : Option Addr) (n c : Nat) (z : List Int) (m : Int) (s r : List Int) (h : headJ z = some (m, s, r)) (w : World) (hr : Row w ao n c z) (hs : n ≤ 1048576) :
    Calls Tryz.prog 51 #[.slice ao n c] w fun e w' => ∃ ao' cap, e = .returned (.tuple #[.agg #[.int .i64 m, .string (byB s), .slice ao' r.length cap], .nilIface]) ∧ Row w' ao' r.length cap r ∧ Below w.heap.size w w' := by
  obtain ⟨body, nb, t, q, h0, h1, hi, h2, hq0, hql, rfl, hsb⟩ := headJ_all h hr.byte
  have hz := hr.size
  have hbl := getTlv_length z 0
  rw [part_some h0] at hbl
  simp only at hbl
  have hnl := getTlv_length body 0
  rw [part_some h1] at hnl
  simp only at hnl
  rw [hz] at h0
  have H0 := hide h0
  have H1 := hide h1
  have H2 := hide h2
  have HI := hide hi
  clear h0 h1 h2 hi h
  have q0 := below_one w (.cells #[.int .i64 0, .string ⟨#[]⟩, .slice none 0 0] 90)
  have hk0 := block_last w (.cells #[.int .i64 0, .string ⟨#[]⟩, .slice none 0 0] 90)
  go_enter Tryz.func51, Tryz.ntmps51
  go_wp2_with fail
  refine (partTag_yes ao n c z 0 48 body n H0.out _ (hr.below q0) hs).mono ?_
  rintro e w1 ⟨ao1, cp1, rfl, ho1, r1, hb⟩
  have k1 := kept_block hk0 hb
  have b1 := q0.trans (hb.mono q0.size)
  clear hb q0 hk0 H0
  go_wp2_with fail
  refine (partTag_yes ao1 _ cp1 body 0 2 nb t H1.out _ r1 (by omega)).mono ?_
  rintro e w2 ⟨ao2, cp2, rfl, -, n2, hb2⟩
  have k2 := kept_block k1 hb2
  have r2 := r1.below hb2
  have b2 := gr_trans b1 hb2
  clear b1 hb2 k1 r1 H1
  go_wp2_with fail
  refine (partTag_yes ao1 _ cp1 body t 4 s q H2.out _ r2 (by omega)).mono ?_
  rintro e w3 ⟨ao3, cp3, rfl, -, s3, hb3⟩
  have k3 := kept_block k2 hb3
  have n3 := n2.below hb3
  have r3 := r2.below hb3
  have b3 := gr_trans b2 hb3
  have hlt : w.heap.size < w3.heap.size := (Array.getElem?_eq_some_iff.1 k3).1
  clear b2 hb3 k2 H2 r2 n2
  go_wp2_with fail
  refine (implGetInt_any ao2 _ cp2 nb _ n3 (by omega)).mono ?_
  rintro e w4 ⟨rfl, rfl⟩
  rw [HI.out]
  clear HI n3
  have B4 := hide b3
  have hcv := conv_row 9 _ ao3 _ cp3 s (s3.below (Below.refl _ _).drew) Tryz.underlying9
  obtain ⟨bb, off, rfl, hc⟩ := r3.at (by omega)
  have hle := r3.le
  have hcut : Row _ (some ⟨bb, (if cp1 = q then off else off + q), none⟩) (body.length - q) (cp1 - q) ((body.drop q).take (body.length - q)) := r3.cut hc q (body.length - q) (by omega) _ _ rfl (by intro h; rw [if_neg (by omega)]) (by intro h; cases h)
  rw [List.take_of_length_le (by simp)] at hcut
  have HR := hide hcut
  have g0 : (0 : Int) ≤ (q : Int) := by omega
  have g1 : (q : Int) ≤ (body.length : Int) := by omega
  have g2 : (body.length : Int) ≤ (cp1 : Int) := by omega
  have g4 : (body.drop q).length = body.length - q := by simp
  have hbP : ¬ bb = w.heap.size := by have := (ho1.lt bb (by rfl)).1; simp at this; omega
  obtain ⟨⟨c0, c1, c2⟩, f0, f1, f2⟩ := cellsH k3
  clear hcut hc r3 ho1 b3 k3 s3
  by_cases hcf : cp1 = q
  · rw [if_pos hcf, show cp1 - q = 0 by omega] at HR
    go_wp2_with fail
    go_region
    all_goals
      go_wp2
      refine bodyPost_ret (v := .tuple #[.agg #[.int .i64 m, .string (byB s), .slice (some ⟨bb, off, none⟩) (body.length - q) 0], .nilIface]) (by simp [results, Tryz.results51, go_sem, *]) rfl ⟨_, _, by rw [g4], ?_, ?_⟩
      · rw [g4]
        exact Row.below (((HR.out.set hbP 0 _).set hbP 1 _).set hbP 2 _) (Below.refl _ _).drew
      · refine Below.drew ?_
        repeat (refine below_set ?_ (Nat.le_refl _) _ _)
        exact B4.out
  · rw [if_neg hcf] at HR
    go_wp2_with fail
    go_region
    all_goals
      go_wp2
      refine bodyPost_ret (v := .tuple #[.agg #[.int .i64 m, .string (byB s), .slice (some ⟨bb, off + q, none⟩) (body.length - q) (cp1 - q)], .nilIface]) (by simp [results, Tryz.results51, go_sem, *]) rfl ⟨_, _, by rw [g4], ?_, ?_⟩
      · rw [g4]
        exact Row.below (((HR.out.set hbP 0 _).set hbP 1 _).set hbP 2 _) (Below.refl _ _).drew
      · refine Below.drew ?_
        repeat (refine below_set ?_ (Nat.le_refl _) _ _)
        exact B4.out

end Go.Proofs.YtamglfhnhjgdjaaGreatDoor
