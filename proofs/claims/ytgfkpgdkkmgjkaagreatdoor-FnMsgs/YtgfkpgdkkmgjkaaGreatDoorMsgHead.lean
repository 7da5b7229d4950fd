/-
  What stands ahead of the request in a message, as the program reads it: readHead by its contracts.
-/
import Derived.Test.YtgfkpgdkkmgjkaaGreatDoorMsgKind
import Derived.Test.YtgfkpgdkkmgjkaaGreatDoorBunA
namespace Go.Proofs.YtgfkpgdkkmgjkaaGreatDoor
open Go.RowKit

/-- The number, the text and the bytes behind, where the program takes them. -/
def headI (z : List Int) : Option (Int × List Int × List Int) :=
  if (getTlv z 0).2.2.2 = true ∧ (getTlv z 0).1 = 48 ∧ (getTlv z 0).2.2.1 = z.length then
    match numM (getTlv z 0).2.1 0 with
    | none => none
    | some (n, t) =>
      match partM (getTlv z 0).2.1 t 4 with
      | none => none
      | some (s, u) => if s.length ≤ 20 then some (n, s, (getTlv z 0).2.1.drop u.toNat) else none
  else none

theorem cells3 {w : World} {C : Nat} {t : TypeId} {c0 c1 c2 : Value} (h : w.heap[C]? = some (.cells #[c0, c1, c2] t)) :
    (w.cell? ⟨C, 0, none⟩ = some c0 ∧ w.cell? ⟨C, 1, none⟩ = some c1 ∧ w.cell? ⟨C, 2, none⟩ = some c2) ∧ w.frozen? ⟨C, 0, none⟩ = false ∧ w.frozen? ⟨C, 1, none⟩ = false ∧ w.frozen? ⟨C, 2, none⟩ = false := by
  refine ⟨⟨?_, ?_, ?_⟩, ?_, ?_, ?_⟩ <;> simp [World.cell?, World.frozen?, h]

theorem Row.set {w : World} {b off len cap : Nat} {zs : List Int} (h : Row w (some ⟨b, off, none⟩) len cap zs) {P : Nat} (hP : ¬ b = P) (j : Nat) (u : Value) : Row (w.setCell ⟨P, j, none⟩ u) (some ⟨b, off, none⟩) len cap zs where
  size := h.size
  le := h.le
  top := h.top
  nil := h.nil
  byte := h.byte
  cell := by
    rcases h.cell with h0 | ⟨b', off', e, hc⟩
    · exact .inl h0
    · cases e
      refine .inr ⟨b, off, rfl, fun i hi => ?_⟩
      rw [World.cell?_setCell_far w ⟨P, j, none⟩ ⟨b, off + i, none⟩ u (fun e => hP e.symm)]
      exact hc i hi

set_option maxRecDepth 100000 in
set_option maxHeartbeats 1000000 in
theorem head_outer (ao : Option Addr) (n c : Nat) (z : List Int) (k : Int) (body : List Int) (nx : Int) (ok : Bool) (hT : getTlv z 0 = (k, body, nx, ok)) (hno : ¬ (ok = true ∧ k = 48 ∧ nx = z.length)) (w : World) (hr : Row w ao n c z) (hs : n ≤ 1048576) :
    Calls Tryz.prog 61 #[.slice ao n c] w fun e w' => e = .returned (.tuple #[.agg #[.int .i64 0, .string ⟨#[]⟩, .slice none 0 0], .iface 56 (.agg #[.int .i64 1])]) ∧ Below w.heap.size w w' := by
  have HT := hide hT
  have hz := hr.size
  have hno' : ok = false ∨ (ok = true ∧ ¬ k = 48) ∨ (ok = true ∧ k = 48 ∧ ¬ nx = (n : Int)) := by
    rw [hz] at hno
    cases ok
    · exact .inl rfl
    · by_cases hk : k = 48
      · exact .inr (.inr ⟨rfl, hk, fun h => hno ⟨rfl, hk, h⟩⟩)
      · exact .inr (.inl ⟨rfl, hk⟩)
  clear hT hno
  have q0 := below_one w (.cells #[.int .i64 0, .string ⟨#[]⟩, .slice none 0 0] 94)
  have hk0 := block_last w (.cells #[.int .i64 0, .string ⟨#[]⟩, .slice none 0 0] 94)
  go_enter Tryz.func61, Tryz.ntmps61
  go_wp2_with fail
  refine (implGet_made ao n c z 0 k nx ok body HT.out _ (hr.below q0) (by omega)).mono ?_
  rintro e w1 ⟨ao1, cp1, rfl, -, -, hb⟩
  obtain ⟨⟨c0, c1, c2⟩, f0, f1, f2⟩ := cells3 (kept_block hk0 hb)
  have b1 := q0.trans (hb.mono q0.size)
  have B1 := hide b1
  clear hb q0 hk0 b1 HT
  rcases hno' with rfl | ⟨rfl, hkk⟩ | ⟨rfl, rfl, hnn⟩
  all_goals
    go_wp2
    refine bodyPost_ret (v := .tuple #[.agg #[.int .i64 0, .string ⟨#[]⟩, .slice none 0 0], .iface 56 (.agg #[.int .i64 1])]) (by simp [results, Tryz.results61, go_sem, *]) rfl ⟨rfl, ?_⟩
    repeat (refine below_set ?_ (Nat.le_refl _) _ _)
    exact B1.out

set_option maxRecDepth 100000 in
set_option maxHeartbeats 1000000 in
theorem head_num (ao : Option Addr) (n c : Nat) (z : List Int) (body : List Int) (hT : getTlv z 0 = (48, body, (z.length : Int), true)) (hno : numM body 0 = none) (w : World) (hr : Row w ao n c z) (hs : n ≤ 1048576) :
    Calls Tryz.prog 61 #[.slice ao n c] w fun e w' => e = .returned (.tuple #[.agg #[.int .i64 0, .string ⟨#[]⟩, .slice none 0 0], .iface 56 (.agg #[.int .i64 1])]) ∧ Below w.heap.size w w' := by
  have hz := hr.size
  have hbl := getTlv_length z 0
  rw [hT] at hbl
  simp only at hbl
  rw [hz] at hT
  have HT := hide hT
  rcases hG : getV body 0 with ⟨K, N, S, O, next, ok⟩
  have HN := hide (num_no hno hG)
  have HG := hide hG
  clear hT hG hno
  have q0 := below_one w (.cells #[.int .i64 0, .string ⟨#[]⟩, .slice none 0 0] 94)
  have hk0 := block_last w (.cells #[.int .i64 0, .string ⟨#[]⟩, .slice none 0 0] 94)
  go_enter Tryz.func61, Tryz.ntmps61
  go_wp2_with fail
  refine (implGet_made ao n c z 0 48 n true body HT.out _ (hr.below q0) (by omega)).mono ?_
  rintro e w1 ⟨ao1, cp1, rfl, -, r1, hb⟩
  have k1 := kept_block hk0 hb
  have b1 := q0.trans (hb.mono q0.size)
  clear hb q0 hk0 HT
  go_wp2_with fail
  refine (kindOf_no ao1 _ cp1 body 0 2 K N S O next ok HG.out HN.out _ r1 (by omega)).mono ?_
  rintro e w2 ⟨rfl, hb2⟩
  obtain ⟨⟨c0, c1, c2⟩, f0, f1, f2⟩ := cells3 (kept_block k1 hb2)
  have b2 := gr_trans b1 hb2
  have m1 := b2.size
  have hlt : w.heap.size < w2.heap.size := (Array.getElem?_eq_some_iff.1 (kept_block k1 hb2)).1
  have m2 : ¬ w2.heap.size = w.heap.size := by omega
  have m3 : ¬ w.heap.size = w2.heap.size := by omega
  have B2 := hide b2
  clear b1 b2 hb2 k1 HG HN r1
  go_wp2
  refine bodyPost_ret (v := .tuple #[.agg #[.int .i64 0, .string ⟨#[]⟩, .slice none 0 0], .iface 56 (.agg #[.int .i64 1])]) (by simp [results, Tryz.results61, go_sem, *]) rfl ⟨rfl, ?_⟩
  refine gr_alloc ?_ _
  repeat (refine below_set ?_ (Nat.le_refl _) _ _)
  exact B2.out

set_option maxRecDepth 100000 in
set_option maxHeartbeats 2000000 in
theorem head_text (ao : Option Addr) (n c : Nat) (z : List Int) (body : List Int) (hT : getTlv z 0 = (48, body, (z.length : Int), true)) (m t : Int) (hN : numM body 0 = some (m, t)) (hno : ∀ s u, partM body t 4 = some (s, u) → 20 < s.length) (w : World) (hr : Row w ao n c z) (hs : n ≤ 1048576) :
    Calls Tryz.prog 61 #[.slice ao n c] w fun e w' => e = .returned (.tuple #[.agg #[.int .i64 0, .string ⟨#[]⟩, .slice none 0 0], .iface 56 (.agg #[.int .i64 1])]) ∧ Below w.heap.size w w' := by
  have hz := hr.size
  have hbl := getTlv_length z 0
  rw [hT] at hbl
  simp only at hbl
  rw [hz] at hT
  have HT := hide hT
  rcases hG : getV body t with ⟨K, N, S, O, next, ok⟩
  have HN := hide (text_no hno hG)
  have HG := hide hG
  have HV := hide (num_val hN)
  clear hT hG hno hN
  have q0 := below_one w (.cells #[.int .i64 0, .string ⟨#[]⟩, .slice none 0 0] 94)
  have hk0 := block_last w (.cells #[.int .i64 0, .string ⟨#[]⟩, .slice none 0 0] 94)
  go_enter Tryz.func61, Tryz.ntmps61
  go_wp2_with fail
  refine (implGet_made ao n c z 0 48 n true body HT.out _ (hr.below q0) (by omega)).mono ?_
  rintro e w1 ⟨ao1, cp1, rfl, -, r1, hb⟩
  have k1 := kept_block hk0 hb
  have b1 := q0.trans (hb.mono q0.size)
  clear hb q0 hk0 HT
  go_wp2_with fail
  refine (kindOf_yes ao1 _ cp1 body 0 2 m ⟨#[]⟩ [] t HV.out _ r1 (by omega)).mono ?_
  rintro e w2 ⟨ao2, cp2, rfl, hb2⟩
  have k2 := kept_block k1 hb2
  have r2 := r1.below hb2
  have b2 := gr_trans b1 hb2
  have d2 := below_one w2 (.cells #[.int .i64 2, .int .i64 m, .string ⟨#[]⟩, .slice ao2 0 cp2] 81)
  clear b1 hb2 k1 r1
  go_wp2_with fail
  refine (kindOf_no ao1 _ cp1 body t 4 K N S O next ok HG.out HN.out _ (r2.below d2) (by omega)).mono ?_
  rintro e w3 ⟨rfl, hb3⟩
  have g3 := gr_trans d2 hb3
  obtain ⟨⟨c0, c1, c2⟩, f0, f1, f2⟩ := cells3 (kept_block k2 g3)
  have b3 := gr_trans b2 g3
  have hlt : w.heap.size < w3.heap.size := (Array.getElem?_eq_some_iff.1 (kept_block k2 g3)).1
  have m2 : ¬ w3.heap.size = w.heap.size := by omega
  have m3 : ¬ w.heap.size = w3.heap.size := by omega
  have B3 := hide b3
  clear b2 b3 hb3 g3 d2 k2 HG HN HV r2
  go_wp2
  refine bodyPost_ret (v := .tuple #[.agg #[.int .i64 0, .string ⟨#[]⟩, .slice none 0 0], .iface 56 (.agg #[.int .i64 1])]) (by simp [results, Tryz.results61, go_sem, *]) rfl ⟨rfl, ?_⟩
  refine gr_alloc ?_ _
  repeat (refine below_set ?_ (Nat.le_refl _) _ _)
  exact B3.out

theorem headI_no {z : List Int} (h : headI z = none) {k : Int} {body : List Int} {nx : Int} {ok : Bool} (hT : getTlv z 0 = (k, body, nx, ok)) :
    ¬ (ok = true ∧ k = 48 ∧ nx = z.length) ∨ (getTlv z 0 = (48, body, (z.length : Int), true) ∧ (numM body 0 = none ∨ ∃ m t, numM body 0 = some (m, t) ∧ ∀ s u, partM body t 4 = some (s, u) → 20 < s.length)) := by
  unfold headI at h
  rw [hT] at h
  simp only at h
  by_cases hc : ok = true ∧ k = 48 ∧ nx = z.length
  · rw [if_pos hc] at h
    obtain ⟨rfl, rfl, rfl⟩ := hc
    refine .inr ⟨hT, ?_⟩
    rcases hN : numM body 0 with _ | ⟨m, t⟩
    · exact .inl rfl
    · refine .inr ⟨m, t, rfl, fun s u hp => ?_⟩
      rw [hN] at h
      simp only at h
      rw [hp] at h
      simp only at h
      split at h
      · cases h
      · omega
  · exact .inl hc

theorem readHead_no (ao : Option Addr) (n c : Nat) (z : List Int) (h : headI z = none) (w : World) (hr : Row w ao n c z) (hs : n ≤ 1048576) :
    Calls Tryz.prog 61 #[.slice ao n c] w fun e w' => e = .returned (.tuple #[.agg #[.int .i64 0, .string ⟨#[]⟩, .slice none 0 0], .iface 56 (.agg #[.int .i64 1])]) ∧ Below w.heap.size w w' := by
  rcases hT : getTlv z 0 with ⟨k, body, nx, ok⟩
  rcases headI_no h hT with hc | ⟨hT', hN | ⟨m, t, hN, hP⟩⟩
  · exact head_outer ao n c z k body nx ok hT hc w hr hs
  · exact head_num ao n c z body hT' hN w hr hs
  · exact head_text ao n c z body hT' m t hN hP w hr hs

theorem headI_yes {z : List Int} {m : Int} {s r : List Int} (h : headI z = some (m, s, r)) (hz : Byt z) :
    ∃ body t, ∃ q : Nat, getTlv z 0 = (48, body, (z.length : Int), true) ∧ numM body 0 = some (m, t) ∧ partM body t 4 = some (s, (q : Int)) ∧ s.length ≤ 20 ∧ 0 < q ∧ q ≤ body.length ∧ r = body.drop q ∧ Byt s := by
  rcases hT : getTlv z 0 with ⟨k, body, nx, ok⟩
  have hbb := getTlv_byte z 0 hz
  unfold headI at h
  rw [hT] at h hbb
  simp only at h hbb
  split at h
  · rename_i hc
    obtain ⟨rfl, rfl, rfl⟩ := hc
    split at h
    · cases h
    · rename_i m' t hN
      split at h
      · cases h
      · rename_i s' u hP
        split at h
        · rename_i hs
          simp only [Option.some.injEq, Prod.mk.injEq] at h
          obtain ⟨rfl, rfl, rfl⟩ := h
          obtain ⟨p, q, hp, hq, hpq, hql, -, -⟩ := tlv_lies hbb (part_some hP)
          subst hq
          refine ⟨body, t, q, rfl, hN, hP, hs, by omega, hql, by simp, ?_⟩
          have := getTlv_byte body t hbb
          rw [part_some hP] at this
          exact this
        · cases h
  · cases h

set_option maxRecDepth 100000 in
set_option maxHeartbeats 4000000 in
theorem readHead_yes (ao : Option Addr) (n c : Nat) (z : List Int) (m : Int) (s r : List Int) (h : headI z = some (m, s, r)) (w : World) (hr : Row w ao n c z) (hs : n ≤ 1048576) :
    Calls Tryz.prog 61 #[.slice ao n c] w fun e w' => ∃ ao' cap, e = .returned (.tuple #[.agg #[.int .i64 m, .string (byB s), .slice ao' r.length cap], .nilIface]) ∧ Row w' ao' r.length cap r ∧ Below w.heap.size w w' := by
  obtain ⟨body, t, q, hT, hN, hP, hsl, hq0, hql, rfl, hsb⟩ := headI_yes h hr.byte
  have hz := hr.size
  have hbl := getTlv_length z 0
  rw [hT] at hbl
  simp only at hbl
  rw [hz] at hT
  have HT := hide hT
  have HG := hide (text_val hP hsl)
  have HV := hide (num_val hN)
  clear hT hP hN h
  have q0 := below_one w (.cells #[.int .i64 0, .string ⟨#[]⟩, .slice none 0 0] 94)
  have hk0 := block_last w (.cells #[.int .i64 0, .string ⟨#[]⟩, .slice none 0 0] 94)
  go_enter Tryz.func61, Tryz.ntmps61
  go_wp2_with fail
  refine (implGet_made ao n c z 0 48 n true body HT.out _ (hr.below q0) (by omega)).mono ?_
  rintro e w1 ⟨ao1, cp1, rfl, ho1, r1, hb⟩
  have k1 := kept_block hk0 hb
  have b1 := q0.trans (hb.mono q0.size)
  clear hb q0 hk0 HT
  go_wp2_with fail
  refine (kindOf_yes ao1 _ cp1 body 0 2 m ⟨#[]⟩ [] t HV.out _ r1 (by omega)).mono ?_
  rintro e w2 ⟨ao2, cp2, rfl, hb2⟩
  have k2 := kept_block k1 hb2
  have r2 := r1.below hb2
  have b2 := gr_trans b1 hb2
  have d2 := below_one w2 (.cells #[.int .i64 2, .int .i64 m, .string ⟨#[]⟩, .slice ao2 0 cp2] 81)
  have kv := block_last w2 (.cells #[.int .i64 2, .int .i64 m, .string ⟨#[]⟩, .slice ao2 0 cp2] 81)
  clear b1 hb2 k1 r1
  go_wp2_with fail
  refine (kindOf_yes ao1 _ cp1 body t 4 0 (byB s) [] q HG.out _ (r2.below d2) (by omega)).mono ?_
  rintro e w3 ⟨ao3, cp3, rfl, hb3⟩
  have g3 := gr_trans d2 hb3
  have r3 := r2.below g3
  have kp := kept_block k2 g3
  have kq := kept_block kv hb3
  have b3 := gr_trans b2 g3
  have hlt : w.heap.size < w2.heap.size := (Array.getElem?_eq_some_iff.1 k2).1
  have hlt2 : w2.heap.size < w3.heap.size := (Array.getElem?_eq_some_iff.1 kq).1
  have d4 := below_one w3 (.cells #[.int .i64 4, .int .i64 0, .string (byB s), .slice ao3 0 cp3] 81)
  have k4 := block_last w3 (.cells #[.int .i64 4, .int .i64 0, .string (byB s), .slice ao3 0 cp3] 81)
  have kp4 := kept_block kp d4
  have kq4 := kept_block kq d4
  have b4 := gr_trans b3 d4
  have r4 := r3.below d4
  have B4 := hide b4
  obtain ⟨bb, off, rfl, hc⟩ := r4.at (by omega)
  have hle := r4.le
  have hcut : Row _ (some ⟨bb, (if cp1 = q then off else off + q), none⟩) (body.length - q) (cp1 - q) ((body.drop q).take (body.length - q)) := r4.cut hc q (body.length - q) (by omega) _ _ rfl (by intro h; rw [if_neg (by omega)]) (by intro h; cases h)
  rw [List.take_of_length_le (by simp)] at hcut
  have HR := hide hcut
  have g0 : (0 : Int) ≤ (q : Int) := by omega
  have g1 : (q : Int) ≤ (body.length : Int) := by omega
  have g2 : (body.length : Int) ≤ (cp1 : Int) := by omega
  have g4 : (body.drop q).length = body.length - q := by simp
  have hbP : ¬ bb = w.heap.size := by have := (ho1.lt bb (by rfl)).1; simp at this; omega
  clear b2 b3 hb3 d2 k2 kv HG HV r2 hcut hc r3 r4 ho1 b4 kp kq d4 g3
  go_wp2_with fail
  generalize (w3.alloc (.cells #[.int .i64 4, .int .i64 0, .string (byB s), .slice ao3 0 cp3] 81)) = w4 at *
  obtain ⟨⟨c0, c1, c2⟩, f0, f1, f2⟩ := cells3 kp4
  obtain ⟨⟨v0, v1, v2, v3⟩, -⟩ := cells4 kq4
  obtain ⟨⟨u0, u1, u2, u3⟩, -⟩ := cells4 k4
  by_cases hcf : cp1 = q
  · rw [if_pos hcf, show cp1 - q = 0 by omega] at HR
    go_region
    all_goals
      go_wp2
      refine bodyPost_ret (v := .tuple #[.agg #[.int .i64 m, .string (byB s), .slice (some ⟨bb, off, none⟩) (body.length - q) 0], .nilIface]) (by simp [results, Tryz.results61, go_sem, *]) rfl ⟨_, _, by rw [g4], ?_, ?_⟩
      · rw [g4]
        exact Row.below (((HR.out.set hbP 0 _).set hbP 1 _).set hbP 2 _) (Below.refl _ _).drew
      · refine Below.drew ?_
        repeat (refine below_set ?_ (Nat.le_refl _) _ _)
        exact B4.out
  · rw [if_neg hcf] at HR
    go_region
    all_goals
      go_wp2
      refine bodyPost_ret (v := .tuple #[.agg #[.int .i64 m, .string (byB s), .slice (some ⟨bb, off + q, none⟩) (body.length - q) (cp1 - q)], .nilIface]) (by simp [results, Tryz.results61, go_sem, *]) rfl ⟨_, _, by rw [g4], ?_, ?_⟩
      · rw [g4]
        exact Row.below (((HR.out.set hbP 0 _).set hbP 1 _).set hbP 2 _) (Below.refl _ _).drew
      · refine Below.drew ?_
        repeat (refine below_set ?_ (Nat.le_refl _) _ _)
        exact B4.out

end Go.Proofs.YtgfkpgdkkmgjkaaGreatDoor
