/-
  Messages over requests: their bytes, what is read of bytes, and that what was put comes back, with its own word and no other one, and cut not at all.
  The word of a message as its bytes; the bytes of a message are bytes.
  The bytes of a message, by the contracts of the specification and of the program.
-/
import Derived.Test.YtamglfhnhjgdjaaGreatDoorQG
import Derived.Test.YtamglfhnhjgdjaaGreatDoorQH
import Derived.Deep.RegionHeldLaw
namespace Go.Proofs.YtamglfhnhjgdjaaGreatDoor
open Go.RowKit

/-- What a message holds: the version, the word, the bytes of the request. -/
def msgB (word x : List Int) : List Int := putTlv (putTlv [] 2 (putInt 1)) 4 word ++ x

/-- The bytes of a message; nothing where there is none. -/
def putM (word : List Int) (k id a b : Int) (bs : List BD) : List Int :=
  if ¬ (putP k id a b bs).length = 0 ∧ word.length ≤ 20 ∧ (msgB word (putP k id a b bs)).length ≤ 250 then putTlv [] 48 (msgB word (putP k id a b bs)) else []

/-- The code of a request that was read, or was not. -/
def toldM : Option PD → Int × Option PD
  | none => (1, none)
  | some p => (0, some p)

/-- What is told of bytes that should hold a message: the code, and the request where it is good. -/
def getM (word z : List Int) : Int × Option PD :=
  if (getTlv z 0).2.2.2 = true ∧ (getTlv z 0).1 = 48 ∧ (getTlv z 0).2.2.1 = z.length then
    match numM (getTlv z 0).2.1 0 with
    | none => (1, none)
    | some (n, t) =>
      match partM (getTlv z 0).2.1 t 4 with
      | none => (1, none)
      | some (s, u) =>
        if n = 1 then
          if s = word then
            toldM (getP ((getTlv z 0).2.1.drop u.toNat))
          else (3, none)
        else (2, none)
  else (1, none)

theorem msgB_eq {word : List Int} (hw : word.length ≤ 250) (x : List Int) : msgB word x = numB 1 ++ (tlvB 4 word ++ x) := by
  unfold msgB
  rw [put_part (numB_ok 1), put_part (by unfold TlvOk; omega)]
  simp [numB]

theorem getM_put {word x : List Int} (hw : word.length ≤ 250) (hl : (msgB word x).length ≤ 250) (word' : List Int) :
    getM word' (putTlv [] 48 (msgB word x)) = if word = word' then toldM (getP x) else (3, none) := by
  have e : putTlv [] 48 (msgB word x) = tlvB 48 (msgB word x) := by
    rw [put_part (by unfold TlvOk; omega)]
    rfl
  have hT : getTlv (putTlv [] 48 (msgB word x)) 0 = (48, msgB word x, ((putTlv [] 48 (msgB word x)).length : Int), true) := by
    have := tlv_mid [] 48 (msgB word x) [] (by unfold TlvOk; omega)
    rw [e]
    simpa using this
  have hN : numM (msgB word x) 0 = some (1, ((numB 1).length : Int)) := by
    have := numM_back [] (tlvB 4 word ++ x) 1
    rw [msgB_eq hw]
    simpa [clip] using this
  have hP : partM (msgB word x) (numB 1).length 4 = some (word, (((numB 1).length + (tlvB 4 word).length : Nat) : Int)) := by
    refine part_of ?_
    have := tlv_mid (numB 1) 4 word x (by unfold TlvOk; omega)
    rw [msgB_eq hw]
    simpa using this
  have hD : (msgB word x).drop (((numB 1).length + (tlvB 4 word).length : Nat) : Int).toNat = x := by
    rw [msgB_eq hw, Int.toNat_natCast, ← List.append_assoc, List.drop_append_of_le_length (by simp)]
    simp
  unfold getM
  rw [hT]
  simp only [and_self, if_true]
  rw [hN]
  simp only
  rw [hP]
  simp only [if_true]
  rw [hD]

/-- A message that has bytes comes back with its own word. -/
theorem msg_back {word : List Int} {k id a b : Int} {bs : List BD} (h : ¬ (putM word k id a b bs).length = 0) (word' : List Int) :
    getM word' (putM word k id a b bs) = if word = word' then (0, some ⟨k, id, a, b, bs⟩) else (3, none) := by
  unfold putM at h ⊢
  split
  · rename_i hc
    obtain ⟨h0, h1, h2⟩ := hc
    have hp : okP k id a b bs = true ∧ (putBs [] bs).length ≤ 250 ∧ (bodyP id a b bs).length ≤ 250 := by
      unfold putP at h0
      split at h0
      · assumption
      · simp at h0
    rw [getM_put (by omega) h2, pdu_back hp.1 hp.2.1 hp.2.2]
    rfl
  · rename_i hc
    rw [if_neg hc] at h
    simp at h

theorem tlvB_pre {k : Int} {x M r : List Int} (h : tlvB k x ++ r = tlvB k M) : x.length = M.length := by
  unfold tlvB lenB at h
  split at h <;> split at h <;> simp at h <;> omega

theorem byt_take {z : List Int} (h : Byt z) (n : Nat) : Byt (z.take n) := fun x hx => h x (List.mem_of_mem_take hx)

/-- Cut, a message is none. -/
theorem msg_cut {word : List Int} {k id a b : Int} {bs : List BD} (hz : Byt (putM word k id a b bs)) {n : Nat} (hn : n < (putM word k id a b bs).length) (word' : List Int) : getM word' ((putM word k id a b bs).take n) = (1, none) := by
  unfold putM at hz hn ⊢
  split
  · rename_i hc
    obtain ⟨h0, h1, h2⟩ := hc
    rw [if_pos ⟨h0, h1, h2⟩] at hz hn
    generalize msgB word (putP k id a b bs) = M at *
    have e : putTlv [] 48 M = tlvB 48 M := by
      rw [put_part (by unfold TlvOk; omega)]
      rfl
    rw [e] at hz hn ⊢
    unfold getM
    rw [if_neg]
    rintro ⟨c1, c2, c3⟩
    rcases hT : getTlv ((tlvB 48 M).take n) 0 with ⟨t, x, nx, ok⟩
    rw [hT] at c1 c2 c3
    simp only at c1 c2 c3
    subst c1 c2
    obtain ⟨p, q, hp, hq, hpq, hql, hok, hd⟩ := tlv_lies (byt_take hz n) hT
    have hp0 : p = 0 := by omega
    subst hp0
    have hqn : q = ((tlvB 48 M).take n).length := by omega
    rw [hqn, List.drop_length, List.append_nil, List.drop_zero] at hd
    have hx : x.length = M.length := tlvB_pre (k := 48) (r := (tlvB 48 M).drop n) (by rw [← hd, List.take_append_drop])
    have hl : ((tlvB 48 M).take n).length = (tlvB 48 M).length := by
      rw [hd]
      simp [tlvB, hx]
    rw [List.length_take] at hl
    omega
  · rename_i hc
    rw [if_neg hc] at hn
    simp at hn

theorem gr_bw {bw : World → World} (h : ∀ W, Below W.heap.size W (bw W)) {w W : World} (a : Below w.heap.size w W) : Below w.heap.size w (bw W) := gr_trans a (h W)

theorem strB_put (a b : ByteArray) : strB (a ++ b) = strB a ++ strB b := by
  unfold strB
  rw [← List.map_append]
  congr 1

theorem strB_eq {a b : ByteArray} (h : strB a = strB b) : a = b := by
  unfold strB at h
  have h1 : a.data.toList = b.data.toList := by
    refine (List.map_inj_right ?_).1 h
    intro x y hxy
    have : x.toNat = y.toNat := by omega
    exact UInt8.toNat_inj.1 this
  have h2 : a.data = b.data := Array.toList_inj.1 h1
  cases a
  cases b
  simp only at h2
  rw [h2]

theorem strB_more (a : ByteArray) (x : UInt8) : strB a ≠ strB (a ++ ⟨#[x]⟩) := by
  intro h
  have := congrArg List.length h
  rw [strB_put, List.length_append] at this
  simp [strB] at this

theorem putM_byte {word : List Int} (hw : Byt word) (k id a b : Int) (bs : List BD) : Byt (putM word k id a b bs) := by
  unfold putM
  split
  · have hp := putP_byte k id a b bs
    refine putTlv_byte _ _ _ byte_nil ?_
    unfold msgB
    intro z hz
    rcases List.mem_append.1 hz with hz | hz
    · exact putTlv_byte _ _ _ (putTlv_byte _ _ _ byte_nil (putInt_byte 1)) hw z hz
    · exact hp z hz
  · exact byte_nil

/-- A text turned into bytes: what the world is then. -/
theorem conv_world (S : ByteArray) (hS : S.size ≤ maxLen) : ∃ (bw : World → World) (gc : World → Nat), (∀ W, (convert 9 22 (.string S)).run Tryz.prog W = .ok (.slice (some ⟨W.heap.size, 0, none⟩) S.size (gc W)) (bw W)) ∧
    (∀ W, Below W.heap.size W (bw W)) ∧ (∀ W, Row (bw W) (some ⟨W.heap.size, 0, none⟩) S.size (gc W) (strB S)) :=
  ⟨fun W => Go.Lib.bytesWorld W 5 S, fun W => grownCap W S.size 0 5, fun W => Go.Lib.run_convert_string_bytes (P := Tryz.prog) W 9 22 5 S Tryz.underlying9 Tryz.underlying22 Tryz.underlying5,
    fun W => Go.Lib.bytesWorld_below W 5 S, fun W => row_str W S hS⟩

theorem putM_none {word : List Int} {K I A B : Int} {bs : List BD} (h : (putP K I A B bs).length = 0 ∨ 20 < word.length) : putM word K I A B bs = [] := by
  unfold putM
  rw [if_neg]
  rintro ⟨h1, h2, -⟩
  rcases h with h | h
  · exact h1 h
  · omega

theorem putM_some {word : List Int} {K I A B : Int} {bs : List BD} (h0 : ¬ (putP K I A B bs).length = 0) (h1 : word.length ≤ 20) : putM word K I A B bs = putTlv [] 48 (msgB word (putP K I A B bs)) := by
  unfold putM
  by_cases h : (msgB word (putP K I A B bs)).length ≤ 250
  · rw [if_pos ⟨h0, h1, h⟩]
  · rw [if_neg (fun k => h k.2.2)]
    unfold putTlv
    rw [if_pos (by omega)]

theorem putP_le (k id a b : Int) (bs : List BD) : (putP k id a b bs).length ≤ 1000 := by
  unfold putP
  split
  · have := putTlv_length [] k (bodyP id a b bs)
    simp at this
    omega
  · simp

theorem two_rows {w : World} {a b : Piece} (ha : Row w a.ao a.len a.cap a.zs) (hb : Row w b.ao b.len b.cap b.zs) :
    ∀ i, i < 2 → Row w (([a, b] : List Piece).getD i noPiece).ao (([a, b] : List Piece).getD i noPiece).len (([a, b] : List Piece).getD i noPiece).cap (([a, b] : List Piece).getD i noPiece).zs := by
  intro i hi
  match i, hi with
  | 0, _ => exact ha
  | 1, _ => exact hb

theorem pieces2_made (a1 : Option Addr) (c1 : Nat) (N1 : List Int) (a2 : Option Addr) (c2 : Nat) (N2 : List Int) (a3 : Option Addr) (c3 : Nat) (N3 : List Int) (P : List Int) (hP : N1 ++ (N2 ++ N3) = P) (hl : P.length ≤ 10000) (w : World) (e : TypeId)
    (h1 : Row w a1 N1.length c1 N1) (h2 : Row w a2 N2.length c2 N2) (h3 : Row w a3 N3.length c3 N3) :
    Calls Tryz.prog 21 #[.slice a1 N1.length c1, .slice (some ⟨w.heap.size, 0, none⟩) 2 2] (w.alloc (.cells #[.slice a2 N2.length c2, .slice a3 N3.length c3] e)) fun e w' => ∃ ao cap, e = .returned (.slice ao P.length cap) ∧ Row w' ao P.length cap P ∧ Below w.heap.size w w' := by
  have hlen : P.length = N1.length + (N2.length + N3.length) := by rw [← hP]; simp
  have ht : tot [⟨a2, N2.length, c2, N2⟩, ⟨a3, N3.length, c3, N3⟩] 2 = N2.length + N3.length := by simp [tot]
  have hf : flat [⟨a2, N2.length, c2, N2⟩, ⟨a3, N3.length, c3, N3⟩] 2 = N2 ++ N3 := by simp [flat]
  refine (pieces_any a1 N1.length c1 N1 _ 2 2 [⟨a2, N2.length, c2, N2⟩, ⟨a3, N3.length, c3, N3⟩] _ (h1.below (below_one _ _)) (pieces_lit w _ [⟨a2, N2.length, c2, N2⟩, ⟨a3, N3.length, c3, N3⟩] 2 e rfl rfl (by omega) (two_rows h2 h3)) (by rw [ht]; omega)).mono ?_
  rintro e' w' ⟨rfl, ho, hb⟩
  rw [hf, hP] at ho
  have r := row_own ho (by rw [← hP]; exact byte_append h1.byte (byte_append h2.byte h3.byte))
  rw [ht, ← hlen] at r
  exact ⟨_, _, by rw [ht, ← hlen], r, (below_one w (.cells #[.slice a2 N2.length c2, .slice a3 N3.length c3] e)).trans (hb.mono (by simp))⟩

set_option maxRecDepth 100000 in
set_option maxHeartbeats 4000000 in
theorem implPutMsg_made (S : ByteArray) (hS : S.size ≤ maxLen) (K I A B : Int) (ao : Option Addr) (n c : Nat) (l : List BI) (P : List Int) (hP : putM (strB S) K I A B (l.map BI.d) = P) (w : World) (hl : BRow w ao n c l) :
    Calls Tryz.prog 7 #[.string S, .agg #[.int .i64 K, .int .i64 I, .int .i64 A, .int .i64 B, .slice ao n c]] w fun e w' => ∃ ao' cap, e = .returned (.slice ao' P.length cap) ∧
      w'.ownsRow w.heap.size 5 1 (.slice ao' P.length cap) P.length (cB P) ∧ Row w' ao' P.length cap P ∧ Below w.heap.size w w' := by
  have q0 := below_one w (.cells #[.int .i64 K, .int .i64 I, .int .i64 A, .int .i64 B, .slice ao n c] 26)
  have rb := hl.below q0
  have hXl := putP_le K I A B (l.map BI.d)
  have hWl := strB_length S
  by_cases hno : (putP K I A B (l.map BI.d)).length = 0 ∨ 20 < S.size
  · rw [putM_none (by rw [hWl]; exact hno)] at hP
    subst hP
    generalize hX : putP K I A B (l.map BI.d) = X at *
    have HX := hide hX
    clear hX
    by_cases h20 : 20 < S.size
    · clear hno
      go_enter Tryz.func7, Tryz.ntmps7
      go_wp2_with fail
      generalize (w.alloc (.cells #[.int .i64 K, .int .i64 I, .int .i64 A, .int .i64 B, .slice ao n c] 26)) = wb at *
      refine (implPutPdu_made K I A B ao n c l X HX.out _ rb).mono ?_
      rintro e w1 ⟨aox, cx, rfl, -, rx, u1⟩
      have b1 := q0.trans (u1.mono q0.size)
      go_wp2
      go_ret
      exact ⟨_, _, rfl, World.ownsRow_nil _ _ _ _, row_nil _, b1⟩
    · have hX0 : X.length = 0 := by omega
      clear hno
      have HX0 := hide hX0
      clear hX0
      go_enter Tryz.func7, Tryz.ntmps7
      go_wp2_with fail
      generalize (w.alloc (.cells #[.int .i64 K, .int .i64 I, .int .i64 A, .int .i64 B, .slice ao n c] 26)) = wb at *
      refine (implPutPdu_made K I A B ao n c l X HX.out _ rb).mono ?_
      rintro e w1 ⟨aox, cx, rfl, -, rx, u1⟩
      have b1 := q0.trans (u1.mono q0.size)
      rw [HX0.out]
      go_wp2
      go_ret
      exact ⟨_, _, rfl, World.ownsRow_nil _ _ _ _, row_nil _, b1⟩
  · have h0 : ¬ (putP K I A B (l.map BI.d)).length = 0 := fun h => hno (.inl h)
    have h20 : S.size ≤ 20 := by omega
    rw [putM_some h0 (by omega), msgB_eq (by omega)] at hP
    generalize hX : putP K I A B (l.map BI.d) = X at *
    have hx0 : ((X.length : Int) == 0) = false := by rw [beq_eq_false_iff_ne]; omega
    have hx1 : decide ((20 : Int) < (S.size : Int)) = false := by rw [decide_eq_false_iff_not]; omega
    have HX := hide hX
    have e1 : putTlv [] 2 (putInt 1) = numB 1 := by rw [put_part (numB_ok 1)]; rfl
    have e2 : putTlv [] 4 (strB S) = tlvB 4 (strB S) := by rw [put_part (by unfold TlvOk; omega)]; rfl
    have hi1 := putInt_length 1
    have l1 : (numB 1).length ≤ 300 := by rw [← e1]; have := putTlv_length [] 2 (putInt 1); simp at this; omega
    have l2 : (tlvB 4 (strB S)).length ≤ 300 := by rw [← e2]; have := putTlv_length [] 4 (strB S); simp at this; omega
    generalize numB 1 = N1 at *
    generalize tlvB 4 (strB S) = N2 at *
    have hl5 : (N1 ++ (N2 ++ X)).length ≤ 10000 := by simp only [List.length_append]; omega
    generalize hN : N1 ++ (N2 ++ X) = N5 at *
    have EN := hide hN
    have HP := hide hP
    have E1 := hide e1
    have E2 := hide e2
    obtain ⟨bw, gc, hcv, hbw, hrw⟩ := conv_world S hS
    clear hX hN hP e1 e2 hno
    go_enter Tryz.func7, Tryz.ntmps7
    go_wp2_with fail
    generalize (w.alloc (.cells #[.int .i64 K, .int .i64 I, .int .i64 A, .int .i64 B, .slice ao n c] 26)) = wb at *
    refine (implPutPdu_made K I A B ao n c l X HX.out _ rb).mono ?_
    rintro e w1 ⟨aox, cx, rfl, -, rx, u1⟩
    have b1 := q0.trans (u1.mono q0.size)
    clear rb u1 hl
    go_wp2_with fail
    refine (numPart_made 1 N1 E1.out _).mono ?_
    rintro e w2 ⟨ao2, cp2, rfl, -, r2, hb2⟩
    go_wp2_with fail
    refine (implTlv_made _ _ _ [] 4 _ _ _ (strB S) N2 E2.out _ (row_nil _) (hrw w2) (by omega)).mono ?_
    rintro e w3 ⟨ao3, cp3, rfl, -, r3, hb3⟩
    have g23 : Below w2.heap.size w2 w3 := gr_trans (hbw w2) hb3
    have rx3 := (rx.below hb2).below g23
    have r23 := r2.below g23
    have v3 : Below w1.heap.size w1 w3 := gr_trans hb2 g23
    clear r2 hb3 g23 hb2 rx
    go_wp2_with fail
    refine (pieces2_made _ _ N1 _ _ N2 _ _ X N5 EN.out hl5 w3 _ r23 r3 rx3).mono ?_
    rintro e w5 ⟨ao5, cp5, rfl, r5, hb5⟩
    have v5 : Below w1.heap.size w1 w5 := gr_trans v3 hb5
    clear r23 r3 rx3 hb5 v3
    go_wp2_with fail
    refine (implTlv_made _ _ _ [] 48 _ _ _ N5 P HP.out _ (row_nil _) r5 (by omega)).mono ?_
    rintro e w6 ⟨ao6, cp6, rfl, ho6, r6, hb6⟩
    have b5 := b1.trans (v5.mono b1.size)
    have HO := hide (own_lt ho6 b5.size)
    have HB := hide (b5.trans (hb6.mono b5.size))
    clear ho6 hb6 b5 v5 r5
    go_wp2
    go_ret
    exact ⟨_, _, rfl, HO.out, r6, HB.out⟩

set_option maxRecDepth 100000 in
set_option maxHeartbeats 4000000 in
theorem specPutMsg_made (S : ByteArray) (hS : S.size ≤ maxLen) (K I A B : Int) (ao : Option Addr) (n c : Nat) (l : List BI) (P : List Int) (hP : putM (strB S) K I A B (l.map BI.d) = P) (w : World) (hl : BRow w ao n c l) :
    Calls Tryz.prog 9 #[.string S, .agg #[.int .i64 K, .int .i64 I, .int .i64 A, .int .i64 B, .slice ao n c]] w fun e w' => ∃ ao' cap, e = .returned (.slice ao' P.length cap) ∧
      w'.ownsRow w.heap.size 5 1 (.slice ao' P.length cap) P.length (cB P) ∧ Row w' ao' P.length cap P ∧ Below w.heap.size w w' := by
  have q0 := below_one w (.cells #[.int .i64 K, .int .i64 I, .int .i64 A, .int .i64 B, .slice ao n c] 26)
  have rb := hl.below q0
  have hXl := putP_le K I A B (l.map BI.d)
  have hWl := strB_length S
  by_cases hno : (putP K I A B (l.map BI.d)).length = 0 ∨ 20 < S.size
  · rw [putM_none (by rw [hWl]; exact hno)] at hP
    subst hP
    generalize hX : putP K I A B (l.map BI.d) = X at *
    have HX := hide hX
    clear hX
    by_cases hX0 : X.length = 0
    · clear hno
      have HX0 := hide hX0
      clear hX0
      go_enter Tryz.func9, Tryz.ntmps9
      go_wp2_with fail
      generalize (w.alloc (.cells #[.int .i64 K, .int .i64 I, .int .i64 A, .int .i64 B, .slice ao n c] 26)) = wb at *
      refine (specPutPdu_made K I A B ao n c l X HX.out _ rb).mono ?_
      rintro e w1 ⟨aox, cx, rfl, -, rx, u1⟩
      have b1 := q0.trans (u1.mono q0.size)
      rw [HX0.out]
      go_wp2
      go_ret
      exact ⟨_, _, rfl, made_nil w _ _ (block_last _ _) b1.size, empty_row _ _, b1.trans ((below_one w1 _).mono b1.size)⟩
    · have h20 : 20 < S.size := by omega
      clear hno
      go_enter Tryz.func9, Tryz.ntmps9
      go_wp2_with fail
      generalize (w.alloc (.cells #[.int .i64 K, .int .i64 I, .int .i64 A, .int .i64 B, .slice ao n c] 26)) = wb at *
      refine (specPutPdu_made K I A B ao n c l X HX.out _ rb).mono ?_
      rintro e w1 ⟨aox, cx, rfl, -, rx, u1⟩
      have b1 := q0.trans (u1.mono q0.size)
      go_wp2
      go_ret
      exact ⟨_, _, rfl, made_nil w _ _ (block_last _ _) b1.size, empty_row _ _, b1.trans ((below_one w1 _).mono b1.size)⟩
  · have h0 : ¬ (putP K I A B (l.map BI.d)).length = 0 := fun h => hno (.inl h)
    have h20 : S.size ≤ 20 := by omega
    rw [putM_some h0 (by omega)] at hP
    generalize hX : putP K I A B (l.map BI.d) = X at *
    have hx0 : ((X.length : Int) == 0) = false := by rw [beq_eq_false_iff_ne]; omega
    have hx1 : decide ((20 : Int) < (S.size : Int)) = false := by rw [decide_eq_false_iff_not]; omega
    have HX := hide hX
    unfold msgB at hP
    generalize h1 : putInt 1 = P1 at *
    have hi1 : P1.length ≤ 8 := by rw [← h1]; have := putInt_length 1; omega
    generalize g1 : putTlv [] 2 P1 = H1 at *
    generalize g2 : putTlv H1 4 (strB S) = H2 at *
    have l1 : H1.length ≤ 300 := by rw [← g1]; have := putTlv_length [] 2 P1; simp at this; omega
    have l2 : H2.length ≤ 600 := by rw [← g2]; have := putTlv_length H1 4 (strB S); omega
    have E1 := hide h1
    have G1 := hide g1
    have G2 := hide g2
    have hML : H2.length + X.length = (H2 ++ X).length := by simp
    generalize hM : H2 ++ X = M at *
    have EM := hide hM
    have HP := hide hP
    obtain ⟨bw, gc, hcv, hbw, hrw⟩ := conv_world S hS
    clear hX hP h1 g1 g2 hno hM
    go_enter Tryz.func9, Tryz.ntmps9
    go_wp2_with fail
    generalize (w.alloc (.cells #[.int .i64 K, .int .i64 I, .int .i64 A, .int .i64 B, .slice ao n c] 26)) = wb at *
    refine (specPutPdu_made K I A B ao n c l X HX.out _ rb).mono ?_
    rintro e w1 ⟨aox, cx, rfl, -, rx, u1⟩
    have b1 := q0.trans (u1.mono q0.size)
    clear rb u1 hl
    go_wp2_with fail
    refine (specInt_made 1 P1 E1.out _).mono ?_
    rintro e w2 ⟨ao2, cp2, rfl, -, r2, hb2⟩
    have v2 : Below w1.heap.size w1 w2 := gr_trans (below_one _ _) hb2
    clear hb2
    go_wp2_with fail
    refine (specTlv_made _ _ _ [] 2 _ _ _ P1 H1 G1.out _ (empty_row _ _) r2 (by omega)).mono ?_
    rintro e w3 ⟨ao3, cp3, rfl, -, r3, hb3⟩
    have v3 := gr_trans v2 hb3
    clear r2 v2 hb3
    go_wp2_with fail
    refine (specTlv_made _ _ _ H1 4 _ _ _ (strB S) H2 G2.out _ (r3.below (hbw w3)) (hrw w3) (by omega)).mono ?_
    rintro e w4 ⟨ao4, cp4, rfl, ho4, r4, hb4⟩
    have v3' := gr_trans v3 (hbw w3)
    have v4 := gr_trans v3' hb4
    have o4 := own_lt ho4 (base' := w1.heap.size) v3'.size
    have rx4 := rx.below v4
    clear r3 v3 v3' ho4 hb4
    go_wp2_with (at_builtin; refine wpList_append_row _ rfl _ _ 22 rfl w1.heap.size Tryz.underlying22 Tryz.infoU8 _ H2.length H2 rfl o4 r4.byte _ _ _ X rfl rx4 (by omega) v4.size ?_)
    intro ao5 cp5 w5 ho5 r5 hb5
    have v5 : Below w1.heap.size w1 w5 := v4.trans hb5
    clear o4 v4 r4 hb5 rx4
    rw [EM.out] at ho5 r5
    try rw [hML] at ho5 r5
    try rw [hML]
    have b5 := b1.trans (v5.mono b1.size)
    by_cases hM : M.length ≤ 250
    · go_wp2_with fail
      refine (specTlv_made _ _ _ [] 48 _ _ _ M P HP.out _ (empty_row _ _) (r5.below (below_one _ _)) (by omega)).mono ?_
      rintro e w6 ⟨ao6, cp6, rfl, ho6, r6, hb6⟩
      have b6 := b5.trans ((below_one w5 (.cells #[] 5)).mono b5.size)
      have HO := hide (own_lt ho6 b6.size)
      have HB := hide (b6.trans (hb6.mono b6.size))
      clear ho6 hb6 b6 b5 v5 ho5 r5
      go_wp2
      go_ret
      exact ⟨_, _, rfl, HO.out, r6, HB.out⟩
    · have hPn : P = [] := by rw [← HP.out]; unfold putTlv; rw [if_pos (by omega)]
      subst hPn
      go_wp2
      go_ret
      exact ⟨_, _, rfl, made_nil w _ _ (block_last _ _) b5.size, empty_row _ _, b5.trans ((below_one w5 _).mono b5.size)⟩

end Go.Proofs.YtamglfhnhjgdjaaGreatDoor
