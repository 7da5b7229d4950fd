/-
  The bytes of a request, by contracts: binds, numbers, the whole; the specification's functions and the program's.
  The bytes of binds and of a number, as the program makes them.
  The bytes of a request: the specification's PutPdu and the program's by contracts.
  The bytes of a request, whole: the specification's PutPdu and the program's by contracts.
  The bytes of a request as the program makes them.
-/
import Derived.Test.YtamglfhnhjgdjabGreatDoorPduOk
import Derived.Test.YtamglfhnhjgdjabGreatDoorQE
import Derived.Test.YtamglfhnhjgdjabGreatDoorQA
import Derived.Test.YtamglfhnhjgdjabGreatDoorPduOkS
namespace Go.Proofs.YtamglfhnhjgdjabGreatDoor
open Go.RowKit

theorem putBs_snoc (bs : List BD) (x : BD) : ∀ b, putBs b (bs ++ [x]) = putTlv (putBs b bs) 48 (putB x) := by
  induction bs with
  | nil => intro b; rfl
  | cons y r ih => intro b; exact ih _

theorem okBs_flat {bs : List BD} (h : ∀ x ∈ bs, okB x = true) : putBs [] bs = flatB bs := by rw [putBs_append bs [] (fun x hx => putB_ok48 (h x hx))]; rfl

theorem flatB_length {bs : List BD} (h : ∀ x ∈ bs, okB x = true) : (flatB bs).length ≤ 73 * bs.length := by
  induction bs with
  | nil => simp [flatB]
  | cons x r ih =>
    have h1 := putB_small (h x (List.mem_cons_self ..))
    have h2 := ih (fun y hy => h y (List.mem_cons_of_mem _ hy))
    have h3 := lenB_le (putB x).length
    rw [flatB_cons, List.length_append, List.length_cons]
    unfold tlvB
    simp only [List.length_append, List.length_cons, List.length_nil]
    omega

theorem putB_byte (x : BD) : Byt (putB x) := putV_byte _ _ _ _ _ (putTlv_byte _ _ _ byte_nil (put_byte _))
theorem putBs_byte (bs : List BD) : ∀ b, Byt b → Byt (putBs b bs) := by
  induction bs with
  | nil => intro b h; exact h
  | cons x r ih => intro b h; exact ih _ (putTlv_byte _ _ _ h (putB_byte x))

theorem oks_take {l : List BI} (h : oks l = true) (k : Nat) : ∀ x ∈ (l.take k).map BI.d, okB x = true := by
  intro x hx
  obtain ⟨y, hy, rfl⟩ := List.mem_map.1 hx
  unfold oks at h
  exact List.all_eq_true.1 h y (List.mem_of_mem_take hy)

theorem empty_row (w : World) (b : Nat) : Row w (some ⟨b, 0, none⟩) 0 0 [] := ⟨rfl, Nat.le_refl _, Nat.zero_le _, (by intro h; cases h), byte_nil, .inl rfl⟩

/-- The bytes of the first k binds are there. -/
def BytesAt (w : World) (wr : World) (l : List BI) (k : Nat) (b : Value) : Prop :=
  ∃ ao cap, b = .slice ao (putBs [] ((l.take k).map BI.d)).length cap ∧ wr.ownsRow w.heap.size 5 1 b (putBs [] ((l.take k).map BI.d)).length (cB (putBs [] ((l.take k).map BI.d)))

theorem bytes_next {l : List BI} {k : Nat} {x : BI} (h : l[k]? = some x) : putBs [] ((l.take (k + 1)).map BI.d) = putTlv (putBs [] ((l.take k).map BI.d)) 48 (putB x.d) := by
  rw [take_one h, List.map_append, List.map_singleton, putBs_snoc]



theorem putP_byte (k id a b : Int) (bs : List BD) : Byt (putP k id a b bs) := by
  unfold putP
  split
  · refine putTlv_byte _ _ _ byte_nil ?_
    unfold bodyP headP
    exact putTlv_byte _ _ _ (putTlv_byte _ _ _ (putTlv_byte _ _ _ (putTlv_byte _ _ _ byte_nil (putInt_byte _)) (putInt_byte _)) (putInt_byte _)) (putBs_byte _ _ byte_nil)
  · exact byte_nil

theorem okP_binds {k id a b : Int} {l : List BI} (h : okP k id a b (l.map BI.d) = true) : oks l = true ∧ l.length ≤ 10 := by
  obtain ⟨c1, -, -, -, -, -, c7⟩ := okP_parts h
  refine ⟨?_, by simpa using c7⟩
  rw [← oks_map]
  exact List.all_eq_true.2 c1

theorem headP_length (id a b : Int) : (headP id a b).length ≤ 21 := by
  rw [headP_eq]
  have h1 := putInt_length id
  have h2 := putInt_length a
  have h3 := putInt_length b
  have g1 := lenB_le (putInt id).length
  have g2 := lenB_le (putInt a).length
  have g3 := lenB_le (putInt b).length
  unfold numB tlvB
  simp only [List.length_append, List.length_cons, List.length_nil]
  omega

theorem ret_sb {v : Value} {a b : Bool} (h : a = b) : Ending.returned (.tuple #[v, .bool a]) = .returned (.tuple #[v, .bool b]) := by rw [h]

theorem putP_bad {K I A B : Int} {bs : List BD} (h : okP K I A B bs = false) : putP K I A B bs = [] := by unfold putP; rw [if_neg (by simp [h])]
theorem putP_room {K I A B : Int} {bs : List BD} {r : Bool} (h : okP K I A B bs = true) (hr : decide ((putBs [] bs).length ≤ 250 ∧ (bodyP I A B bs).length ≤ 250) = r) : putP K I A B bs = if r then putTlv [] K (bodyP I A B bs) else [] := by
  unfold putP
  cases r
  · rw [decide_eq_false_iff_not] at hr
    rw [if_neg (fun h => hr ⟨h.2.1, h.2.2⟩)]; rfl
  · rw [decide_eq_true_iff] at hr
    rw [if_pos ⟨h, hr.1, hr.2⟩]; rfl

theorem made_nil (w w' : World) (b : Nat) (h : w'.heap[b]? = some (.cells #[] 5)) (hb : w.heap.size ≤ b) : w'.ownsRow w.heap.size 5 1 (.slice (some ⟨b, 0, none⟩) 0 0) 0 (cB []) :=
  ⟨rfl, .inr ⟨b, 0, #[], rfl, hb, h, Nat.le_refl _, Nat.zero_le _, rfl, rfl⟩⟩

theorem putP_impl {K I A B : Int} {bs : List BD} (h : okP K I A B bs = true) (hq : (putBs [] bs).length ≤ 250) : putP K I A B bs = putTlv [] K (bodyP I A B bs) := by
  unfold putP
  by_cases hb : (bodyP I A B bs).length ≤ 250
  · rw [if_pos ⟨h, hq, hb⟩]
  · rw [if_neg (fun h => hb h.2.2)]
    unfold putTlv
    rw [if_pos (by omega)]

theorem three_rows {w : World} {a b c : Piece} (ha : Row w a.ao a.len a.cap a.zs) (hb : Row w b.ao b.len b.cap b.zs) (hc : Row w c.ao c.len c.cap c.zs) :
    ∀ i, i < 3 → Row w (([a, b, c] : List Piece).getD i noPiece).ao (([a, b, c] : List Piece).getD i noPiece).len (([a, b, c] : List Piece).getD i noPiece).cap (([a, b, c] : List Piece).getD i noPiece).zs := by
  intro i hi
  match i, hi with
  | 0, _ => exact ha
  | 1, _ => exact hb
  | 2, _ => exact hc

theorem four_row {w : World} {base : Nat} {a1 a2 a3 : Option Addr} {c1 c2 c3 m cap : Nat} {b : Option Addr} {N1 N2 N3 N4 : List Int} (h1 : Byt N1) (h2 : Byt N2) (h3 : Byt N3) (h4 : Byt N4)
    (ho : w.ownsRow base 5 1 (.slice b m cap) m (cB (N1 ++ flat [⟨a1, N2.length, c1, N2⟩, ⟨a2, N3.length, c2, N3⟩, ⟨a3, N4.length, c3, N4⟩] 3))) : Row w b m cap (N1 ++ (N2 ++ (N3 ++ N4))) := by
  have e : flat [⟨a1, N2.length, c1, N2⟩, ⟨a2, N3.length, c2, N3⟩, ⟨a3, N4.length, c3, N4⟩] 3 = N2 ++ (N3 ++ N4) := by simp [flat]
  rw [e] at ho
  exact row_own ho (byte_append h1 (byte_append h2 (byte_append h3 h4)))

theorem pieces3_made (a1 : Option Addr) (c1 : Nat) (N1 : List Int) (a2 : Option Addr) (c2 : Nat) (N2 : List Int) (a3 : Option Addr) (c3 : Nat) (N3 : List Int) (a4 : Option Addr) (c4 : Nat) (N4 : List Int) (P : List Int) (hP : N1 ++ (N2 ++ (N3 ++ N4)) = P) (hl : P.length ≤ 10000) (w : World) (e : TypeId)
    (h1 : Row w a1 N1.length c1 N1) (h2 : Row w a2 N2.length c2 N2) (h3 : Row w a3 N3.length c3 N3) (h4 : Row w a4 N4.length c4 N4) :
    Calls Tryz.prog 61 #[.slice a1 N1.length c1, .slice (some ⟨w.heap.size, 0, none⟩) 3 3] (w.alloc (.cells #[.slice a2 N2.length c2, .slice a3 N3.length c3, .slice a4 N4.length c4] e)) fun e w' => ∃ ao cap, e = .returned (.slice ao P.length cap) ∧ Row w' ao P.length cap P ∧ Below w.heap.size w w' := by
  have hlen : P.length = N1.length + (N2.length + (N3.length + N4.length)) := by rw [← hP]; simp
  have ht : tot [⟨a2, N2.length, c2, N2⟩, ⟨a3, N3.length, c3, N3⟩, ⟨a4, N4.length, c4, N4⟩] 3 = N2.length + (N3.length + N4.length) := by simp [tot]
  refine (pieces_any a1 N1.length c1 N1 _ 3 3 [⟨a2, N2.length, c2, N2⟩, ⟨a3, N3.length, c3, N3⟩, ⟨a4, N4.length, c4, N4⟩] _ (h1.below (below_one _ _)) (pieces_lit w _ [⟨a2, N2.length, c2, N2⟩, ⟨a3, N3.length, c3, N3⟩, ⟨a4, N4.length, c4, N4⟩] 3 e rfl rfl (by omega) (three_rows h2 h3 h4)) (by rw [ht]; omega)).mono ?_
  rintro e' w' ⟨rfl, ho, hb⟩
  have r := four_row h1.byte h2.byte h3.byte h4.byte ho
  rw [hP, ht, ← hlen] at r
  refine ⟨_, _, by rw [ht, ← hlen], r, (below_one w (.cells #[.slice a2 N2.length c2, .slice a3 N3.length c3, .slice a4 N4.length c4] e)).trans (hb.mono (by simp))⟩

end Go.Proofs.YtamglfhnhjgdjabGreatDoor
