/-
  The bytes of a request, by contracts: binds, numbers, the whole; the specification's functions and the program's.
  The bytes of binds and of a number, as the program makes them.
  The bytes of a request: the specification's PutPdu and the program's by contracts.
  The bytes of a request, whole: the specification's PutPdu and the program's by contracts.
  The bytes of a request as the program makes them.
-/
import Derived.Test.YtamglfhnhjgdjaaGreatDoorPduOk
import Derived.Test.YtamglfhnhjgdjaaGreatDoorQE
import Derived.Test.YtamglfhnhjgdjaaGreatDoorQA
import Derived.Test.YtamglfhnhjgdjaaGreatDoorPduOkS
namespace Go.Proofs.YtamglfhnhjgdjaaGreatDoor
open Go.RowKit

theorem putBs_snoc (bs : List BD) (x : BD) : ∀ b, putBs b (bs ++ [x]) = putTlv (putBs b bs) 48 (putB x) := by
  induction bs with
  | nil => intro b; rfl
  | cons y r ih => intro b; exact ih _

theorem okBs_flat {bs : List BD} (h : ∀ x ∈ bs, okB x = true) : putBs [] bs = flatB bs := by rw [putBs_append bs [] (fun x hx => putB_ok48 (h x hx))]; rfl

theorem flatB_length {bs : List BD} (h : ∀ x ∈ bs, okB x = true) : (flatB bs).length ≤ 73 * bs.length := by
  induction bs with
  | nil => simp [flatB]
  | cons x r ih =>
    have h1 := putB_small (h x (List.mem_cons_self ..))
    have h2 := ih (fun y hy => h y (List.mem_cons_of_mem _ hy))
    have h3 := lenB_le (putB x).length
    rw [flatB_cons, List.length_append, List.length_cons]
    unfold tlvB
    simp only [List.length_append, List.length_cons, List.length_nil]
    omega

theorem putB_byte (x : BD) : Byt (putB x) := putV_byte _ _ _ _ _ (putTlv_byte _ _ _ byte_nil (put_byte _))
theorem putBs_byte (bs : List BD) : ∀ b, Byt b → Byt (putBs b bs) := by
  induction bs with
  | nil => intro b h; exact h
  | cons x r ih => intro b h; exact ih _ (putTlv_byte _ _ _ h (putB_byte x))

theorem oks_take {l : List BI} (h : oks l = true) (k : Nat) : ∀ x ∈ (l.take k).map BI.d, okB x = true := by
  intro x hx
  obtain ⟨y, hy, rfl⟩ := List.mem_map.1 hx
  unfold oks at h
  exact List.all_eq_true.1 h y (List.mem_of_mem_take hy)

theorem empty_row (w : World) (b : Nat) : Row w (some ⟨b, 0, none⟩) 0 0 [] := ⟨rfl, Nat.le_refl _, Nat.zero_le _, (by intro h; cases h), byte_nil, .inl rfl⟩

/-- The bytes of the first k binds are there. -/
def BytesAt (w : World) (wr : World) (l : List BI) (k : Nat) (b : Value) : Prop :=
  ∃ ao cap, b = .slice ao (putBs [] ((l.take k).map BI.d)).length cap ∧ wr.ownsRow w.heap.size 5 1 b (putBs [] ((l.take k).map BI.d)).length (cB (putBs [] ((l.take k).map BI.d)))

theorem bytes_next {l : List BI} {k : Nat} {x : BI} (h : l[k]? = some x) : putBs [] ((l.take (k + 1)).map BI.d) = putTlv (putBs [] ((l.take k).map BI.d)) 48 (putB x.d) := by
  rw [take_one h, List.map_append, List.map_singleton, putBs_snoc]

set_option maxRecDepth 100000 in
set_option maxHeartbeats 2000000 in
theorem specBinds_made (ao : Option Addr) (n c : Nat) (l : List BI) (P : List Int) (hP : putBs [] (l.map BI.d) = P) (w : World) (hl : BRow w ao n c l) (hok : oks l = true) (hn : n ≤ 10) :
    Calls Tryz.prog 73 #[.slice ao n c] w fun e w' => ∃ ao' cap, e = .returned (.slice ao' P.length cap) ∧
      w'.ownsRow w.heap.size 5 1 (.slice ao' P.length cap) P.length (cB P) ∧ Row w' ao' P.length cap P ∧ Below w.heap.size w w' := by
  have hs := hl.size
  have HP := hide hP
  clear hP
  go_enter Tryz.func73, Tryz.ntmps73
  go_wp2
  go_loopw [3, 4] (fun b i wr => ∃ k : Nat, k ≤ n ∧ i = .int .i64 k ∧ BytesAt w wr l k b ∧ Below w.heap.size w wr) (fun _ i _ => n - (intOf i).toNat)
  case atStart => exact ⟨0, Nat.zero_le _, rfl, ⟨_, _, rfl, World.ownsRow_lit w #[] 0 (Nat.le_refl _) (Nat.zero_le _) rfl⟩, below_one _ _⟩
  case round =>
    obtain ⟨k, hk, rfl, ⟨bo, bc, rfl, hown⟩, hb⟩ := hrel
    have hpl := flatB_length (oks_take hok k)
    rw [← okBs_flat (oks_take hok k)] at hpl
    simp only [List.length_map, List.length_take] at hpl
    by_cases hlt : k < n
    · obtain ⟨x, b, off, hx, rfl, hat, hin⟩ := (hl.below hb).at k hlt
      have hnx := bytes_next hx
      have hxo : okB x.d = true := by unfold oks at hok; exact List.all_eq_true.1 hok x (List.mem_of_getElem? hx)
      have hsm := putB_small hxo
      have rb := row_own hown (putBs_byte _ _ byte_nil)
      generalize hQ : putBs [] ((l.take k).map BI.d) = Q at *
      have HNX := hide hnx
      have CX : Hid (∀ W, Below wr.heap.size wr W → _) := fun W h => (show x.At wr b (off + k * 5) from hat).below h
      have HB := hide hb
      have HOWN := hide hown
      clear hnx hQ hx hb hown
      obtain ⟨a0, a1, a2, a3, a4⟩ := hat
      have hol : (putO x.o).length ≤ 1000 := by have := put_length x.o; omega
      generalize hO : putO x.o = Oz at hol
      generalize hR : putTlv [] 6 Oz = R
      generalize hT : putV R x.K x.N x.S x.z = T
      have hTd : putB x.d = T := by rw [← hT, ← hR, ← hO]; rfl
      rw [hTd] at hsm
      have hRl : R.length ≤ 1100 := by rw [← hR]; have := putTlv_length [] 6 Oz; simp at this; omega
      have HR := hide hR
      have HO := hide hO
      have HT := hide hT
      have HTD := hide hTd
      have hSs := hin.s
      have HNX2 : Hid (putTlv Q 48 T = putBs [] ((l.take (k + 1)).map BI.d)) := hide (by rw [HNX.out, hTd])
      generalize hQ2 : putBs [] ((l.take (k + 1)).map BI.d) = Q2 at HNX2
      have HQ2 := hide hQ2
      clear hQ2
      clear hR hT hTd hO HNX
      go_wp2_with fail
      go_region_held3 (fun W => W.cell? ⟨b, off + k * 5, none⟩ = some (.slice x.oa x.on x.oc) ∧ W.cell? ⟨b, off + k * 5 + 1, none⟩ = some (.int .i64 x.K) ∧ W.cell? ⟨b, off + k * 5 + 2, none⟩ = some (.int .i64 x.N) ∧ W.cell? ⟨b, off + k * 5 + 3, none⟩ = some (.string x.S) ∧ W.cell? ⟨b, off + k * 5 + 4, none⟩ = some (.slice x.za x.zn x.zc)) (first | exact CX.out _ u3 | exact CX.out _ u2 | exact CX.out _ u1 | go_keep) (first
        | (go_at_call 95; refine (specPut_made x.oa x.on x.oc x.o Oz HO.out _ (hin.o.below (below_one _ _).drew)).mono ?_; rintro e w1 ⟨ao1, cp1, rfl, -, r1, hb1⟩; have u1 := (below_one wr (.cells #[] 5)).drew.trans (hb1.mono (by simp)))
        | (go_at_call 95; refine (specPut_made x.oa x.on x.oc x.o Oz HO.out _ (hin.o.below (Below.refl _ _).drew)).mono ?_; rintro e w1 ⟨ao1, cp1, rfl, -, r1, hb1⟩; have u1 : Below wr.heap.size wr w1 := (Below.refl _ wr).drew.trans hb1)
        | (go_at_call 24; refine (specTlv_made _ _ _ [] 6 _ _ _ Oz R HR.out _ (empty_row _ _) r1 (by omega)).mono ?_; rintro e w2 ⟨ao2, cp2, rfl, -, r2, hb2⟩; have u2 := u1.trans (hb2.mono u1.size))
        | (go_at_call 24; refine (specTlv_made _ _ _ [] 6 _ _ _ Oz R HR.out _ (empty_row _ _) (r1.below (below_one _ _)) (by omega)).mono ?_; rintro e w2 ⟨ao2, cp2, rfl, -, r2, hb2⟩; have u1' := u1.trans ((below_one w1 (.cells #[] 5)).mono u1.size); have u2 := u1'.trans (hb2.mono u1'.size))
        | (go_at_call 94; refine (specPutVal_made _ _ _ R x.K x.N x.S _ _ _ x.z T HT.out _ r2 hSs (hin.z.below u2) (by omega)).mono ?_; rintro e w3 ⟨ao3, cp3, rfl, -, r3, hb3⟩; have u3 := u2.trans (hb3.mono u2.size)))
      all_goals
        clear a0 a1 a2 a3 a4 r1 r2 hb1 hb2 hb3 u1 u2
        go_wp2_with fail
        refine (specTlv_made _ _ _ Q 48 _ _ _ T Q2 HNX2.out _ (rb.below u3) r3 (by omega)).mono ?_
        rintro e w4 ⟨ao4, cp4, rfl, ho4, r4, hb4⟩
        have b3 := HB.out.trans (u3.mono HB.out.size)
        have HB4 := hide (b3.trans (hb4.mono b3.size))
        have HO4 := hide (own_lt ho4 b3.size)
        clear u3 r3 hb4 ho4 r4 b3
        go_wp2
        go_roundw
        case rel => exact ⟨k + 1, by omega, by go_num, by unfold BytesAt; rw [HQ2.out]; exact ⟨_, _, rfl, HO4.out⟩, HB4.out⟩
        case measure => simp [intOf]; omega
    · have hk' : k = n := by omega
      subst hk'
      have hr := row_own hown (putBs_byte _ _ byte_nil)
      rw [List.take_of_length_le (by omega), HP.out] at hown hr ⊢
      go_wp2
      go_ret
      exact ⟨_, _, rfl, hown, hr, hb⟩

set_option maxRecDepth 100000 in
set_option maxHeartbeats 2000000 in
theorem implBinds_made (ao : Option Addr) (n c : Nat) (l : List BI) (P : List Int) (hP : putBs [] (l.map BI.d) = P) (w : World) (hl : BRow w ao n c l) (hok : oks l = true) (hn : n ≤ 10) :
    Calls Tryz.prog 44 #[.slice ao n c] w fun e w' => ∃ ao' cap, e = .returned (.slice ao' P.length cap) ∧
      w'.ownsRow w.heap.size 5 1 (.slice ao' P.length cap) P.length (cB P) ∧ Row w' ao' P.length cap P ∧ Below w.heap.size w w' := by
  have hs := hl.size
  have HP := hide hP
  clear hP
  go_enter Tryz.func44, Tryz.ntmps44
  go_wp2
  go_loopw [3, 8] (fun b i wr => ∃ k : Nat, k ≤ n ∧ i = .int .i64 k ∧ BytesAt w wr l k b ∧ Below w.heap.size w wr) (fun _ i _ => n - (intOf i).toNat)
  case atStart => exact ⟨0, Nat.zero_le _, rfl, ⟨_, _, rfl, World.ownsRow_nil _ _ _ _⟩, Below.refl _ _⟩
  case round =>
    obtain ⟨k, hk, rfl, ⟨bo, bc, rfl, hown⟩, hb⟩ := hrel
    have hpl := flatB_length (oks_take hok k)
    rw [← okBs_flat (oks_take hok k)] at hpl
    simp only [List.length_map, List.length_take] at hpl
    by_cases hlt : k < n
    · obtain ⟨x, b, off, hx, rfl, hat, hin⟩ := (hl.below hb).at k hlt
      have hnx := bytes_next hx
      have hxo : okB x.d = true := by unfold oks at hok; exact List.all_eq_true.1 hok x (List.mem_of_getElem? hx)
      have hsm := putB_small hxo
      have rb := row_own hown (putBs_byte _ _ byte_nil)
      generalize hQ : putBs [] ((l.take k).map BI.d) = Q at *
      have HNX := hide hnx
      have HB := hide hb
      clear hnx hQ hx hb hown
      obtain ⟨a0, a1, a2, a3, a4⟩ := hat
      have hol : (putO x.o).length ≤ 1000 := by have := put_length x.o; omega
      generalize hO : putO x.o = Oz at hol
      generalize hR : putTlv [] 6 Oz = R
      generalize hT : putV R x.K x.N x.S x.z = T
      have hTd : putB x.d = T := by rw [← hT, ← hR, ← hO]; rfl
      rw [hTd] at hsm
      have hRl : R.length ≤ 1100 := by rw [← hR]; have := putTlv_length [] 6 Oz; simp at this; omega
      have HR := hide hR
      have HO := hide hO
      have HT := hide hT
      have hSs := hin.s
      have HNX2 : Hid (putTlv Q 48 T = putBs [] ((l.take (k + 1)).map BI.d)) := hide (by rw [HNX.out, hTd])
      generalize hQ2 : putBs [] ((l.take (k + 1)).map BI.d) = Q2 at HNX2
      have HQ2 := hide hQ2
      clear hR hT hTd hO HNX hQ2
      have CX : Hid (∀ W, Below (wr.alloc (.cells #[.slice x.oa x.on x.oc, .int .i64 x.K, .int .i64 x.N, .string x.S, .slice x.za x.zn x.zc] 80)).heap.size (wr.alloc (.cells #[.slice x.oa x.on x.oc, .int .i64 x.K, .int .i64 x.N, .string x.S, .slice x.za x.zn x.zc] 80)) W → _) := fun W h => (cells5 (kept_block (block_last wr _) h)).1
      have q0 := below_one wr (.cells #[.slice x.oa x.on x.oc, .int .i64 x.K, .int .i64 x.N, .string x.S, .slice x.za x.zn x.zc] 80)
      have ro := hin.o.below q0
      have rz := hin.z.below q0
      have rb := rb.below q0
      go_wp2_with fail
      obtain ⟨x0, x1, x2, x3, x4⟩ := CX.out _ (Below.refl _ _)
      generalize (wr.alloc (.cells #[.slice x.oa x.on x.oc, .int .i64 x.K, .int .i64 x.N, .string x.S, .slice x.za x.zn x.zc] 80)) = wb at *
      clear a0 a1 a2 a3 a4 hin
      go_region_held3 (fun W => W.cell? ⟨wr.heap.size, 0, none⟩ = some (.slice x.oa x.on x.oc) ∧ W.cell? ⟨wr.heap.size, 1, none⟩ = some (.int .i64 x.K) ∧ W.cell? ⟨wr.heap.size, 2, none⟩ = some (.int .i64 x.N) ∧ W.cell? ⟨wr.heap.size, 3, none⟩ = some (.string x.S) ∧ W.cell? ⟨wr.heap.size, 4, none⟩ = some (.slice x.za x.zn x.zc)) (first | exact CX.out _ u4 | exact CX.out _ u3 | exact CX.out _ u2 | exact CX.out _ u1 | go_keep) (first
        | (go_at_call 69; refine (implPut_made x.oa x.on x.oc x.o Oz HO.out _ (ro.below (below_drewN (Below.refl _ _) _))).mono ?_; rintro e w1 ⟨ao1, cp1, rfl, -, r1, hb1⟩; have u1 := undrew hb1)
        | (go_at_call 20; have u3' := u3; refine (implTlv_made _ _ _ Q 48 _ _ _ T Q2 HNX2.out _ (rb.below u3) r3 (by omega)).mono ?_; rintro e w4 ⟨ao4, cp4, rfl, ho4, r4, hb4⟩; have u4 := u3.trans (hb4.mono u3.size))
        | (go_at_call 20; refine (implTlv_made _ _ _ [] 6 _ _ _ Oz R HR.out _ (row_nil _) r1 (by omega)).mono ?_; rintro e w2 ⟨ao2, cp2, rfl, -, r2, hb2⟩; have u2 := u1.trans (hb2.mono u1.size))
        | (go_at_call 68; refine (implPutVal_made _ _ _ R x.K x.N x.S _ _ _ x.z T HT.out _ r2 hSs (rz.below u2) (by omega)).mono ?_; rintro e w3 ⟨ao3, cp3, rfl, -, r3, hb3⟩; have u3 := u2.trans (hb3.mono u2.size)))
      have bb := HB.out.trans (q0.mono HB.out.size)
      have b3 := bb.trans (u3.mono bb.size)
      have HB4 := hide (b3.trans (hb4.mono b3.size))
      have HO4 := hide (own_lt ho4 b3.size)
      clear x0 x1 x2 x3 x4 r1 r2 hb1 hb2 hb3 u1 u2 u3 u4 r3 hb4 ho4 r4 b3 bb
      go_wp2
      go_roundw
      case rel => exact ⟨k + 1, by omega, by go_num, by unfold BytesAt; rw [HQ2.out]; exact ⟨_, _, rfl, HO4.out⟩, HB4.out⟩
      case measure => simp [intOf]; omega
    · have hk' : k = n := by omega
      subst hk'
      have hr := row_own hown (putBs_byte _ _ byte_nil)
      rw [List.take_of_length_le (by omega), HP.out] at hown hr ⊢
      go_wp2
      go_ret
      exact ⟨_, _, rfl, hown, hr, hb⟩

set_option maxRecDepth 100000 in
set_option maxHeartbeats 400000 in
theorem numPart_made (m : Int) (P : List Int) (hP : putTlv [] 2 (putInt m) = P) (w : World) :
    Calls Tryz.prog 22 #[.int .i64 m] w fun e w' => ∃ ao cap, e = .returned (.slice ao P.length cap) ∧
      w'.ownsRow w.heap.size 5 1 (.slice ao P.length cap) P.length (cB P) ∧ Row w' ao P.length cap P ∧ Below w.heap.size w w' := by
  have hl := putInt_length m
  generalize hI : putInt m = Iz at *
  have HI := hide hI
  have HP := hide hP
  clear hI hP
  go_enter Tryz.func22, Tryz.ntmps22
  go_wp2_with fail
  refine (implInt_made m Iz HI.out _).mono ?_
  rintro e w1 ⟨ao1, cp1, rfl, -, r1, hb1⟩
  go_wp2_with fail
  refine (implTlv_made _ _ _ [] 2 _ _ _ Iz P HP.out _ (row_nil _) r1 (by omega)).mono ?_
  rintro e w2 ⟨ao2, cp2, rfl, ho2, r2, hb2⟩
  go_wp2
  go_ret
  exact ⟨_, _, rfl, own_lt ho2 hb1.size, r2, hb1.trans (hb2.mono hb1.size)⟩

theorem putP_byte (k id a b : Int) (bs : List BD) : Byt (putP k id a b bs) := by
  unfold putP
  split
  · refine putTlv_byte _ _ _ byte_nil ?_
    unfold bodyP headP
    exact putTlv_byte _ _ _ (putTlv_byte _ _ _ (putTlv_byte _ _ _ (putTlv_byte _ _ _ byte_nil (putInt_byte _)) (putInt_byte _)) (putInt_byte _)) (putBs_byte _ _ byte_nil)
  · exact byte_nil

theorem okP_binds {k id a b : Int} {l : List BI} (h : okP k id a b (l.map BI.d) = true) : oks l = true ∧ l.length ≤ 10 := by
  obtain ⟨c1, -, -, -, -, -, c7⟩ := okP_parts h
  refine ⟨?_, by simpa using c7⟩
  rw [← oks_map]
  exact List.all_eq_true.2 c1

theorem headP_length (id a b : Int) : (headP id a b).length ≤ 21 := by
  rw [headP_eq]
  have h1 := putInt_length id
  have h2 := putInt_length a
  have h3 := putInt_length b
  have g1 := lenB_le (putInt id).length
  have g2 := lenB_le (putInt a).length
  have g3 := lenB_le (putInt b).length
  unfold numB tlvB
  simp only [List.length_append, List.length_cons, List.length_nil]
  omega

theorem ret_sb {v : Value} {a b : Bool} (h : a = b) : Ending.returned (.tuple #[v, .bool a]) = .returned (.tuple #[v, .bool b]) := by rw [h]

set_option maxRecDepth 100000 in
set_option maxHeartbeats 4000000 in
theorem specBody_made (K I A B : Int) (ao : Option Addr) (n c : Nat) (l : List BI) (w : World) (hl : BRow w ao n c l) (hok : oks l = true) (hn : n ≤ 10) (r : Bool) (hr : decide ((putBs [] (l.map BI.d)).length ≤ 250 ∧ (bodyP I A B (l.map BI.d)).length ≤ 250) = r) (P : List Int) (hP : bodyP I A B (l.map BI.d) = P) :
    Calls Tryz.prog 48 #[.agg #[.int .i64 K, .int .i64 I, .int .i64 A, .int .i64 B, .slice ao n c]] w fun e w' => ∃ ao' m cap, e = .returned (.tuple #[.slice ao' m cap, .bool r]) ∧
      (r = true → Row w' ao' m cap P) ∧ Below w.heap.size w w' := by
  generalize hQ : putBs [] (l.map BI.d) = Q at *
  have hQl : Q.length ≤ 730 := by
    have hs := hl.size
    have h1 := oks_take hok n
    rw [List.take_of_length_le (by omega)] at h1
    have h2 := flatB_length h1
    rw [← okBs_flat h1, hQ] at h2
    simp only [List.length_map] at h2
    omega
  have hbody : putTlv (headP I A B) 48 Q = P := by rw [← hP, ← hQ]; rfl
  have HBX : Hid (∀ W, Below (w.alloc (.cells #[.int .i64 K, .int .i64 I, .int .i64 A, .int .i64 B, .slice ao n c] 26)).heap.size (w.alloc (.cells #[.int .i64 K, .int .i64 I, .int .i64 A, .int .i64 B, .slice ao n c] 26)) W → _) := fun W h => (cells5 (kept_block (block_last w _) h)).1
  have q0 := below_one w (.cells #[.int .i64 K, .int .i64 I, .int .i64 A, .int .i64 B, .slice ao n c] 26)
  have rb := hl.below q0
  have HQ := hide hQ
  have HBODY := hide hbody
  rw [hP] at hr
  clear hQ hbody hP
  by_cases hq : Q.length ≤ 250
  · have hr' : decide ((P.length : Int) ≤ 250) = r := by rw [← hr, Bool.eq_iff_iff]; simp [hq]; omega
    have HR := hide hr'
    clear hr hr'
    have hi1 := putInt_length I
    have hi2 := putInt_length A
    have hi3 := putInt_length B
    have hhl := headP_length I A B
    generalize hH : headP I A B = H3 at hhl
    unfold headP at hH
    generalize h1 : putInt I = P1 at *
    generalize h2 : putInt A = P2 at *
    generalize h3 : putInt B = P3 at *
    generalize g1 : putTlv [] 2 P1 = H1 at *
    generalize g2 : putTlv H1 2 P2 = H2 at *
    have l1 : H1.length ≤ 300 := by rw [← g1]; have := putTlv_length [] 2 P1; simp at this; omega
    have l2 : H2.length ≤ 600 := by rw [← g2]; have := putTlv_length H1 2 P2; omega
    have HB3 : Hid (putTlv H3 48 Q = P) := hide (by rw [← hH, ← g2, ← g1, ← h1, ← h2, ← h3]; exact HBODY.out)
    have E1 := hide h1
    have E2 := hide h2
    have E3 := hide h3
    have G1 := hide g1
    have G2 := hide g2
    have G3 := hide hH
    clear h1 h2 h3 g1 g2 hH HBODY
    go_enter Tryz.func48, Tryz.ntmps48
    go_wp2_with fail
    generalize (w.alloc (.cells #[.int .i64 K, .int .i64 I, .int .i64 A, .int .i64 B, .slice ao n c] 26)) = wb at *
    refine (specBinds_made ao n c l Q HQ.out _ rb hok hn).mono ?_
    rintro e w1 ⟨ao1, cp1, rfl, -, rq, u1⟩
    obtain ⟨x0, x1, x2, x3, x4⟩ := HBX.out _ u1
    go_wp2_with fail
    go_region_held3 (fun W => (W.cell? ⟨w.heap.size, 0, none⟩ = some (.int .i64 K) ∧ W.cell? ⟨w.heap.size, 1, none⟩ = some (.int .i64 I) ∧ W.cell? ⟨w.heap.size, 2, none⟩ = some (.int .i64 A) ∧ W.cell? ⟨w.heap.size, 3, none⟩ = some (.int .i64 B) ∧ W.cell? ⟨w.heap.size, 4, none⟩ = some (.slice ao n c))) (first | exact HBX.out _ (u1.trans (v7.mono u1.size)) | exact HBX.out _ (u1.trans (v6.mono u1.size)) | exact HBX.out _ (u1.trans (v5.mono u1.size)) | exact HBX.out _ (u1.trans (v4.mono u1.size)) | exact HBX.out _ (u1.trans (v3.mono u1.size)) | exact HBX.out _ (u1.trans (v2.mono u1.size)) | go_keep) (first
      | (go_at_call 25; have v5' := v5; refine (specInt_made B P3 E3.out _).mono ?_; rintro e w6 ⟨ao6, cp6, rfl, -, r6, hb6⟩; have v6 := v5.trans (hb6.mono v5.size))
      | (go_at_call 25; have v3' := v3; refine (specInt_made A P2 E2.out _).mono ?_; rintro e w4 ⟨ao4, cp4, rfl, -, r4, hb4⟩; have v4 := v3.trans (hb4.mono v3.size))
      | (go_at_call 25; refine (specInt_made I P1 E1.out _).mono ?_; rintro e w2 ⟨ao2, cp2, rfl, -, r2, hb2⟩; have v2 : Below w1.heap.size w1 w2 := (by first | exact (Below.refl _ w1).drew.trans hb2 | exact (below_one w1 (.cells #[] 5)).drew.trans (hb2.mono (by simp))))
      | (go_at_call 24; have v6' := v6; refine (specTlv_made _ _ _ H2 2 _ _ _ P3 H3 G3.out _ (r5.below hb6) r6 (by omega)).mono ?_; rintro e w7 ⟨ao7, cp7, rfl, -, r7, hb7⟩; have v7 := v6.trans (hb7.mono v6.size))
      | (go_at_call 24; have v4' := v4; refine (specTlv_made _ _ _ H1 2 _ _ _ P2 H2 G2.out _ (r3.below hb4) r4 (by omega)).mono ?_; rintro e w5 ⟨ao5, cp5, rfl, -, r5, hb5⟩; have v5 := v4.trans (hb5.mono v4.size))
      | (go_at_call 24; refine (specTlv_made _ _ _ [] 2 _ _ _ P1 H1 G1.out _ (empty_row _ _) r2 (by omega)).mono ?_; rintro e w3 ⟨ao3, cp3, rfl, -, r3, hb3⟩; have v3 := v2.trans (hb3.mono v2.size))
      | (go_at_call 24; refine (specTlv_made _ _ _ [] 2 _ _ _ P1 H1 G1.out _ (empty_row _ _) (r2.below (below_one _ _)) (by omega)).mono ?_; rintro e w3 ⟨ao3, cp3, rfl, -, r3, hb3⟩; have v2' := v2.trans ((below_one w2 (.cells #[] 5)).mono v2.size); have v3 := v2'.trans (hb3.mono v2'.size)))
    all_goals
      clear x0 x1 x2 x3 x4 r2 r3 r4 r5 r6 hb2 hb3 hb4 hb5 hb6 hb7 v2 v3 v4 v5 v6
      go_wp2_with fail
      refine (specTlv_made _ _ _ H3 48 _ _ _ Q P HB3.out _ r7 (rq.below v7) (by omega)).mono ?_
      rintro e w8 ⟨ao8, cp8, rfl, -, r8, hb8⟩
      have u8 := (q0.trans (u1.mono q0.size)).trans ((v7.trans (hb8.mono v7.size)).mono (Nat.le_trans q0.size u1.size))
      have HU := hide u8
      clear v7 r7 hb8 u8
      go_wp2
      go_ret2
      exact ⟨_, _, _, ret_sb HR.out, fun _ => r8, HU.out⟩
  · have hr' : r = false := by rw [← hr]; simp; intro h; omega
    subst hr'
    clear hr HBODY
    go_enter Tryz.func48, Tryz.ntmps48
    go_wp2_with fail
    generalize (w.alloc (.cells #[.int .i64 K, .int .i64 I, .int .i64 A, .int .i64 B, .slice ao n c] 26)) = wb at *
    refine (specBinds_made ao n c l Q HQ.out _ rb hok hn).mono ?_
    rintro e w1 ⟨ao1, cp1, rfl, -, rq, u1⟩
    go_wp2
    go_ret2
    exact ⟨_, _, _, rfl, (fun h => absurd h (by decide)), (q0.trans (u1.mono q0.size)).trans ((below_one w1 _).mono (Nat.le_trans q0.size u1.size))⟩

theorem putP_bad {K I A B : Int} {bs : List BD} (h : okP K I A B bs = false) : putP K I A B bs = [] := by unfold putP; rw [if_neg (by simp [h])]
theorem putP_room {K I A B : Int} {bs : List BD} {r : Bool} (h : okP K I A B bs = true) (hr : decide ((putBs [] bs).length ≤ 250 ∧ (bodyP I A B bs).length ≤ 250) = r) : putP K I A B bs = if r then putTlv [] K (bodyP I A B bs) else [] := by
  unfold putP
  cases r
  · rw [decide_eq_false_iff_not] at hr
    rw [if_neg (fun h => hr ⟨h.2.1, h.2.2⟩)]; rfl
  · rw [decide_eq_true_iff] at hr
    rw [if_pos ⟨h, hr.1, hr.2⟩]; rfl

theorem made_nil (w w' : World) (b : Nat) (h : w'.heap[b]? = some (.cells #[] 5)) (hb : w.heap.size ≤ b) : w'.ownsRow w.heap.size 5 1 (.slice (some ⟨b, 0, none⟩) 0 0) 0 (cB []) :=
  ⟨rfl, .inr ⟨b, 0, #[], rfl, hb, h, Nat.le_refl _, Nat.zero_le _, rfl, rfl⟩⟩

set_option maxRecDepth 100000 in
set_option maxHeartbeats 2000000 in
theorem specPutPdu_made (K I A B : Int) (ao : Option Addr) (n c : Nat) (l : List BI) (P : List Int) (hP : putP K I A B (l.map BI.d) = P) (w : World) (hl : BRow w ao n c l) :
    Calls Tryz.prog 23 #[.agg #[.int .i64 K, .int .i64 I, .int .i64 A, .int .i64 B, .slice ao n c]] w fun e w' => ∃ ao' cap, e = .returned (.slice ao' P.length cap) ∧
      w'.ownsRow w.heap.size 5 1 (.slice ao' P.length cap) P.length (cB P) ∧ Row w' ao' P.length cap P ∧ Below w.heap.size w w' := by
  have HBX : Hid (∀ W, Below (w.alloc (.cells #[.int .i64 K, .int .i64 I, .int .i64 A, .int .i64 B, .slice ao n c] 26)).heap.size (w.alloc (.cells #[.int .i64 K, .int .i64 I, .int .i64 A, .int .i64 B, .slice ao n c] 26)) W → _) := fun W h => (cells5 (kept_block (block_last w _) h)).1
  have q0 := below_one w (.cells #[.int .i64 K, .int .i64 I, .int .i64 A, .int .i64 B, .slice ao n c] 26)
  have rb := hl.below q0
  cases hk : okP K I A B (l.map BI.d)
  · rw [putP_bad hk] at hP
    subst hP
    have HK := hide hk
    clear hk
    go_enter Tryz.func23, Tryz.ntmps23
    go_wp2_with fail
    generalize (w.alloc (.cells #[.int .i64 K, .int .i64 I, .int .i64 A, .int .i64 B, .slice ao n c] 26)) = wb at *
    refine (specPduOk_any K I A B ao n c l _ rb).mono ?_
    rintro e w1 ⟨rfl, u1⟩
    rw [HK.out]
    have b1 := q0.trans (u1.mono q0.size)
    go_wp2
    go_ret
    exact ⟨_, _, rfl, made_nil w _ _ (block_last _ _) b1.size, empty_row _ _, b1.trans ((below_one w1 _).mono b1.size)⟩
  · obtain ⟨hok, hn⟩ := okP_binds hk
    rw [hl.size] at hn
    generalize hr : decide ((putBs [] (l.map BI.d)).length ≤ 250 ∧ (bodyP I A B (l.map BI.d)).length ≤ 250) = r
    rw [putP_room hk hr] at hP
    generalize hQ : bodyP I A B (l.map BI.d) = Q at *
    have hQl : r = true → Q.length ≤ 250 := by intro h; rw [h, decide_eq_true_iff] at hr; exact hr.2
    have HK := hide hk
    have HR : Hid (decide ((putBs [] (l.map BI.d)).length ≤ 250 ∧ (bodyP I A B (l.map BI.d)).length ≤ 250) = r) := hide (by rw [hQ]; exact hr)
    have HQ := hide hQ
    clear hk hr hQ
    cases r
    · simp only [Bool.false_eq_true, if_false] at hP
      subst hP
      go_enter Tryz.func23, Tryz.ntmps23
      go_wp2_with fail
      generalize (w.alloc (.cells #[.int .i64 K, .int .i64 I, .int .i64 A, .int .i64 B, .slice ao n c] 26)) = wb at *
      refine (specPduOk_any K I A B ao n c l _ rb).mono ?_
      rintro e w1 ⟨rfl, u1⟩
      rw [HK.out]
      obtain ⟨x0, x1, x2, x3, x4⟩ := HBX.out _ u1
      go_wp2_with fail
      refine (specBody_made K I A B ao n c l _ (rb.below u1) hok hn _ HR.out Q HQ.out).mono ?_
      rintro e w2 ⟨ao2, m2, cp2, rfl, -, hb2⟩
      have u2 := u1.trans (hb2.mono u1.size)
      have b2 := q0.trans (u2.mono q0.size)
      clear x0 x1 x2 x3 x4 hb2 u1 u2
      go_wp2
      go_ret
      exact ⟨_, _, rfl, made_nil w _ _ (block_last _ _) b2.size, empty_row _ _, b2.trans ((below_one w2 _).mono b2.size)⟩
    · simp only [if_true] at hP
      have hQl := hQl rfl
      have HP := hide hP
      clear hP
      go_enter Tryz.func23, Tryz.ntmps23
      go_wp2_with fail
      generalize (w.alloc (.cells #[.int .i64 K, .int .i64 I, .int .i64 A, .int .i64 B, .slice ao n c] 26)) = wb at *
      refine (specPduOk_any K I A B ao n c l _ rb).mono ?_
      rintro e w1 ⟨rfl, u1⟩
      rw [HK.out]
      obtain ⟨x0, x1, x2, x3, x4⟩ := HBX.out _ u1
      go_wp2_with fail
      refine (specBody_made K I A B ao n c l _ (rb.below u1) hok hn _ HR.out Q HQ.out).mono ?_
      rintro e w2 ⟨ao2, m2, cp2, rfl, hr2, hb2⟩
      have hr3 := hr2 rfl
      have hm2 := hr3.size
      clear hr2
      have u2 := u1.trans (hb2.mono u1.size)
      have b2 := q0.trans (u2.mono q0.size)
      clear x0 x1 x2 x3 x4 hb2 u1
      obtain ⟨x0, x1, x2, x3, x4⟩ := HBX.out _ (u2.trans ((below_one w2 (.cells #[] 5)).mono u2.size))
      clear u2
      go_wp2_with fail
      refine (specTlv_made _ _ _ [] K _ _ _ Q P HP.out _ (empty_row _ _) (hr3.below (below_one _ _)) (by omega)).mono ?_
      rintro e w3 ⟨ao3, cp3, rfl, ho3, r3, hb3⟩
      have b3 := b2.trans ((below_one w2 (.cells #[] 5)).mono b2.size)
      have HO := hide (own_lt ho3 b3.size)
      have HB := hide (b3.trans (hb3.mono b3.size))
      clear x0 x1 x2 x3 x4 ho3 hb3 b3 hr3
      go_wp2
      go_ret
      exact ⟨_, _, rfl, HO.out, r3, HB.out⟩

theorem putP_impl {K I A B : Int} {bs : List BD} (h : okP K I A B bs = true) (hq : (putBs [] bs).length ≤ 250) : putP K I A B bs = putTlv [] K (bodyP I A B bs) := by
  unfold putP
  by_cases hb : (bodyP I A B bs).length ≤ 250
  · rw [if_pos ⟨h, hq, hb⟩]
  · rw [if_neg (fun h => hb h.2.2)]
    unfold putTlv
    rw [if_pos (by omega)]

theorem three_rows {w : World} {a b c : Piece} (ha : Row w a.ao a.len a.cap a.zs) (hb : Row w b.ao b.len b.cap b.zs) (hc : Row w c.ao c.len c.cap c.zs) :
    ∀ i, i < 3 → Row w (([a, b, c] : List Piece).getD i noPiece).ao (([a, b, c] : List Piece).getD i noPiece).len (([a, b, c] : List Piece).getD i noPiece).cap (([a, b, c] : List Piece).getD i noPiece).zs := by
  intro i hi
  match i, hi with
  | 0, _ => exact ha
  | 1, _ => exact hb
  | 2, _ => exact hc

theorem four_row {w : World} {base : Nat} {a1 a2 a3 : Option Addr} {c1 c2 c3 m cap : Nat} {b : Option Addr} {N1 N2 N3 N4 : List Int} (h1 : Byt N1) (h2 : Byt N2) (h3 : Byt N3) (h4 : Byt N4)
    (ho : w.ownsRow base 5 1 (.slice b m cap) m (cB (N1 ++ flat [⟨a1, N2.length, c1, N2⟩, ⟨a2, N3.length, c2, N3⟩, ⟨a3, N4.length, c3, N4⟩] 3))) : Row w b m cap (N1 ++ (N2 ++ (N3 ++ N4))) := by
  have e : flat [⟨a1, N2.length, c1, N2⟩, ⟨a2, N3.length, c2, N3⟩, ⟨a3, N4.length, c3, N4⟩] 3 = N2 ++ (N3 ++ N4) := by simp [flat]
  rw [e] at ho
  exact row_own ho (byte_append h1 (byte_append h2 (byte_append h3 h4)))

theorem pieces3_made (a1 : Option Addr) (c1 : Nat) (N1 : List Int) (a2 : Option Addr) (c2 : Nat) (N2 : List Int) (a3 : Option Addr) (c3 : Nat) (N3 : List Int) (a4 : Option Addr) (c4 : Nat) (N4 : List Int) (P : List Int) (hP : N1 ++ (N2 ++ (N3 ++ N4)) = P) (hl : P.length ≤ 10000) (w : World) (e : TypeId)
    (h1 : Row w a1 N1.length c1 N1) (h2 : Row w a2 N2.length c2 N2) (h3 : Row w a3 N3.length c3 N3) (h4 : Row w a4 N4.length c4 N4) :
    Calls Tryz.prog 21 #[.slice a1 N1.length c1, .slice (some ⟨w.heap.size, 0, none⟩) 3 3] (w.alloc (.cells #[.slice a2 N2.length c2, .slice a3 N3.length c3, .slice a4 N4.length c4] e)) fun e w' => ∃ ao cap, e = .returned (.slice ao P.length cap) ∧ Row w' ao P.length cap P ∧ Below w.heap.size w w' := by
  have hlen : P.length = N1.length + (N2.length + (N3.length + N4.length)) := by rw [← hP]; simp
  have ht : tot [⟨a2, N2.length, c2, N2⟩, ⟨a3, N3.length, c3, N3⟩, ⟨a4, N4.length, c4, N4⟩] 3 = N2.length + (N3.length + N4.length) := by simp [tot]
  refine (pieces_any a1 N1.length c1 N1 _ 3 3 [⟨a2, N2.length, c2, N2⟩, ⟨a3, N3.length, c3, N3⟩, ⟨a4, N4.length, c4, N4⟩] _ (h1.below (below_one _ _)) (pieces_lit w _ [⟨a2, N2.length, c2, N2⟩, ⟨a3, N3.length, c3, N3⟩, ⟨a4, N4.length, c4, N4⟩] 3 e rfl rfl (by omega) (three_rows h2 h3 h4)) (by rw [ht]; omega)).mono ?_
  rintro e' w' ⟨rfl, ho, hb⟩
  have r := four_row h1.byte h2.byte h3.byte h4.byte ho
  rw [hP, ht, ← hlen] at r
  refine ⟨_, _, by rw [ht, ← hlen], r, (below_one w (.cells #[.slice a2 N2.length c2, .slice a3 N3.length c3, .slice a4 N4.length c4] e)).trans (hb.mono (by simp))⟩

set_option maxRecDepth 100000 in
set_option maxHeartbeats 4000000 in
theorem implPutPdu_made (K I A B : Int) (ao : Option Addr) (n c : Nat) (l : List BI) (P : List Int) (hP : putP K I A B (l.map BI.d) = P) (w : World) (hl : BRow w ao n c l) :
    Calls Tryz.prog 19 #[.agg #[.int .i64 K, .int .i64 I, .int .i64 A, .int .i64 B, .slice ao n c]] w fun e w' => ∃ ao' cap, e = .returned (.slice ao' P.length cap) ∧
      w'.ownsRow w.heap.size 5 1 (.slice ao' P.length cap) P.length (cB P) ∧ Row w' ao' P.length cap P ∧ Below w.heap.size w w' := by
  have HBX : Hid (∀ W, Below (w.alloc (.cells #[.int .i64 K, .int .i64 I, .int .i64 A, .int .i64 B, .slice ao n c] 26)).heap.size (w.alloc (.cells #[.int .i64 K, .int .i64 I, .int .i64 A, .int .i64 B, .slice ao n c] 26)) W → _) := fun W h => (cells5 (kept_block (block_last w _) h)).1
  have q0 := below_one w (.cells #[.int .i64 K, .int .i64 I, .int .i64 A, .int .i64 B, .slice ao n c] 26)
  have rb := hl.below q0
  cases hk : okP K I A B (l.map BI.d)
  · have e : putP K I A B (l.map BI.d) = [] := by unfold putP; rw [if_neg (by simp [hk])]
    rw [e] at hP
    subst hP
    have HK := hide hk
    clear hk e
    go_enter Tryz.func19, Tryz.ntmps19
    go_wp2_with fail
    generalize (w.alloc (.cells #[.int .i64 K, .int .i64 I, .int .i64 A, .int .i64 B, .slice ao n c] 26)) = wb at *
    refine (implPduOk_any K I A B ao n c l _ rb).mono ?_
    rintro e w1 ⟨rfl, u1⟩
    rw [HK.out]
    go_wp2
    go_ret
    exact ⟨_, _, rfl, World.ownsRow_nil _ _ _ _, row_nil _, q0.trans (u1.mono q0.size)⟩
  · obtain ⟨hok, hn⟩ := okP_binds hk
    rw [hl.size] at hn
    have hQl : (putBs [] (l.map BI.d)).length ≤ 730 := by
      have hs := hl.size
      have h1 := oks_take hok n
      rw [List.take_of_length_le (by omega)] at h1
      have h2 := flatB_length h1
      rw [← okBs_flat h1] at h2
      simp only [List.length_map] at h2
      omega
    by_cases hq : (putBs [] (l.map BI.d)).length ≤ 250
    · rw [putP_impl hk hq] at hP
      rw [bodyP_eq hq] at hP
      have hi1 := putInt_length I
      have hi2 := putInt_length A
      have hi3 := putInt_length B
      generalize hQ : putBs [] (l.map BI.d) = Q at *
      have e1 : putTlv [] 2 (putInt I) = numB I := by rw [put_part (numB_ok I)]; rfl
      have e2 : putTlv [] 2 (putInt A) = numB A := by rw [put_part (numB_ok A)]; rfl
      have e3 : putTlv [] 2 (putInt B) = numB B := by rw [put_part (numB_ok B)]; rfl
      have e4 : putTlv [] 48 Q = tlvB 48 Q := by rw [put_part (by unfold TlvOk; omega)]; rfl
      have l1 : (numB I).length ≤ 300 := by rw [← e1]; have := putTlv_length [] 2 (putInt I); simp at this; omega
      have l2 : (numB A).length ≤ 300 := by rw [← e2]; have := putTlv_length [] 2 (putInt A); simp at this; omega
      have l3 : (numB B).length ≤ 300 := by rw [← e3]; have := putTlv_length [] 2 (putInt B); simp at this; omega
      have l4 : (tlvB 48 Q).length ≤ 1000 := by rw [← e4]; have := putTlv_length [] 48 Q; simp at this; omega
      generalize numB I = N1 at *
      generalize numB A = N2 at *
      generalize numB B = N3 at *
      generalize tlvB 48 Q = N4 at *
      have hl5 : (N1 ++ (N2 ++ (N3 ++ N4))).length ≤ 10000 := by simp only [List.length_append]; omega
      generalize hN : N1 ++ (N2 ++ (N3 ++ N4)) = N5 at *
      have EN := hide hN
      have HK := hide hk
      have HQ := hide hQ
      have HP := hide hP
      clear hN
      have E1 := hide e1
      have E2 := hide e2
      have E3 := hide e3
      have E4 := hide e4
      clear hk hQ hP e1 e2 e3 e4
      go_enter Tryz.func19, Tryz.ntmps19
      go_wp2_with fail
      generalize (w.alloc (.cells #[.int .i64 K, .int .i64 I, .int .i64 A, .int .i64 B, .slice ao n c] 26)) = wb at *
      refine (implPduOk_any K I A B ao n c l _ rb).mono ?_
      rintro e w0 ⟨rfl, u0⟩
      rw [HK.out]
      obtain ⟨x0, x1, x2, x3, x4⟩ := HBX.out _ u0
      go_wp2_with fail
      refine (implBinds_made ao n c l Q HQ.out _ (rb.below u0) hok hn).mono ?_
      rintro e w1 ⟨ao1, cp1, rfl, -, rq, hb1⟩
      have u1 := u0.trans (hb1.mono u0.size)
      clear x0 x1 x2 x3 x4 u0 hb1
      obtain ⟨x0, x1, x2, x3, x4⟩ := HBX.out _ u1
      go_wp2_with fail
      go_region_held3 (fun W => (W.cell? ⟨w.heap.size, 0, none⟩ = some (.int .i64 K) ∧ W.cell? ⟨w.heap.size, 1, none⟩ = some (.int .i64 I) ∧ W.cell? ⟨w.heap.size, 2, none⟩ = some (.int .i64 A) ∧ W.cell? ⟨w.heap.size, 3, none⟩ = some (.int .i64 B) ∧ W.cell? ⟨w.heap.size, 4, none⟩ = some (.slice ao n c))) (first | exact HBX.out _ (u1.trans (v7.mono u1.size)) | exact HBX.out _ (u1.trans (v6.mono u1.size)) | exact HBX.out _ (u1.trans (v5.mono u1.size)) | exact HBX.out _ (u1.trans (v4.mono u1.size)) | exact HBX.out _ (u1.trans (v3.mono u1.size)) | exact HBX.out _ (u1.trans (v2.mono u1.size)) | go_keep) (first
        | (go_at_call 22; have v3' := v3; refine (numPart_made B N3 E3.out _).mono ?_; rintro e w4 ⟨ao4, cp4, rfl, -, r4, hb4⟩; have v4 := v3.trans (hb4.mono v3.size))
        | (go_at_call 22; have v2' := v2; refine (numPart_made A N2 E2.out _).mono ?_; rintro e w3 ⟨ao3, cp3, rfl, -, r3, hb3⟩; have v3 := v2.trans (hb3.mono v2.size))
        | (go_at_call 22; refine (numPart_made I N1 E1.out _).mono ?_; rintro e w2 ⟨ao2, cp2, rfl, -, r2, hb2⟩; have v2 : Below w1.heap.size w1 w2 := (Below.refl _ w1).drew.trans hb2)
        | (go_at_call 20; have v6' := v6; refine (implTlv_made _ _ _ [] K _ _ _ N5 P HP.out _ (row_nil _) r6 (by omega)).mono ?_; rintro e w7 ⟨ao7, cp7, rfl, ho7, r7, hb7⟩; have v7 := v6.trans (hb7.mono v6.size))
        | (go_at_call 20; refine (implTlv_made _ _ _ [] 48 _ _ _ Q N4 E4.out _ (row_nil _) (rq.below v4) (by omega)).mono ?_; rintro e w5 ⟨ao5, cp5, rfl, -, r5, hb5⟩; have v5 := v4.trans (hb5.mono v4.size))
        | (go_at_call 21; refine (pieces3_made _ _ N1 _ _ N2 _ _ N3 _ _ N4 N5 EN.out hl5 w5 _ (((r2.below hb3).below hb4).below hb5) ((r3.below hb4).below hb5) (r4.below hb5) r5).mono ?_; rintro e w6 ⟨ao6, cp6, rfl, r6, hb6⟩; have v6 := v5.trans (hb6.mono v5.size)))
      have bw := q0.trans (u1.mono q0.size)
      have HO := hide (own_lt ho7 (Nat.le_trans bw.size v6.size))
      have HB := hide (bw.trans (v7.mono bw.size))
      clear x0 x1 x2 x3 x4 r2 r3 r4 r5 r6 hb2 hb3 hb4 hb5 hb6 hb7 v2 v3 v4 v5 v6 v7 ho7 bw
      go_wp2
      go_ret
      exact ⟨_, _, rfl, HO.out, r7, HB.out⟩
    · have e : putP K I A B (l.map BI.d) = [] := by unfold putP; rw [if_neg (fun h => hq h.2.1)]
      rw [e] at hP
      subst hP
      generalize hQ : putBs [] (l.map BI.d) = Q at *
      have HK := hide hk
      have HQ := hide hQ
      clear hk e hQ
      go_enter Tryz.func19, Tryz.ntmps19
      go_wp2_with fail
      generalize (w.alloc (.cells #[.int .i64 K, .int .i64 I, .int .i64 A, .int .i64 B, .slice ao n c] 26)) = wb at *
      refine (implPduOk_any K I A B ao n c l _ rb).mono ?_
      rintro e w0 ⟨rfl, u0⟩
      rw [HK.out]
      obtain ⟨x0, x1, x2, x3, x4⟩ := HBX.out _ u0
      go_wp2_with fail
      refine (implBinds_made ao n c l Q HQ.out _ (rb.below u0) hok hn).mono ?_
      rintro e w1 ⟨ao1, cp1, rfl, -, rq, hb1⟩
      have u1 := u0.trans (hb1.mono u0.size)
      clear x0 x1 x2 x3 x4 u0 hb1
      go_wp2
      go_ret
      exact ⟨_, _, rfl, World.ownsRow_nil _ _ _ _, row_nil _, q0.trans (u1.mono q0.size)⟩

end Go.Proofs.YtamglfhnhjgdjaaGreatDoor
