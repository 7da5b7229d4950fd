/-
  The bytes of a request, by contracts: binds, numbers, the whole; the specification's functions and the program's.
-/
import Derived.Test.YtamglfhnhjgdjaaPduOk
import Derived.Test.YtamglfhnhjgdjaaValPutMade
namespace Go.Proofs.Ytamglfhnhjgdjaa
open Go.RowKit

theorem putBs_snoc (bs : List BD) (x : BD) : ∀ b, putBs b (bs ++ [x]) = putTlv (putBs b bs) 48 (putB x) := by
  induction bs with
  | nil => intro b; rfl
  | cons y r ih => intro b; exact ih _

theorem okBs_flat {bs : List BD} (h : ∀ x ∈ bs, okB x = true) : putBs [] bs = flatB bs := by rw [putBs_append bs [] (fun x hx => putB_ok48 (h x hx))]; rfl

theorem flatB_length {bs : List BD} (h : ∀ x ∈ bs, okB x = true) : (flatB bs).length ≤ 73 * bs.length := by
  induction bs with
  | nil => simp [flatB]
  | cons x r ih =>
    have h1 := putB_small (h x (List.mem_cons_self ..))
    have h2 := ih (fun y hy => h y (List.mem_cons_of_mem _ hy))
    have h3 := lenB_le (putB x).length
    rw [flatB_cons, List.length_append, List.length_cons]
    unfold tlvB
    simp only [List.length_append, List.length_cons, List.length_nil]
    omega

theorem putB_byte (x : BD) : Byt (putB x) := putV_byte _ _ _ _ _ (putTlv_byte _ _ _ byte_nil (put_byte _))
theorem putBs_byte (bs : List BD) : ∀ b, Byt b → Byt (putBs b bs) := by
  induction bs with
  | nil => intro b h; exact h
  | cons x r ih => intro b h; exact ih _ (putTlv_byte _ _ _ h (putB_byte x))

theorem oks_take {l : List BI} (h : oks l = true) (k : Nat) : ∀ x ∈ (l.take k).map BI.d, okB x = true := by
  intro x hx
  obtain ⟨y, hy, rfl⟩ := List.mem_map.1 hx
  unfold oks at h
  exact List.all_eq_true.1 h y (List.mem_of_mem_take hy)

theorem empty_row (w : World) (b : Nat) : Row w (some ⟨b, 0, none⟩) 0 0 [] := ⟨rfl, Nat.le_refl _, Nat.zero_le _, (by intro h; cases h), byte_nil, .inl rfl⟩

/-- The bytes of the first k binds are there. -/
def BytesAt (w : World) (wr : World) (l : List BI) (k : Nat) (b : Value) : Prop :=
  ∃ ao cap, b = .slice ao (putBs [] ((l.take k).map BI.d)).length cap ∧ wr.ownsRow w.heap.size 5 1 b (putBs [] ((l.take k).map BI.d)).length (cB (putBs [] ((l.take k).map BI.d)))

theorem bytes_next {l : List BI} {k : Nat} {x : BI} (h : l[k]? = some x) : putBs [] ((l.take (k + 1)).map BI.d) = putTlv (putBs [] ((l.take k).map BI.d)) 48 (putB x.d) := by
  rw [take_one h, List.map_append, List.map_singleton, putBs_snoc]

set_option maxRecDepth 100000 in
set_option maxHeartbeats 2000000 in
theorem specBinds_made (ao : Option Addr) (n c : Nat) (l : List BI) (P : List Int) (hP : putBs [] (l.map BI.d) = P) (w : World) (hl : BRow w ao n c l) (hok : oks l = true) (hn : n ≤ 10) :
    Calls Try.prog 54 #[.slice ao n c] w fun e w' => ∃ ao' cap, e = .returned (.slice ao' P.length cap) ∧
      w'.ownsRow w.heap.size 5 1 (.slice ao' P.length cap) P.length (cB P) ∧ Row w' ao' P.length cap P ∧ Below w.heap.size w w' := by
  have hs := hl.size
  have HP := hide hP
  clear hP
  go_enter Try.func54, Try.ntmps54
  go_wp2
  go_loopw [3, 4] (fun b i wr => ∃ k : Nat, k ≤ n ∧ i = .int .i64 k ∧ BytesAt w wr l k b ∧ Below w.heap.size w wr) (fun _ i _ => n - (intOf i).toNat)
  case atStart => exact ⟨0, Nat.zero_le _, rfl, ⟨_, _, rfl, World.ownsRow_lit w #[] 0 (Nat.le_refl _) (Nat.zero_le _) rfl⟩, below_one _ _⟩
  case round =>
    obtain ⟨k, hk, rfl, ⟨bo, bc, rfl, hown⟩, hb⟩ := hrel
    have hpl := flatB_length (oks_take hok k)
    rw [← okBs_flat (oks_take hok k)] at hpl
    simp only [List.length_map, List.length_take] at hpl
    by_cases hlt : k < n
    · obtain ⟨x, b, off, hx, rfl, hat, hin⟩ := (hl.below hb).at k hlt
      have hnx := bytes_next hx
      have hxo : okB x.d = true := by unfold oks at hok; exact List.all_eq_true.1 hok x (List.mem_of_getElem? hx)
      have hsm := putB_small hxo
      have rb := row_own hown (putBs_byte _ _ byte_nil)
      generalize hQ : putBs [] ((l.take k).map BI.d) = Q at *
      have HNX := hide hnx
      have CX : Hid (∀ W, Below wr.heap.size wr W → _) := fun W h => (show x.At wr b (off + k * 5) from hat).below h
      have HB := hide hb
      have HOWN := hide hown
      clear hnx hQ hx hb hown
      obtain ⟨a0, a1, a2, a3, a4⟩ := hat
      have hol : (putO x.o).length ≤ 1000 := by have := put_length x.o; omega
      generalize hO : putO x.o = Oz at hol
      generalize hR : putTlv [] 6 Oz = R
      generalize hT : putV R x.K x.N x.S x.z = T
      have hTd : putB x.d = T := by rw [← hT, ← hR, ← hO]; rfl
      rw [hTd] at hsm
      have hRl : R.length ≤ 1100 := by rw [← hR]; have := putTlv_length [] 6 Oz; simp at this; omega
      have HR := hide hR
      have HO := hide hO
      have HT := hide hT
      have HTD := hide hTd
      have hSs := hin.s
      have HNX2 : Hid (putTlv Q 48 T = putBs [] ((l.take (k + 1)).map BI.d)) := hide (by rw [HNX.out, hTd])
      generalize hQ2 : putBs [] ((l.take (k + 1)).map BI.d) = Q2 at HNX2
      have HQ2 := hide hQ2
      clear hQ2
      clear hR hT hTd hO HNX
      go_wp2_with fail
      go_region_held3 (fun W => W.cell? ⟨b, off + k * 5, none⟩ = some (.slice x.oa x.on x.oc) ∧ W.cell? ⟨b, off + k * 5 + 1, none⟩ = some (.int .i64 x.K) ∧ W.cell? ⟨b, off + k * 5 + 2, none⟩ = some (.int .i64 x.N) ∧ W.cell? ⟨b, off + k * 5 + 3, none⟩ = some (.string x.S) ∧ W.cell? ⟨b, off + k * 5 + 4, none⟩ = some (.slice x.za x.zn x.zc)) (first | exact CX.out _ u3 | exact CX.out _ u2 | exact CX.out _ u1 | go_keep) (first
        | (go_at_call 67; refine (specPut_made x.oa x.on x.oc x.o Oz HO.out _ (hin.o.below (below_one _ _).drew)).mono ?_; rintro e w1 ⟨ao1, cp1, rfl, -, r1, hb1⟩; have u1 := (below_one wr (.cells #[] 5)).drew.trans (hb1.mono (by simp)))
        | (go_at_call 67; refine (specPut_made x.oa x.on x.oc x.o Oz HO.out _ (hin.o.below (Below.refl _ _).drew)).mono ?_; rintro e w1 ⟨ao1, cp1, rfl, -, r1, hb1⟩; have u1 : Below wr.heap.size wr w1 := (Below.refl _ wr).drew.trans hb1)
        | (go_at_call 38; refine (specTlv_made _ _ _ [] 6 _ _ _ Oz R HR.out _ (empty_row _ _) r1 (by omega)).mono ?_; rintro e w2 ⟨ao2, cp2, rfl, -, r2, hb2⟩; have u2 := u1.trans (hb2.mono u1.size))
        | (go_at_call 38; refine (specTlv_made _ _ _ [] 6 _ _ _ Oz R HR.out _ (empty_row _ _) (r1.below (below_one _ _)) (by omega)).mono ?_; rintro e w2 ⟨ao2, cp2, rfl, -, r2, hb2⟩; have u1' := u1.trans ((below_one w1 (.cells #[] 5)).mono u1.size); have u2 := u1'.trans (hb2.mono u1'.size))
        | (go_at_call 66; refine (specPutVal_made _ _ _ R x.K x.N x.S _ _ _ x.z T HT.out _ r2 hSs (hin.z.below u2) (by omega)).mono ?_; rintro e w3 ⟨ao3, cp3, rfl, -, r3, hb3⟩; have u3 := u2.trans (hb3.mono u2.size)))
      all_goals
        clear a0 a1 a2 a3 a4 r1 r2 hb1 hb2 hb3 u1 u2
        go_wp2_with fail
        refine (specTlv_made _ _ _ Q 48 _ _ _ T Q2 HNX2.out _ (rb.below u3) r3 (by omega)).mono ?_
        rintro e w4 ⟨ao4, cp4, rfl, ho4, r4, hb4⟩
        have b3 := HB.out.trans (u3.mono HB.out.size)
        have HB4 := hide (b3.trans (hb4.mono b3.size))
        have HO4 := hide (own_lt ho4 b3.size)
        clear u3 r3 hb4 ho4 r4 b3
        go_wp2
        go_roundw
        case rel => exact ⟨k + 1, by omega, by go_num, by unfold BytesAt; rw [HQ2.out]; exact ⟨_, _, rfl, HO4.out⟩, HB4.out⟩
        case measure => simp [intOf]; omega
    · have hk' : k = n := by omega
      subst hk'
      have hr := row_own hown (putBs_byte _ _ byte_nil)
      rw [List.take_of_length_le (by omega), HP.out] at hown hr ⊢
      go_wp2
      go_ret
      exact ⟨_, _, rfl, hown, hr, hb⟩

end Go.Proofs.Ytamglfhnhjgdjaa
