/-
  The bytes of binds and of a number, as the program makes them.
-/
import Derived.Test.YtamglfhnhjgdjaaPduPut
namespace Go.Proofs.Ytamglfhnhjgdjaa
open Go.RowKit

set_option maxRecDepth 100000 in
set_option maxHeartbeats 2000000 in
theorem implBinds_made (ao : Option Addr) (n c : Nat) (l : List BI) (P : List Int) (hP : putBs [] (l.map BI.d) = P) (w : World) (hl : BRow w ao n c l) (hok : oks l = true) (hn : n ≤ 10) :
    Calls Try.prog 39 #[.slice ao n c] w fun e w' => ∃ ao' cap, e = .returned (.slice ao' P.length cap) ∧
      w'.ownsRow w.heap.size 5 1 (.slice ao' P.length cap) P.length (cB P) ∧ Row w' ao' P.length cap P ∧ Below w.heap.size w w' := by
  have hs := hl.size
  have HP := hide hP
  clear hP
  go_enter Try.func39, Try.ntmps39
  go_wp2
  go_loopw [3, 8] (fun b i wr => ∃ k : Nat, k ≤ n ∧ i = .int .i64 k ∧ BytesAt w wr l k b ∧ Below w.heap.size w wr) (fun _ i _ => n - (intOf i).toNat)
  case atStart => exact ⟨0, Nat.zero_le _, rfl, ⟨_, _, rfl, World.ownsRow_nil _ _ _ _⟩, Below.refl _ _⟩
  case round =>
    obtain ⟨k, hk, rfl, ⟨bo, bc, rfl, hown⟩, hb⟩ := hrel
    have hpl := flatB_length (oks_take hok k)
    rw [← okBs_flat (oks_take hok k)] at hpl
    simp only [List.length_map, List.length_take] at hpl
    by_cases hlt : k < n
    · obtain ⟨x, b, off, hx, rfl, hat, hin⟩ := (hl.below hb).at k hlt
      have hnx := bytes_next hx
      have hxo : okB x.d = true := by unfold oks at hok; exact List.all_eq_true.1 hok x (List.mem_of_getElem? hx)
      have hsm := putB_small hxo
      have rb := row_own hown (putBs_byte _ _ byte_nil)
      generalize hQ : putBs [] ((l.take k).map BI.d) = Q at *
      have HNX := hide hnx
      have HB := hide hb
      clear hnx hQ hx hb hown
      obtain ⟨a0, a1, a2, a3, a4⟩ := hat
      have hol : (putO x.o).length ≤ 1000 := by have := put_length x.o; omega
      generalize hO : putO x.o = Oz at hol
      generalize hR : putTlv [] 6 Oz = R
      generalize hT : putV R x.K x.N x.S x.z = T
      have hTd : putB x.d = T := by rw [← hT, ← hR, ← hO]; rfl
      rw [hTd] at hsm
      have hRl : R.length ≤ 1100 := by rw [← hR]; have := putTlv_length [] 6 Oz; simp at this; omega
      have HR := hide hR
      have HO := hide hO
      have HT := hide hT
      have hSs := hin.s
      have HNX2 : Hid (putTlv Q 48 T = putBs [] ((l.take (k + 1)).map BI.d)) := hide (by rw [HNX.out, hTd])
      generalize hQ2 : putBs [] ((l.take (k + 1)).map BI.d) = Q2 at HNX2
      have HQ2 := hide hQ2
      clear hR hT hTd hO HNX hQ2
      have CX : Hid (∀ W, Below (wr.alloc (.cells #[.slice x.oa x.on x.oc, .int .i64 x.K, .int .i64 x.N, .string x.S, .slice x.za x.zn x.zc] 47)).heap.size (wr.alloc (.cells #[.slice x.oa x.on x.oc, .int .i64 x.K, .int .i64 x.N, .string x.S, .slice x.za x.zn x.zc] 47)) W → _) := fun W h => (cells5 (kept_block (block_last wr _) h)).1
      have q0 := below_one wr (.cells #[.slice x.oa x.on x.oc, .int .i64 x.K, .int .i64 x.N, .string x.S, .slice x.za x.zn x.zc] 47)
      have ro := hin.o.below q0
      have rz := hin.z.below q0
      have rb := rb.below q0
      go_wp2_with fail
      obtain ⟨x0, x1, x2, x3, x4⟩ := CX.out _ (Below.refl _ _)
      generalize (wr.alloc (.cells #[.slice x.oa x.on x.oc, .int .i64 x.K, .int .i64 x.N, .string x.S, .slice x.za x.zn x.zc] 47)) = wb at *
      clear a0 a1 a2 a3 a4 hin
      go_region_held3 (fun W => W.cell? ⟨wr.heap.size, 0, none⟩ = some (.slice x.oa x.on x.oc) ∧ W.cell? ⟨wr.heap.size, 1, none⟩ = some (.int .i64 x.K) ∧ W.cell? ⟨wr.heap.size, 2, none⟩ = some (.int .i64 x.N) ∧ W.cell? ⟨wr.heap.size, 3, none⟩ = some (.string x.S) ∧ W.cell? ⟨wr.heap.size, 4, none⟩ = some (.slice x.za x.zn x.zc)) (first | exact CX.out _ u4 | exact CX.out _ u3 | exact CX.out _ u2 | exact CX.out _ u1 | go_keep) (first
        | (go_at_call 57; refine (implPut_made x.oa x.on x.oc x.o Oz HO.out _ (ro.below (below_drewN (Below.refl _ _) _))).mono ?_; rintro e w1 ⟨ao1, cp1, rfl, -, r1, hb1⟩; have u1 := undrew hb1)
        | (go_at_call 40; have u3' := u3; refine (implTlv_made _ _ _ Q 48 _ _ _ T Q2 HNX2.out _ (rb.below u3) r3 (by omega)).mono ?_; rintro e w4 ⟨ao4, cp4, rfl, ho4, r4, hb4⟩; have u4 := u3.trans (hb4.mono u3.size))
        | (go_at_call 40; refine (implTlv_made _ _ _ [] 6 _ _ _ Oz R HR.out _ (row_nil _) r1 (by omega)).mono ?_; rintro e w2 ⟨ao2, cp2, rfl, -, r2, hb2⟩; have u2 := u1.trans (hb2.mono u1.size))
        | (go_at_call 56; refine (implPutVal_made _ _ _ R x.K x.N x.S _ _ _ x.z T HT.out _ r2 hSs (rz.below u2) (by omega)).mono ?_; rintro e w3 ⟨ao3, cp3, rfl, -, r3, hb3⟩; have u3 := u2.trans (hb3.mono u2.size)))
      have bb := HB.out.trans (q0.mono HB.out.size)
      have b3 := bb.trans (u3.mono bb.size)
      have HB4 := hide (b3.trans (hb4.mono b3.size))
      have HO4 := hide (own_lt ho4 b3.size)
      clear x0 x1 x2 x3 x4 r1 r2 hb1 hb2 hb3 u1 u2 u3 u4 r3 hb4 ho4 r4 b3 bb
      go_wp2
      go_roundw
      case rel => exact ⟨k + 1, by omega, by go_num, by unfold BytesAt; rw [HQ2.out]; exact ⟨_, _, rfl, HO4.out⟩, HB4.out⟩
      case measure => simp [intOf]; omega
    · have hk' : k = n := by omega
      subst hk'
      have hr := row_own hown (putBs_byte _ _ byte_nil)
      rw [List.take_of_length_le (by omega), HP.out] at hown hr ⊢
      go_wp2
      go_ret
      exact ⟨_, _, rfl, hown, hr, hb⟩

set_option maxRecDepth 100000 in
set_option maxHeartbeats 400000 in
theorem numPart_made (m : Int) (P : List Int) (hP : putTlv [] 2 (putInt m) = P) (w : World) :
    Calls Try.prog 42 #[.int .i64 m] w fun e w' => ∃ ao cap, e = .returned (.slice ao P.length cap) ∧
      w'.ownsRow w.heap.size 5 1 (.slice ao P.length cap) P.length (cB P) ∧ Row w' ao P.length cap P ∧ Below w.heap.size w w' := by
  have hl := putInt_length m
  generalize hI : putInt m = Iz at *
  have HI := hide hI
  have HP := hide hP
  clear hI hP
  go_enter Try.func42, Try.ntmps42
  go_wp2_with fail
  refine (implInt_made m Iz HI.out _).mono ?_
  rintro e w1 ⟨ao1, cp1, rfl, -, r1, hb1⟩
  go_wp2_with fail
  refine (implTlv_made _ _ _ [] 2 _ _ _ Iz P HP.out _ (row_nil _) r1 (by omega)).mono ?_
  rintro e w2 ⟨ao2, cp2, rfl, ho2, r2, hb2⟩
  go_wp2
  go_ret
  exact ⟨_, _, rfl, own_lt ho2 hb1.size, r2, hb1.trans (hb2.mono hb1.size)⟩

end Go.Proofs.Ytamglfhnhjgdjaa
