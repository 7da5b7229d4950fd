/-
  Whether a request is right, by the specification.
-/
import Derived.Test.YtamglfhnhjgdjaaGreatDoorPduOk
namespace Go.Proofs.YtamglfhnhjgdjaaGreatDoor
open Go.RowKit

theorem oks_snoc (a : List BI) (x : BI) : oks (a ++ [x]) = (oks a && okB x.d) := by simp [oks]

theorem okP_bad {K I A B : Int} {l : List BI} (h : oks l = false) : okP K I A B (l.map BI.d) = false := by unfold okP; rw [oks_map, h]; rfl

theorem okP_good {K I A B : Int} {l : List BI} {n : Nat} (hn : l.length = n) (h : oks l = true) :
    okP K I A B (l.map BI.d) = (decide (K = 162 ∨ K = 165 ∨ (A = 0 ∧ B = 0)) && (kindOk K && ((clip I == I) && ((decide (0 ≤ A) && decide (A ≤ 1000)) && ((decide (0 ≤ B) && decide (B ≤ 1000)) && decide ((n : Int) ≤ 10)))))) := by
  unfold okP
  rw [oks_map, h, Bool.true_and, clip_is, List.length_map, hn]
  have e1 : ∀ x : Int, decide (0 ≤ x ∧ x ≤ 1000) = (decide (0 ≤ x) && decide (x ≤ 1000)) := fun x => by rw [Bool.eq_iff_iff]; simp
  have e2 : decide (n ≤ 10) = decide ((n : Int) ≤ 10) := by rw [Bool.eq_iff_iff]; simp; omega
  rw [e1, e1, e2]

/-- The last line of the specification's PduOk, at whatever is decided. -/
def tailOk (K I A B : Int) (n : Nat) : Bool := kindOk K && ((clip I == I) && ((decide (0 ≤ A) && decide (A ≤ 1000)) && ((decide (0 ≤ B) && decide (B ≤ 1000)) && decide ((n : Int) ≤ 10))))

set_option maxRecDepth 100000 in
set_option maxHeartbeats 4000000 in
theorem specPduOk_any (K I A B : Int) (ao : Option Addr) (n c : Nat) (l : List BI) (w : World) (hl : BRow w ao n c l) :
    Calls Tryz.prog 47 #[.agg #[.int .i64 K, .int .i64 I, .int .i64 A, .int .i64 B, .slice ao n c]] w fun e w' => e = .returned (.bool (okP K I A B (l.map BI.d))) ∧ Below w.heap.size w w' := by
  have hs := hl.size
  have htop := Nat.le_trans hl.le hl.top
  unfold maxLen at htop
  generalize hP : okP K I A B (l.map BI.d) = P
  have HP := hide hP
  clear hP
  have HBX : Hid (∀ W, Below (w.alloc (.cells #[.int .i64 K, .int .i64 I, .int .i64 A, .int .i64 B, .slice ao n c] 26)).heap.size (w.alloc (.cells #[.int .i64 K, .int .i64 I, .int .i64 A, .int .i64 B, .slice ao n c] 26)) W → _) := fun W h => (cells5 (kept_block (block_last w _) h)).1
  have q0 := below_one w (.cells #[.int .i64 K, .int .i64 I, .int .i64 A, .int .i64 B, .slice ao n c] 26)
  go_enter Tryz.func47, Tryz.ntmps47
  go_wp2
  have hstart := Below.refl (w.alloc (.cells #[.int .i64 K, .int .i64 I, .int .i64 A, .int .i64 B, .slice ao n c] 26)).heap.size (w.alloc (.cells #[.int .i64 K, .int .i64 I, .int .i64 A, .int .i64 B, .slice ao n c] 26))
  generalize hwb : (w.alloc (.cells #[.int .i64 K, .int .i64 I, .int .i64 A, .int .i64 B, .slice ao n c] 26)) = wb at *
  clear hwb
  go_loopw [3] (fun i wr => ∃ k : Nat, k ≤ n ∧ i = .int .i64 k ∧ oks (l.take k) = true ∧ Below wb.heap.size wb wr) (fun i _ => n - (intOf i).toNat)
  case atStart => exact ⟨0, Nat.zero_le _, rfl, by simp [oks], hstart⟩
  case round =>
    obtain ⟨k, hk, rfl, hok, hb⟩ := hrel
    obtain ⟨x0, x1, x2, x3, x4⟩ := HBX.out wr hb
    have HOK := hide hok
    clear hok hstart
    by_cases hlt : k < n
    · have hbw := q0.trans (hb.mono q0.size)
      obtain ⟨x, b, off, hx, rfl, ⟨a0, a1, a2, a3, a4⟩, hin⟩ := (hl.below hbw).at k hlt
      have HX := hide hx
      have HB := hide hb
      clear hx hb hbw
      cases ho : oidOk x.o
      · have HO := hide ho
        clear ho
        go_wp2_with fail
        refine (specOk_any x.oa x.on x.oc x.o _ hin.o).mono ?_
        rintro e w1 ⟨rfl, rfl⟩
        rw [HO.out]
        go_wp2
        go_ret
        exact ⟨ret_bool (by rw [← HP.out, okP_bad (oks_no HX.out (by simp [okB, BI.d, HO.out]))]), q0.trans (HB.out.mono q0.size)⟩
      · have HO := hide ho
        clear ho
        go_wp2_with fail
        refine (specOk_any x.oa x.on x.oc x.o _ hin.o).mono ?_
        rintro e w1 ⟨rfl, rfl⟩
        rw [HO.out]
        go_wp2_with fail
        refine (specValOk_any x.K x.N x.S x.za x.zn x.zc x.z _ hin.z).mono ?_
        rintro e w2 ⟨rfl, hb2⟩
        have b2 := HB.out.trans (hb2.mono HB.out.size)
        clear a0 a1 a2 a3 a4 x0 x1 x2 x3 x4 hb2
        cases hv : okV x.K x.N x.S x.z
        · have HV := hide hv
          clear hv
          go_wp2
          go_ret
          exact ⟨ret_bool (by rw [← HP.out, okP_bad (oks_no HX.out (by simp [okB, BI.d, HV.out]))]), q0.trans (b2.mono q0.size)⟩
        · have HV := hide hv
          clear hv
          go_wp2
          go_roundw
          case rel => exact ⟨k + 1, by omega, by go_num, by rw [take_one HX.out, oks_snoc, HOK.out]; simp [okB, BI.d, HV.out, HO.out], b2⟩
          case measure => simp [intOf]; omega
    · have hk' : k = n := by omega
      subst hk'
      have hall : oks l = true := by have := HOK.out; rwa [List.take_of_length_le (by omega)] at this
      have HG := hide (okP_good (K := K) (I := I) (A := A) (B := B) hs hall)
      have hbw := q0.trans (hb.mono q0.size)
      have HBW := hide hbw
      clear hbw hb HOK hall
      have hways : ((K != 162) = false ∧ decide (K = 162 ∨ K = 165 ∨ (A = 0 ∧ B = 0)) = true) ∨ ((K != 162) = true ∧ (K != 165) = false ∧ decide (K = 162 ∨ K = 165 ∨ (A = 0 ∧ B = 0)) = true) ∨ ((K != 162) = true ∧ (K != 165) = true ∧ (A != 0) = true ∧ decide (K = 162 ∨ K = 165 ∨ (A = 0 ∧ B = 0)) = false) ∨ ((K != 162) = true ∧ (K != 165) = true ∧ (A != 0) = false ∧ (B != 0) = true ∧ decide (K = 162 ∨ K = 165 ∨ (A = 0 ∧ B = 0)) = false) ∨ ((K != 162) = true ∧ (K != 165) = true ∧ (A != 0) = false ∧ (B != 0) = false ∧ decide (K = 162 ∨ K = 165 ∨ (A = 0 ∧ B = 0)) = true) := by
        by_cases c1 : K = 162
        · exact .inl (by simp [c1])
        · by_cases c2 : K = 165
          · exact .inr (.inl (by simp [c2]))
          · by_cases c3 : A = 0
            · by_cases c4 : B = 0
              · exact .inr (.inr (.inr (.inr (by simp [c1, c2, c3, c4]))))
              · exact .inr (.inr (.inr (.inl (by simp [c1, c2, c3, c4]))))
            · exact .inr (.inr (.inl (by simp [c1, c2, c3])))
      rcases hways with ⟨h1, hd⟩ | ⟨h1, h2, hd⟩ | ⟨h1, h2, h3, hd⟩ | ⟨h1, h2, h3, h4, hd⟩ | ⟨h1, h2, h3, h4, hd⟩
      · have HD := hide hd
        clear hd
        cases t1 : kindOk K
        · go_wp2_with fail
          go_quiet (first | (go_at_call 72; refine Calls.quiet_of_same (kind_any K _)) | (go_at_call 50; refine Calls.quiet_of_same (clip_any I _)) | (go_at_call_of 49 (Value.int IntKind.i64 A); refine Calls.quiet_of_same (in_any A 0 1000 _)) | (go_at_call_of 49 (Value.int IntKind.i64 B); refine Calls.quiet_of_same (in_any B 0 1000 _)))
          go_wp2
          go_ret
          exact ⟨ret_bool (by rw [← HP.out, HG.out, HD.out]; simp [t1]), below_drewN HBW.out _⟩
        cases t2 : (clip I == I)
        · go_wp2_with fail
          go_quiet (first | (go_at_call 72; refine Calls.quiet_of_same (kind_any K _)) | (go_at_call 50; refine Calls.quiet_of_same (clip_any I _)) | (go_at_call_of 49 (Value.int IntKind.i64 A); refine Calls.quiet_of_same (in_any A 0 1000 _)) | (go_at_call_of 49 (Value.int IntKind.i64 B); refine Calls.quiet_of_same (in_any B 0 1000 _)))
          go_wp2
          go_ret
          exact ⟨ret_bool (by rw [← HP.out, HG.out, HD.out]; simp [t1, t2]), below_drewN HBW.out _⟩
        cases t3 : (decide (0 ≤ A) && decide (A ≤ 1000))
        · go_wp2_with fail
          go_quiet (first | (go_at_call 72; refine Calls.quiet_of_same (kind_any K _)) | (go_at_call 50; refine Calls.quiet_of_same (clip_any I _)) | (go_at_call_of 49 (Value.int IntKind.i64 A); refine Calls.quiet_of_same (in_any A 0 1000 _)) | (go_at_call_of 49 (Value.int IntKind.i64 B); refine Calls.quiet_of_same (in_any B 0 1000 _)))
          go_wp2
          go_ret
          exact ⟨ret_bool (by rw [← HP.out, HG.out, HD.out]; simp [t1, t2, t3]), below_drewN HBW.out _⟩
        cases t4 : (decide (0 ≤ B) && decide (B ≤ 1000))
        · go_wp2_with fail
          go_quiet (first | (go_at_call 72; refine Calls.quiet_of_same (kind_any K _)) | (go_at_call 50; refine Calls.quiet_of_same (clip_any I _)) | (go_at_call_of 49 (Value.int IntKind.i64 A); refine Calls.quiet_of_same (in_any A 0 1000 _)) | (go_at_call_of 49 (Value.int IntKind.i64 B); refine Calls.quiet_of_same (in_any B 0 1000 _)))
          go_wp2
          go_ret
          exact ⟨ret_bool (by rw [← HP.out, HG.out, HD.out]; simp [t1, t2, t3, t4]), below_drewN HBW.out _⟩
        go_wp2_with fail
        go_quiet (first | (go_at_call 72; refine Calls.quiet_of_same (kind_any K _)) | (go_at_call 50; refine Calls.quiet_of_same (clip_any I _)) | (go_at_call_of 49 (Value.int IntKind.i64 A); refine Calls.quiet_of_same (in_any A 0 1000 _)) | (go_at_call_of 49 (Value.int IntKind.i64 B); refine Calls.quiet_of_same (in_any B 0 1000 _)))
        go_wp2
        go_ret
        exact ⟨ret_bool (by rw [← HP.out, HG.out, HD.out]; simp [t1, t2, t3, t4]), below_drewN HBW.out _⟩
      · have HD := hide hd
        clear hd
        cases t1 : kindOk K
        · go_wp2_with fail
          go_quiet (first | (go_at_call 72; refine Calls.quiet_of_same (kind_any K _)) | (go_at_call 50; refine Calls.quiet_of_same (clip_any I _)) | (go_at_call_of 49 (Value.int IntKind.i64 A); refine Calls.quiet_of_same (in_any A 0 1000 _)) | (go_at_call_of 49 (Value.int IntKind.i64 B); refine Calls.quiet_of_same (in_any B 0 1000 _)))
          go_wp2
          go_ret
          exact ⟨ret_bool (by rw [← HP.out, HG.out, HD.out]; simp [t1]), below_drewN HBW.out _⟩
        cases t2 : (clip I == I)
        · go_wp2_with fail
          go_quiet (first | (go_at_call 72; refine Calls.quiet_of_same (kind_any K _)) | (go_at_call 50; refine Calls.quiet_of_same (clip_any I _)) | (go_at_call_of 49 (Value.int IntKind.i64 A); refine Calls.quiet_of_same (in_any A 0 1000 _)) | (go_at_call_of 49 (Value.int IntKind.i64 B); refine Calls.quiet_of_same (in_any B 0 1000 _)))
          go_wp2
          go_ret
          exact ⟨ret_bool (by rw [← HP.out, HG.out, HD.out]; simp [t1, t2]), below_drewN HBW.out _⟩
        cases t3 : (decide (0 ≤ A) && decide (A ≤ 1000))
        · go_wp2_with fail
          go_quiet (first | (go_at_call 72; refine Calls.quiet_of_same (kind_any K _)) | (go_at_call 50; refine Calls.quiet_of_same (clip_any I _)) | (go_at_call_of 49 (Value.int IntKind.i64 A); refine Calls.quiet_of_same (in_any A 0 1000 _)) | (go_at_call_of 49 (Value.int IntKind.i64 B); refine Calls.quiet_of_same (in_any B 0 1000 _)))
          go_wp2
          go_ret
          exact ⟨ret_bool (by rw [← HP.out, HG.out, HD.out]; simp [t1, t2, t3]), below_drewN HBW.out _⟩
        cases t4 : (decide (0 ≤ B) && decide (B ≤ 1000))
        · go_wp2_with fail
          go_quiet (first | (go_at_call 72; refine Calls.quiet_of_same (kind_any K _)) | (go_at_call 50; refine Calls.quiet_of_same (clip_any I _)) | (go_at_call_of 49 (Value.int IntKind.i64 A); refine Calls.quiet_of_same (in_any A 0 1000 _)) | (go_at_call_of 49 (Value.int IntKind.i64 B); refine Calls.quiet_of_same (in_any B 0 1000 _)))
          go_wp2
          go_ret
          exact ⟨ret_bool (by rw [← HP.out, HG.out, HD.out]; simp [t1, t2, t3, t4]), below_drewN HBW.out _⟩
        go_wp2_with fail
        go_quiet (first | (go_at_call 72; refine Calls.quiet_of_same (kind_any K _)) | (go_at_call 50; refine Calls.quiet_of_same (clip_any I _)) | (go_at_call_of 49 (Value.int IntKind.i64 A); refine Calls.quiet_of_same (in_any A 0 1000 _)) | (go_at_call_of 49 (Value.int IntKind.i64 B); refine Calls.quiet_of_same (in_any B 0 1000 _)))
        go_wp2
        go_ret
        exact ⟨ret_bool (by rw [← HP.out, HG.out, HD.out]; simp [t1, t2, t3, t4]), below_drewN HBW.out _⟩
      · have HD := hide hd
        clear hd
        go_wp2
        go_ret
        exact ⟨ret_bool (by rw [← HP.out, HG.out, HD.out]; rfl), HBW.out⟩
      · have HD := hide hd
        clear hd
        go_wp2
        go_ret
        exact ⟨ret_bool (by rw [← HP.out, HG.out, HD.out]; rfl), HBW.out⟩
      · have HD := hide hd
        clear hd
        cases t1 : kindOk K
        · go_wp2_with fail
          go_quiet (first | (go_at_call 72; refine Calls.quiet_of_same (kind_any K _)) | (go_at_call 50; refine Calls.quiet_of_same (clip_any I _)) | (go_at_call_of 49 (Value.int IntKind.i64 A); refine Calls.quiet_of_same (in_any A 0 1000 _)) | (go_at_call_of 49 (Value.int IntKind.i64 B); refine Calls.quiet_of_same (in_any B 0 1000 _)))
          go_wp2
          go_ret
          exact ⟨ret_bool (by rw [← HP.out, HG.out, HD.out]; simp [t1]), below_drewN HBW.out _⟩
        cases t2 : (clip I == I)
        · go_wp2_with fail
          go_quiet (first | (go_at_call 72; refine Calls.quiet_of_same (kind_any K _)) | (go_at_call 50; refine Calls.quiet_of_same (clip_any I _)) | (go_at_call_of 49 (Value.int IntKind.i64 A); refine Calls.quiet_of_same (in_any A 0 1000 _)) | (go_at_call_of 49 (Value.int IntKind.i64 B); refine Calls.quiet_of_same (in_any B 0 1000 _)))
          go_wp2
          go_ret
          exact ⟨ret_bool (by rw [← HP.out, HG.out, HD.out]; simp [t1, t2]), below_drewN HBW.out _⟩
        cases t3 : (decide (0 ≤ A) && decide (A ≤ 1000))
        · go_wp2_with fail
          go_quiet (first | (go_at_call 72; refine Calls.quiet_of_same (kind_any K _)) | (go_at_call 50; refine Calls.quiet_of_same (clip_any I _)) | (go_at_call_of 49 (Value.int IntKind.i64 A); refine Calls.quiet_of_same (in_any A 0 1000 _)) | (go_at_call_of 49 (Value.int IntKind.i64 B); refine Calls.quiet_of_same (in_any B 0 1000 _)))
          go_wp2
          go_ret
          exact ⟨ret_bool (by rw [← HP.out, HG.out, HD.out]; simp [t1, t2, t3]), below_drewN HBW.out _⟩
        cases t4 : (decide (0 ≤ B) && decide (B ≤ 1000))
        · go_wp2_with fail
          go_quiet (first | (go_at_call 72; refine Calls.quiet_of_same (kind_any K _)) | (go_at_call 50; refine Calls.quiet_of_same (clip_any I _)) | (go_at_call_of 49 (Value.int IntKind.i64 A); refine Calls.quiet_of_same (in_any A 0 1000 _)) | (go_at_call_of 49 (Value.int IntKind.i64 B); refine Calls.quiet_of_same (in_any B 0 1000 _)))
          go_wp2
          go_ret
          exact ⟨ret_bool (by rw [← HP.out, HG.out, HD.out]; simp [t1, t2, t3, t4]), below_drewN HBW.out _⟩
        go_wp2_with fail
        go_quiet (first | (go_at_call 72; refine Calls.quiet_of_same (kind_any K _)) | (go_at_call 50; refine Calls.quiet_of_same (clip_any I _)) | (go_at_call_of 49 (Value.int IntKind.i64 A); refine Calls.quiet_of_same (in_any A 0 1000 _)) | (go_at_call_of 49 (Value.int IntKind.i64 B); refine Calls.quiet_of_same (in_any B 0 1000 _)))
        go_wp2
        go_ret
        exact ⟨ret_bool (by rw [← HP.out, HG.out, HD.out]; simp [t1, t2, t3, t4]), below_drewN HBW.out _⟩

end Go.Proofs.YtamglfhnhjgdjaaGreatDoor
