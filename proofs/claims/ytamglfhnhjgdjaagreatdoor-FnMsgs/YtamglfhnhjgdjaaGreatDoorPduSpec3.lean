/-
  The specification's GetPdu by its contract.
-/
import Derived.Test.YtamglfhnhjgdjaaGreatDoorQN
import Derived.Test.YtamglfhnhjgdjaaGreatDoorQK
import Derived.Test.YtamglfhnhjgdjaaGreatDoorPduOkS
namespace Go.Proofs.YtamglfhnhjgdjaaGreatDoor
open Go.RowKit

/-- Where a request's reading stands: the specification's reader, the request's box. -/
structure SPt (w1 wr : World) (rb pb : Nat) (bo : Option Addr) (bl bc : Nat) (t : Int) (bad : Bool) (k a1 a2 a3 : Int) (v4 : Value) : Prop where
  rbox : wr.heap[rb]? = some (.cells #[.slice bo bl bc, .int .i64 t, .bool bad] 64)
  pbox : wr.heap[pb]? = some (.cells #[.int .i64 k, .int .i64 a1, .int .i64 a2, .int .i64 a3, v4] 26)
  low : Below w1.heap.size w1 wr
  rlow : w1.heap.size ≤ rb
  plow : w1.heap.size ≤ pb
  ne : rb ≠ pb

section
variable {w1 wr w' : World} {rb pb : Nat} {bo : Option Addr} {bl bc : Nat} {t k a1 a2 a3 : Int} {bad : Bool} {v4 : Value}

theorem SPt.rdr (h : SPt w1 wr rb pb bo bl bc t bad k a1 a2 a3 v4) {zs : List Int} (hr : Row w1 bo bl bc zs) (hs : bl ≤ 1048576) : SRd wr rb bo bl bc zs t bad := ⟨h.rbox, hr.below h.low, hs⟩
theorem SPt.next (h : SPt w1 wr rb pb bo bl bc t bad k a1 a2 a3 v4) {zs : List Int} {t' : Int} {bad' : Bool} (hg : wr.grownBy w' (some rb)) (hR : SRd w' rb bo bl bc zs t' bad') : SPt w1 w' rb pb bo bl bc t' bad' k a1 a2 a3 v4 :=
  ⟨hR.box, kept_grown h.pbox hg (fun j hj => by cases hj; exact h.ne), h.low.grown hg h.low.size (fun j hj => by cases hj; exact h.rlow), h.rlow, h.plow, h.ne⟩
theorem SPt.below (h : SPt w1 wr rb pb bo bl bc t bad k a1 a2 a3 v4) (hb : Below wr.heap.size wr w') : SPt w1 w' rb pb bo bl bc t bad k a1 a2 a3 v4 :=
  ⟨kept_block h.rbox hb, kept_block h.pbox hb, h.low.trans (hb.mono h.low.size), h.rlow, h.plow, h.ne⟩
theorem SPt.set1 (h : SPt w1 wr rb pb bo bl bc t bad k a1 a2 a3 v4) (x : Int) : SPt w1 (wr.setCell ⟨pb, 1, none⟩ (.int .i64 x)) rb pb bo bl bc t bad k x a2 a3 v4 :=
  ⟨kept_set h.rbox h.ne, (by have := heap_setCell_same wr pb 1 _ _ (.int .i64 x) h.pbox; simpa using this), below_set h.low h.plow _ _, h.rlow, h.plow, h.ne⟩
theorem SPt.set2 (h : SPt w1 wr rb pb bo bl bc t bad k a1 a2 a3 v4) (x : Int) : SPt w1 (wr.setCell ⟨pb, 2, none⟩ (.int .i64 x)) rb pb bo bl bc t bad k a1 x a3 v4 :=
  ⟨kept_set h.rbox h.ne, (by have := heap_setCell_same wr pb 2 _ _ (.int .i64 x) h.pbox; simpa using this), below_set h.low h.plow _ _, h.rlow, h.plow, h.ne⟩
theorem SPt.set3 (h : SPt w1 wr rb pb bo bl bc t bad k a1 a2 a3 v4) (x : Int) : SPt w1 (wr.setCell ⟨pb, 3, none⟩ (.int .i64 x)) rb pb bo bl bc t bad k a1 a2 x v4 :=
  ⟨kept_set h.rbox h.ne, (by have := heap_setCell_same wr pb 3 _ _ (.int .i64 x) h.pbox; simpa using this), below_set h.low h.plow _ _, h.rlow, h.plow, h.ne⟩
end

theorem spt_new (w1 : World) (bo : Option Addr) (bl bc : Nat) (k : Int) : SPt w1 ((w1.alloc (.cells #[.slice bo bl bc, .int .i64 0, .bool false] 64)).alloc (.cells #[.int .i64 k, .int .i64 0, .int .i64 0, .int .i64 0, .slice none 0 0] 26)) w1.heap.size (w1.heap.size + 1) bo bl bc 0 false k 0 0 0 (.slice none 0 0) :=
  ⟨kept_block (block_last w1 _) (below_one _ _), (by have := block_last (w1.alloc (.cells #[.slice bo bl bc, .int .i64 0, .bool false] 64)) (.cells #[.int .i64 k, .int .i64 0, .int .i64 0, .int .i64 0, .slice none 0 0] 26); simpa using this), below_two _ _ _, Nat.le_refl _, by omega, by omega⟩

theorem getTlv_bad {z : List Int} {t k nx : Int} {b : List Int} (h : getTlv z t = (k, b, nx, false)) : b = [] := by
  unfold getTlv at h
  split at h
  · simp only [Prod.mk.injEq] at h; exact h.2.1.symm
  · split at h
    · simp at h
    · simp only [Prod.mk.injEq] at h; exact h.2.1.symm

theorem numM_nil (t : Int) : numM [] t = none := by
  have hp : partM [] t 2 = none := by
    unfold partM
    rw [if_neg]
    rintro ⟨h1, -⟩
    unfold getTlv at h1
    rw [if_pos (by simp; omega)] at h1
    cases h1
  unfold numM
  rw [hp]
theorem getB_nil : getB [] = none := by
  have hp : partM [] 0 6 = none := by
    unfold partM
    rw [if_neg]
    rintro ⟨h1, -⟩
    unfold getTlv at h1
    rw [if_pos (by simp)] at h1
    cases h1
  unfold getB
  rw [hp]

theorem Only.grown_new {bs : List Nat} {a b c : World} {row : Option Nat} (h : Only bs a b) (hg : b.grownBy c row) (hr : ∀ k, row = some k → a.heap.size ≤ k) : Only bs a c :=
  ⟨hg.os.trans h.os, hg.tape.trans h.tape, hg.output.trans h.output, Nat.le_trans h.size hg.size, fun k hk hn => (hg.block k (Nat.lt_of_lt_of_le hk h.size) (fun e => by have := hr k e.symm; omega)).trans (h.block k hk hn)⟩

def lenOf : Value → Nat
  | .slice _ n _ => n
  | _ => 0

/-- The reading of binds, in the specification's loop. -/
structure SLoop (z : List Int) (wq wr : World) (rb pb qb : Nat) (bo : Option Addr) (bl bc : Nat) (rt : Int) (qo : Option Addr) (qc : Nat) (zs : List Int) (k id a b : Int) (rbad : Bool) (qt : Int) (qbad : Bool) (ys : List BI) (lo : Option Addr) (cap : Nat) : Prop where
  rbox : wr.heap[rb]? = some (.cells #[.slice bo bl bc, .int .i64 rt, .bool rbad] 64)
  qbox : wr.heap[qb]? = some (.cells #[.slice qo zs.length qc, .int .i64 qt, .bool qbad] 64)
  pbox : wr.heap[pb]? = some (.cells #[.int .i64 k, .int .i64 id, .int .i64 a, .int .i64 b, .slice lo ys.length cap] 26)
  bo : BOwns wr wq.heap.size lo ys.length cap ys
  only : Only [rb, pb, qb] wq wr
  st : (rbad = true ∧ getP z = none) ∨ (rbad = false ∧ qbad = false ∧ Reads zs.length zs qt ys)

theorem Reads.long {zs : List Int} {t : Int} {ys : List BI} (h : Reads zs.length zs t ys) (hz : Byt zs) (hl : 10 < ys.length) : getBs 10 zs 0 = none := by
  obtain ⟨p, -, -, f, -, he, -⟩ := h.t
  rw [getBs_ten hz, he]
  cases getBs f zs t with
  | none => rfl
  | some l =>
    simp only [Option.map_some]
    rw [if_neg (by simp; omega)]

set_option maxRecDepth 100000 in
set_option maxHeartbeats 8000000 in
theorem specGetPdu_any (ao : Option Addr) (n c : Nat) (z : List Int) (r : Option PD) (hr0 : getP z = r) (w : World) (hr : Row w ao n c z) (hs : n ≤ 1048576) :
    Calls Tryz.prog 36 #[.slice ao n c] w fun e w' => GotP r w e w' ∧ Below w.heap.size w w' := by
  obtain ⟨i0, hi, hz0, hz1, hz2⟩ := info_parts Tryz.infoBind'
  have hzl := hr.size
  have hby := hr.byte
  have q0 := below_one w (.cells #[.int .i64 0, .int .i64 0, .int .i64 0, .int .i64 0, .slice none 0 0] 26)
  have HR0 := hide hr0
  have HKZ := hide (block_last w (.cells #[.int .i64 0, .int .i64 0, .int .i64 0, .int .i64 0, .slice none 0 0] 26))
  have rw0 := hr.below q0
  rcases hT : getTlv z 0 with ⟨k, body, nx, ok⟩
  have hbl : body.length ≤ 250 := by
    cases ok
    · rw [getTlv_bad hT]; exact Nat.zero_le _
    · exact tlv_short hby hT
  have hbb := byt_of_part hby hT
  have HT := hide hT
  clear hr0 hT
  go_enter Tryz.func36, Tryz.ntmps36
  go_wp2_with fail
  generalize hwb : (w.alloc (.cells #[.int .i64 0, .int .i64 0, .int .i64 0, .int .i64 0, .slice none 0 0] 26)) = wb at *
  have hwbs : wb.heap.size = w.heap.size + 1 := by rw [← hwb]; simp
  have HWBS := hide hwbs
  clear hwb hwbs
  refine (specGet_made _ _ _ z 0 k nx ok body HT.out _ rw0 (by omega)).mono ?_
  rintro e w1 ⟨bo, bc, rfl, -, r1, u1⟩
  have HKZ1 := hide (kept_block HKZ.out u1)
  have hw1 : w.heap.size + 1 ≤ w1.heap.size := by have := u1.size; have := HWBS.out; omega
  have UW := hide (q0.trans (u1.mono q0.size))
  clear u1 HWBS HKZ rw0
  have P0 := spt_new w1 bo body.length bc k
  obtain ⟨⟨p0, p1, p2, p3, p4⟩, f0, f1, f2, f3, f4⟩ := cells5 P0.pbox
  have hsm : body.length ≤ 1048576 := by omega
  have R0 := P0.rdr r1 hsm
  have HP0 := hide P0
  clear P0
  go_wp2_with fail
  generalize ((w1.alloc (.cells #[.slice bo body.length bc, .int .i64 0, .bool false] 64)).alloc (.cells #[.int .i64 k, .int .i64 0, .int .i64 0, .int .i64 0, .slice none 0 0] 26)) = wc at *
  refine (snum_any w1.heap.size bo body.length bc body 0 false _ R0).mono ?_
  rintro e w3 ⟨id, t1, bad1, rfl, h3, g3, hst1⟩
  have P1 := HP0.out.next g3 h3
  have S1 := hide hst1
  clear p0 p1 p2 p3 p4 f0 f1 f2 f3 f4 HP0 R0 h3 g3 hst1
  obtain ⟨⟨p0, p1, p2, p3, p4⟩, f0, f1, f2, f3, f4⟩ := cells5 P1.pbox
  have HP1 := hide (P1.set1 id)
  have R1 := (P1.set1 id).rdr r1 hsm
  clear P1
  go_wp2_with fail
  generalize (w3.setCell ⟨w1.heap.size + 1, 1, none⟩ (.int .i64 id)) = w3a at *
  refine (snum_any w1.heap.size bo body.length bc body t1 bad1 _ R1).mono ?_
  rintro e w4 ⟨a, t2, bad2, rfl, h4, g4, hst2⟩
  have P2 := HP1.out.next g4 h4
  have S2 := hide hst2
  clear p0 p1 p2 p3 p4 f0 f1 f2 f3 f4 HP1 R1 h4 g4 hst2
  obtain ⟨⟨p0, p1, p2, p3, p4⟩, f0, f1, f2, f3, f4⟩ := cells5 P2.pbox
  have HP2 := hide (P2.set2 a)
  have R2 := (P2.set2 a).rdr r1 hsm
  clear P2
  go_wp2_with fail
  generalize (w4.setCell ⟨w1.heap.size + 1, 2, none⟩ (.int .i64 a)) = w4a at *
  refine (snum_any w1.heap.size bo body.length bc body t2 bad2 _ R2).mono ?_
  rintro e w5 ⟨b, t3, bad3, rfl, h5, g5, hst3⟩
  have P3 := HP2.out.next g5 h5
  have S3 := hide hst3
  clear p0 p1 p2 p3 p4 f0 f1 f2 f3 f4 HP2 R2 h5 g5 hst3
  obtain ⟨⟨p0, p1, p2, p3, p4⟩, f0, f1, f2, f3, f4⟩ := cells5 P3.pbox
  have HP3 := hide (P3.set3 b)
  have R3 := (P3.set3 b).rdr r1 hsm
  have hpb5 : w1.heap.size + 1 < (w5.setCell ⟨w1.heap.size + 1, 3, none⟩ (.int .i64 b)).heap.size := (Array.getElem?_eq_some_iff.1 (P3.set3 b).pbox).1
  clear P3
  go_wp2_with fail
  generalize (w5.setCell ⟨w1.heap.size + 1, 3, none⟩ (.int .i64 b)) = w5a at *
  refine (spart_any w1.heap.size bo body.length bc body t3 48 bad3 _ R3).mono ?_
  rintro e w6 ⟨qo, zs, qc, rt, rbad, rfl, r6, h6, g6, hzs, hzb, hst4⟩
  have P4 := HP3.out.next g6 h6
  have hrow : ∀ wr, Only [w1.heap.size, w1.heap.size + 1, w6.heap.size] (w6.alloc (.cells #[.slice qo zs.length qc, .int .i64 0, .bool false] 64)) wr → Row wr qo zs.length qc zs := by
    intro wr hon
    rcases hst4 with ⟨-, -, -, own⟩ | ⟨-, rfl, -⟩
    · have own' := own_below own (below_one w6 (.cells #[.slice qo zs.length qc, .int .i64 0, .bool false] 64))
      refine row_own (hon.own own' (fun j hj hc => ?_)) hzb
      have h1 := (own.lt j hj)
      have h2 := g6.size
      simp only [List.mem_cons, List.not_mem_nil, or_false] at hc
      omega
    · exact ⟨rfl, r6.le, r6.top, r6.nil, byte_nil, .inl rfl⟩
  have hfacts : (rbad = true ∧ getP z = none) ∨ (rbad = false ∧ ok = true ∧ numM body 0 = some (id, t1) ∧ numM body t1 = some (a, t2) ∧ numM body t2 = some (b, t3) ∧ partM body t3 48 = some (zs, rt)) := by
    have bad : getTail body = none → getP z = none := by
      intro h
      cases ok
      · exact getP_no HT.out (.inl rfl)
      · by_cases hnx : nx = z.length
        · subst hnx; exact getP_tail0 HT.out h
        · exact getP_no HT.out (.inr hnx)
    rcases S1.out with ⟨rfl, -, e1⟩ | ⟨rfl, e1⟩
    · rcases S2.out with ⟨rfl, -, e2⟩ | ⟨rfl, e2⟩
      · rcases S3.out with ⟨rfl, -, e3⟩ | ⟨rfl, e3⟩
        · rcases hst4 with ⟨rfl, -, e4, -⟩ | ⟨rfl, -, e4⟩
          · refine .inr ⟨rfl, ?_, e1, e2, e3, part_of e4⟩
            cases ok
            · rw [getTlv_bad HT.out, numM_nil] at e1; cases e1
            · rfl
          · rcases e4 with h | h
            · cases h
            · exact .inl ⟨rfl, bad (tail_no4 e1 e2 e3 h)⟩
        · have e3' : numM body t2 = none := by rcases e3 with h | h; (cases h); exact h
          rcases hst4 with ⟨-, h, -, -⟩ | ⟨rfl, -, -⟩
          · cases h
          · exact .inl ⟨rfl, bad (tail_no3 e1 e2 e3')⟩
      · have e2' : numM body t1 = none := by rcases e2 with h | h; (cases h); exact h
        rcases S3.out with ⟨-, h, -⟩ | ⟨rfl, -⟩
        · cases h
        · rcases hst4 with ⟨-, h, -, -⟩ | ⟨rfl, -, -⟩
          · cases h
          · exact .inl ⟨rfl, bad (tail_no2 e1 e2')⟩
    · have e1' : numM body 0 = none := by rcases e1 with h | h; (cases h); exact h
      rcases S2.out with ⟨-, h, -⟩ | ⟨rfl, -⟩
      · cases h
      · rcases S3.out with ⟨-, h, -⟩ | ⟨rfl, -⟩
        · cases h
        · rcases hst4 with ⟨-, h, -, -⟩ | ⟨rfl, -, -⟩
          · cases h
          · exact .inl ⟨rfl, bad (tail_no1 e1')⟩
  have n6 := g6.size
  have hq1 := below_one w6 (.cells #[.slice qo zs.length qc, .int .i64 0, .bool false] 64)
  have P5 := P4.below hq1
  have hstart : SLoop z (w6.alloc (.cells #[.slice qo zs.length qc, .int .i64 0, .bool false] 64)) (w6.alloc (.cells #[.slice qo zs.length qc, .int .i64 0, .bool false] 64)) w1.heap.size (w1.heap.size + 1) w6.heap.size bo body.length bc rt qo qc zs k id a b rbad 0 false [] none 0 :=
    ⟨P5.rbox, block_last w6 _, P5.pbox, bowns_nil _ _, Only.refl _ _, by
      rcases hfacts with ⟨h1, h2⟩ | ⟨h1, -⟩
      · exact .inl ⟨h1, h2⟩
      · exact .inr ⟨h1, rfl, reads_start zs⟩⟩
  have HF := hide hfacts
  have HROW := hide hrow
  have LOW := hide P5.low
  have HW1 : Hid (Below w.heap.size w (w6.alloc (.cells #[.slice qo zs.length qc, .int .i64 0, .bool false] 64))) := hide (UW.out.trans (P5.low.mono (by omega)))
  have KZ := hide (kept_block HKZ1.out P5.low)
  have hqs : (w6.alloc (.cells #[.slice qo zs.length qc, .int .i64 0, .bool false] 64)).heap.size = w6.heap.size + 1 := by simp
  have HQS := hide hqs
  clear p0 p1 p2 p3 p4 f0 f1 f2 f3 f4 HP3 R3 h6 g6 hst4 S1 S2 S3 hfacts hrow P4 P5 hqs hq1 r6 UW HKZ1
  go_wp2_with fail
  generalize hwq : (w6.alloc (.cells #[.slice qo zs.length qc, .int .i64 0, .bool false] 64)) = wq at *
  clear hwq
  generalize hqb : w6.heap.size = qb at *
  clear hqb
  have hwqs := HQS.out
  clear HQS
  have HWQS := hide hwqs
  clear hwqs
  go_loopw [12] (fun _ wr => ∃ rbad' qt qbad ys lo cap, SLoop z wq wr w1.heap.size (w1.heap.size + 1) qb bo body.length bc rt qo qc zs k id a b rbad' qt qbad ys lo cap ∧ (rbad' = false → rbad = false)) (fun _ wr => 12 - lenOf ((wr.cell? ⟨w1.heap.size + 1, 4, none⟩).getD (.slice none 0 0)))
  case atStart => exact ⟨rbad, 0, false, [], none, 0, hstart, fun h => h⟩
  case round =>
    obtain ⟨rbad', qt, qbad, ys, lo, cap, LP, hrr⟩ := hrel
    clear hstart
    have hwq2 := HWQS.out
    have hbw : Below w.heap.size w wr := HW1.out.trans (LP.only.below (by omega) (fun b hb => by simp only [List.mem_cons, List.not_mem_nil, or_false] at hb; omega))
    have HBW := hide hbw
    have kzr := LP.only.kept KZ.out (by simp only [List.mem_cons, List.not_mem_nil, or_false]; omega)
    obtain ⟨⟨x0, x1, x2⟩, xf0, xf1, xf2⟩ := cells3 LP.rbox
    obtain ⟨⟨v0, v1, v2⟩, vf0, vf1, vf2⟩ := cells3 LP.qbox
    obtain ⟨⟨p0, p1, p2, p3, p4⟩, f0, f1, f2, f3, f4⟩ := cells5 LP.pbox
    obtain ⟨⟨d0, d1, d2, d3, d4⟩, e0, e1, e2, e3, e4⟩ := cells5 kzr
    have HKZR := hide kzr
    have HLP := hide LP
    have hst := LP.st
    have m1 : ¬ w1.heap.size = w.heap.size := by omega
    have m2 : ¬ w1.heap.size + 1 = w.heap.size := by omega
    have m3 : ¬ qb = w.heap.size := by omega
    clear kzr LP hbw hwq2
    rcases hst with ⟨rfl, hnone⟩ | ⟨rfl, hqb, hrd⟩
    · have HNO := hide hnone
      clear hnone
      go_wp2_with fail
      go_quiet (fail)
      cases ok
      · have HN : Hid (r = none) := hide (HR0.out.symm.trans (HNO.out))
        go_wp2_with fail
        go_quiet (fail)
        go_wp2
        refine bodyPost_ret (v := .tuple #[.agg #[.int .i64 0, .int .i64 0, .int .i64 0, .int .i64 0, .slice none 0 0], .bool false]) (by simp [results, Tryz.results36, go_sem, *]) rfl ⟨by rw [HN.out]; exact ⟨0, 0, 0, 0, [], none, 0, rfl, bowns_nil _ _, rfl⟩, ?_⟩
        repeat (refine below_set ?_ (Nat.le_refl _) _ _)
        exact below_drewN HBW.out _
      · by_cases hnx : nx = n
        · subst hnx
          have HN : Hid (r = none) := hide (HR0.out.symm.trans (HNO.out))
          go_wp2_with fail
          go_quiet (fail)
          go_wp2
          refine bodyPost_ret (v := .tuple #[.agg #[.int .i64 0, .int .i64 0, .int .i64 0, .int .i64 0, .slice none 0 0], .bool false]) (by simp [results, Tryz.results36, go_sem, *]) rfl ⟨by rw [HN.out]; exact ⟨0, 0, 0, 0, [], none, 0, rfl, bowns_nil _ _, rfl⟩, ?_⟩
          repeat (refine below_set ?_ (Nat.le_refl _) _ _)
          exact below_drewN HBW.out _
        · have hnn : (nx != (n : Int)) = true := by simpa using hnx
          have HN : Hid (r = none) := hide (HR0.out.symm.trans (HNO.out))
          go_wp2_with fail
          go_quiet (fail)
          go_wp2
          refine bodyPost_ret (v := .tuple #[.agg #[.int .i64 0, .int .i64 0, .int .i64 0, .int .i64 0, .slice none 0 0], .bool false]) (by simp [results, Tryz.results36, go_sem, *]) rfl ⟨by rw [HN.out]; exact ⟨0, 0, 0, 0, [], none, 0, rfl, bowns_nil _ _, rfl⟩, ?_⟩
          repeat (refine below_set ?_ (Nat.le_refl _) _ _)
          exact below_drewN HBW.out _
    · have hrr := hrr rfl
      subst hrr
      subst hqb
      have hqle : qt ≤ zs.length := by obtain ⟨qp, hqp, hqpl, -⟩ := hrd.at; omega
      rcases HF.out with ⟨hf, -⟩ | ⟨-, hok, g1, g2, g3, g4⟩
      · cases hf
      · subst hok
        have HTL := hide (tail_is g1 g2 g3 g4)
        have HRD := hide hrd
        clear hrd g1 g2 g3 g4 HF
        by_cases hql : qt < zs.length
        · by_cases hyl : (ys.length : Int) ≤ 10
          · have hne : ¬ qt = zs.length := by omega
            have hwq2 := HWQS.out
            have HSR : Hid (SRd wr qb qo zs.length qc zs qt false) := hide ⟨HLP.out.qbox, HROW.out wr HLP.out.only, by omega⟩
            rcases HRD.out.step hzb hne with ⟨hno, hnone⟩ | ⟨b', nx', hT', hrest⟩
            · have HNO := hide hno
              have HNP : Hid (getP z = none) := hide (by
                by_cases hnx : nx = z.length
                · subst hnx; exact getP_tail0 HT.out (by rw [HTL.out, getBs_ten hzb, hnone]; simp)
                · exact getP_no HT.out (.inr hnx))
              clear hno hnone hwq2
              go_wp2_with fail
              go_quiet (fail)
              go_wp2_with fail
              refine (spart_bad qb qo zs.length qc zs qt 48 false (.inr HNO.out) _ (HSR.out.below (below_drewN (Below.refl _ _) _))).mono ?_
              rintro e w2 ⟨bo2, bc2, rfl, r2, h2, g2⟩
              have g2' : wr.grownBy w2 (some qb) := ⟨g2.os, g2.tape, g2.output, g2.size, g2.block⟩
              clear g2
              go_wp2_with fail
              refine (sbind_no _ _ _ [] getB_nil _ r2 (by omega)).mono ?_
              rintro e w3 ⟨rfl, hb3⟩
              obtain ⟨y, hy⟩ : ∃ y : BI, y = BI.zero := ⟨_, rfl⟩
              have hy3 : BOwn w3 wq.heap.size y := by rw [hy]; exact zero_own _ _
              have HND : Hid y.blks.Nodup := hide (by rw [hy]; exact List.nodup_nil)
              have HAP : Hid (∀ z ∈ ys, ∀ b ∈ z.blks, b ∉ y.blks) := hide (by rw [hy]; intro _ _ _ _ hc; cases hc)
              rw [show (Value.agg #[.slice none 0 0, .int .i64 0, .int .i64 0, .string ⟨#[]⟩, .slice none 0 0]) = .agg #[.slice y.oa y.on y.oc, .int .i64 y.K, .int .i64 y.N, .string y.S, .slice y.za y.zn y.zc] by rw [hy]; rfl]
              clear hy
              have kr := kept_block (kept_grown HLP.out.rbox g2' (fun j hj => by cases hj; omega)) hb3
              have kq := kept_block h2.box hb3
              have kp := kept_block (kept_grown HLP.out.pbox g2' (fun j hj => by cases hj; omega)) hb3
              have bo3 := (HLP.out.bo.only (Only.of_grown (ao := some ⟨qb, 0, none⟩) (n := 0) (c := 0) g2') (fun j hj hc => by have h0 := HWQS.out; have := (HLP.out.bo.blk j hj).1; simp [blkL] at hc; omega)).below hb3
              have on3 : Only [w1.heap.size, w1.heap.size + 1, qb] wq w3 := (HLP.out.only.trans ((Only.of_grown (ao := some ⟨qb, 0, none⟩) (n := 0) (c := 0) g2').wider (fun j hj => by simp [blkL] at hj; simp [hj]))).trans (Only.of_below hb3)
              have yo := hy3
              have hxs : qb < w3.heap.size := by have h1 := (Array.getElem?_eq_some_iff.1 h2.box).1; have h2 := hb3.size; omega
              have hxr : w1.heap.size + 1 < w3.heap.size := by have h1 := (Array.getElem?_eq_some_iff.1 HLP.out.pbox).1; have h2 := g2'.size; have h3 := hb3.size; omega
              clear x0 x1 x2 xf0 xf1 xf2 v0 v1 v2 vf0 vf1 vf2 p0 p1 p2 p3 p4 f0 f1 f2 f3 f4 d0 d1 d2 d3 d4 e0 e1 e2 e3 e4 hb3 h2 g2' hy3
              obtain ⟨⟨x0, x1, x2⟩, xf0, xf1, xf2⟩ := cells3 kr
              obtain ⟨⟨v0, v1, v2⟩, vf0, vf1, vf2⟩ := cells3 kq
              obtain ⟨⟨p0, p1, p2, p3, p4⟩, f0, f1, f2, f3, f4⟩ := cells5 kp
              have m4 : ¬ w3.heap.size = w1.heap.size := by omega
              have m5 : ¬ w3.heap.size = w1.heap.size + 1 := by omega
              have m6 : ¬ qb = w1.heap.size := by have := HWQS.out; omega
              have m7 : ¬ w1.heap.size = qb := by have := HWQS.out; omega
              have m8 : ¬ w1.heap.size = w3.heap.size := by omega
              have m9 : ¬ w1.heap.size + 1 = w3.heap.size := by omega
              -- the reader's mark, and one bind more
              have q3 := below_one w3 (.cells #[.slice y.oa y.on y.oc, .int .i64 y.K, .int .i64 y.N, .string y.S, .slice y.za y.zn y.zc] 80)
              have kr4 := set_block3b (kept_block kr q3) (.bool true)
              have kq4 := kept_set (j := 2) (u := .bool true) (kept_block kq q3) (show qb ≠ w1.heap.size from m6)
              have kp4 := kept_set (b := w1.heap.size) (j := 2) (u := .bool true) (kept_block kp q3) (by omega)
              have hwq4 : w1.heap.size + 1 < wq.heap.size ∧ qb < wq.heap.size := by have := HWQS.out; omega
              have bo4 := (bo3.below q3).set_below (g := w1.heap.size) (j := 2) (u := .bool true) (by omega)
              have on4 := (on3.trans (Only.of_below q3)).trans ((Only.set (w3.alloc (.cells #[.slice y.oa y.on y.oc, .int .i64 y.K, .int .i64 y.N, .string y.S, .slice y.za y.zn y.zc] 80)) w1.heap.size 2 (.bool true)).wider (fun j hj => by simp only [List.mem_singleton] at hj; simp [hj]))
              have yo4 := (yo.below q3).only (Only.set (w3.alloc (.cells #[.slice y.oa y.on y.oc, .int .i64 y.K, .int .i64 y.N, .string y.S, .slice y.za y.zn y.zc] 80)) w1.heap.size 2 (.bool true)) (fun j hj hc => by have := (yo.blk j hj).1; simp only [List.mem_singleton] at hc; omega)
              have q4 := below_one ((w3.alloc (.cells #[.slice y.oa y.on y.oc, .int .i64 y.K, .int .i64 y.N, .string y.S, .slice y.za y.zn y.zc] 80)).setCell ⟨w1.heap.size, 2, none⟩ (.bool true)) (.cells #[.slice y.oa y.on y.oc, .int .i64 y.K, .int .i64 y.N, .string y.S, .slice y.za y.zn y.zc] 80)
              have HKR := hide (kept_block kr4 q4)
              have HKQ := hide (kept_block kq4 q4)
              have HKP := hide (kept_block kp4 q4)
              have HBO4 := hide (bo4.below q4)
              have HON4 := hide (on4.trans (Only.of_below q4))
              have HYO4 := hide (yo4.below q4)
              have hrow4 := (bo4.below q4).row
              have hsz4 : wq.heap.size ≤ (((w3.alloc (.cells #[.slice y.oa y.on y.oc, .int .i64 y.K, .int .i64 y.N, .string y.S, .slice y.za y.zn y.zc] 80)).setCell ⟨w1.heap.size, 2, none⟩ (.bool true)).alloc (.cells #[.slice y.oa y.on y.oc, .int .i64 y.K, .int .i64 y.N, .string y.S, .slice y.za y.zn y.zc] 80)).heap.size := by have := on4.size; simp at this; simp; omega
              have HBN4 : Hid (∀ (j : Nat) (u : Value), y.cs[j]? = some u → (((w3.alloc (.cells #[.slice y.oa y.on y.oc, .int .i64 y.K, .int .i64 y.N, .string y.S, .slice y.za y.zn y.zc] 80)).setCell ⟨w1.heap.size, 2, none⟩ (.bool true)).alloc (.cells #[.slice y.oa y.on y.oc, .int .i64 y.K, .int .i64 y.N, .string y.S, .slice y.za y.zn y.zc] 80)).cell? ((⟨w3.heap.size + 1, 0, none⟩ : Addr).add j) = some u) := hide (by have h := bind_news ((w3.alloc (.cells #[.slice y.oa y.on y.oc, .int .i64 y.K, .int .i64 y.N, .string y.S, .slice y.za y.zn y.zc] 80)).setCell ⟨w1.heap.size, 2, none⟩ (.bool true)) y; rw [show ((w3.alloc (.cells #[.slice y.oa y.on y.oc, .int .i64 y.K, .int .i64 y.N, .string y.S, .slice y.za y.zn y.zc] 80)).setCell ⟨w1.heap.size, 2, none⟩ (.bool true)).heap.size = w3.heap.size + 1 by simp] at h; exact h)
              obtain ⟨⟨xa0, xa1, xa2⟩, xg0, xg1, xg2⟩ := cells3 (kept_block kr q3)
              obtain ⟨⟨va0, va1, va2⟩, -⟩ := cells3 (kept_block kq q3)
              obtain ⟨⟨pa0, pa1, pa2, pa3, pa4⟩, -⟩ := cells5 (kept_block kp q3)
              clear kr kq kp bo3 on3 yo kr4 kq4 kp4 bo4 on4 yo4 q4 q3
              go_wp2_with (at_builtin; refine wpList_append_own _ rfl _ _ 24 rfl wq.heap.size 80 i0 (.agg #[.slice none 0 0, .int .i64 0, .int .i64 0, .string ⟨#[]⟩, .slice none 0 0]) 5 80 Tryz.underlying24 hi hz0 hz1 hz2 rfl (by decide) _ ys.length (cBs ys) rfl hrow4 ⟨w3.heap.size + 1, 0, none⟩ 1 1 y.cs rfl rfl HBN4.out (cs_oneCell y) ?c1 ?c2 ?c3 ?_)
              case c1 => unfold maxLen; omega
              case c2 => omega
              case c3 => exact hsz4
              intro v' w5 how hgr _
              obtain ⟨lo', cap', rfl⟩ := own_slice how
              have bo5 := HBO4.out.push HYO4.out HND.out HAP.out hgr how
              have hlo : ∀ j, j < wq.heap.size → j ∉ blkL lo := fun j hj hc => by have := (HBO4.out.row.lt j (mem_blkL.2 hc)).1; omega
              have O5 := Only.of_grown hgr
              have kr5 := O5.kept HKR.out (hlo _ (by omega))
              have kq5 := O5.kept HKQ.out (hlo _ (by omega))
              have kp5 := O5.kept HKP.out (hlo _ (by omega))
              have on5 := HON4.out.grown_new hgr (fun j hj => (HBO4.out.row.lt j hj).1)
              clear x0 x1 x2 xf0 xf1 xf2 v0 v1 v2 vf0 vf1 vf2 p0 p1 p2 p3 p4 f0 f1 f2 f3 f4 xa0 xa1 xa2 xg0 xg1 xg2 va0 va1 va2 pa0 pa1 pa2 pa3 pa4
              obtain ⟨⟨p0, p1, p2, p3, p4⟩, f0, f1, f2, f3, f4⟩ := cells5 kp5
              have hend : SLoop z wq (w5.setCell ⟨w1.heap.size + 1, 4, none⟩ (.slice lo' (ys.length + 1) cap')) w1.heap.size (w1.heap.size + 1) qb bo body.length bc rt qo qc zs k id a b true qt true (ys ++ [y]) lo' cap' :=
                ⟨kept_set kr5 (by omega), kept_set kq5 (by omega), (by have := heap_setCell_same w5 (w1.heap.size + 1) 4 _ _ (.slice lo' (ys.length + 1) cap') kp5; simpa using this), (by simpa using bo5.set_below (g := w1.heap.size + 1) (j := 4) (u := .slice lo' (ys.length + 1) cap') (by omega)), on5.trans ((Only.set w5 (w1.heap.size + 1) 4 (.slice lo' (ys.length + 1) cap')).wider (fun j hj => by simp only [List.mem_singleton] at hj; simp [hj])), .inl ⟨rfl, HNP.out⟩⟩
              have HEND := hide hend
              have HC5 := hide (cells5 hend.pbox).1.2.2.2.2
              have HC0 := hide (cells5 HLP.out.pbox).1.2.2.2.2
              clear hend kr5 kq5 kp5 bo5 on5 O5 how hgr hlo HKR HKQ HKP HBO4 HON4 HYO4 hrow4 hsz4 m4 m5 m6 m7 m8 m9
              go_wp2
              go_roundw
              case rel => exact ⟨true, qt, true, ys ++ [y], lo', cap', HEND.out, fun h => by cases h⟩
              case measure =>
                rw [HC5.out, HC0.out]
                simp only [Option.getD_some, lenOf, List.length_append, List.length_cons, List.length_nil]
                omega
            · have hbl' := tlv_short hzb hT'
              have HT' := hide hT'
              clear hT'
              rcases hrest with ⟨hbn, hnone⟩ | ⟨x, hbx, q, hq, htq, hql2, hnext⟩
              · have HBN := hide hbn
                have HNP : Hid (getP z = none) := hide (by
                  by_cases hnx : nx = z.length
                  · subst hnx; exact getP_tail0 HT.out (by rw [HTL.out, getBs_ten hzb, hnone]; simp)
                  · exact getP_no HT.out (.inr hnx))
                clear hbn hnone hwq2
                go_wp2_with fail
                go_quiet (fail)
                go_wp2_with fail
                refine (spart_good qb qo zs.length qc zs qt 48 b' nx' HT'.out _ (HSR.out.below (below_drewN (Below.refl _ _) _))).mono ?_
                rintro e w2 ⟨bo2, bc2, rfl, r2, h2, g2, -⟩
                have g2' : wr.grownBy w2 (some qb) := ⟨g2.os, g2.tape, g2.output, g2.size, g2.block⟩
                clear g2
                go_wp2_with fail
                refine (sbind_no _ _ _ b' HBN.out _ r2 (by omega)).mono ?_
                rintro e w3 ⟨rfl, hb3⟩
                obtain ⟨y, hy⟩ : ∃ y : BI, y = BI.zero := ⟨_, rfl⟩
                have hy3 : BOwn w3 wq.heap.size y := by rw [hy]; exact zero_own _ _
                have HND : Hid y.blks.Nodup := hide (by rw [hy]; exact List.nodup_nil)
                have HAP : Hid (∀ z ∈ ys, ∀ b ∈ z.blks, b ∉ y.blks) := hide (by rw [hy]; intro _ _ _ _ hc; cases hc)
                rw [show (Value.agg #[.slice none 0 0, .int .i64 0, .int .i64 0, .string ⟨#[]⟩, .slice none 0 0]) = .agg #[.slice y.oa y.on y.oc, .int .i64 y.K, .int .i64 y.N, .string y.S, .slice y.za y.zn y.zc] by rw [hy]; rfl]
                clear hy
                have kr := kept_block (kept_grown HLP.out.rbox g2' (fun j hj => by cases hj; omega)) hb3
                have kq := kept_block h2.box hb3
                have kp := kept_block (kept_grown HLP.out.pbox g2' (fun j hj => by cases hj; omega)) hb3
                have bo3 := (HLP.out.bo.only (Only.of_grown (ao := some ⟨qb, 0, none⟩) (n := 0) (c := 0) g2') (fun j hj hc => by have h0 := HWQS.out; have := (HLP.out.bo.blk j hj).1; simp [blkL] at hc; omega)).below hb3
                have on3 : Only [w1.heap.size, w1.heap.size + 1, qb] wq w3 := (HLP.out.only.trans ((Only.of_grown (ao := some ⟨qb, 0, none⟩) (n := 0) (c := 0) g2').wider (fun j hj => by simp [blkL] at hj; simp [hj]))).trans (Only.of_below hb3)
                have yo := hy3
                have hxs : qb < w3.heap.size := by have h1 := (Array.getElem?_eq_some_iff.1 h2.box).1; have h2 := hb3.size; omega
                have hxr : w1.heap.size + 1 < w3.heap.size := by have h1 := (Array.getElem?_eq_some_iff.1 HLP.out.pbox).1; have h2 := g2'.size; have h3 := hb3.size; omega
                clear x0 x1 x2 xf0 xf1 xf2 v0 v1 v2 vf0 vf1 vf2 p0 p1 p2 p3 p4 f0 f1 f2 f3 f4 d0 d1 d2 d3 d4 e0 e1 e2 e3 e4 hb3 h2 g2' hy3
                obtain ⟨⟨x0, x1, x2⟩, xf0, xf1, xf2⟩ := cells3 kr
                obtain ⟨⟨v0, v1, v2⟩, vf0, vf1, vf2⟩ := cells3 kq
                obtain ⟨⟨p0, p1, p2, p3, p4⟩, f0, f1, f2, f3, f4⟩ := cells5 kp
                have m4 : ¬ w3.heap.size = w1.heap.size := by omega
                have m5 : ¬ w3.heap.size = w1.heap.size + 1 := by omega
                have m6 : ¬ qb = w1.heap.size := by have := HWQS.out; omega
                have m7 : ¬ w1.heap.size = qb := by have := HWQS.out; omega
                have m8 : ¬ w1.heap.size = w3.heap.size := by omega
                have m9 : ¬ w1.heap.size + 1 = w3.heap.size := by omega
                -- the reader's mark, and one bind more
                have q3 := below_one w3 (.cells #[.slice y.oa y.on y.oc, .int .i64 y.K, .int .i64 y.N, .string y.S, .slice y.za y.zn y.zc] 80)
                have kr4 := set_block3b (kept_block kr q3) (.bool true)
                have kq4 := kept_set (j := 2) (u := .bool true) (kept_block kq q3) (show qb ≠ w1.heap.size from m6)
                have kp4 := kept_set (b := w1.heap.size) (j := 2) (u := .bool true) (kept_block kp q3) (by omega)
                have hwq4 : w1.heap.size + 1 < wq.heap.size ∧ qb < wq.heap.size := by have := HWQS.out; omega
                have bo4 := (bo3.below q3).set_below (g := w1.heap.size) (j := 2) (u := .bool true) (by omega)
                have on4 := (on3.trans (Only.of_below q3)).trans ((Only.set (w3.alloc (.cells #[.slice y.oa y.on y.oc, .int .i64 y.K, .int .i64 y.N, .string y.S, .slice y.za y.zn y.zc] 80)) w1.heap.size 2 (.bool true)).wider (fun j hj => by simp only [List.mem_singleton] at hj; simp [hj]))
                have yo4 := (yo.below q3).only (Only.set (w3.alloc (.cells #[.slice y.oa y.on y.oc, .int .i64 y.K, .int .i64 y.N, .string y.S, .slice y.za y.zn y.zc] 80)) w1.heap.size 2 (.bool true)) (fun j hj hc => by have := (yo.blk j hj).1; simp only [List.mem_singleton] at hc; omega)
                have q4 := below_one ((w3.alloc (.cells #[.slice y.oa y.on y.oc, .int .i64 y.K, .int .i64 y.N, .string y.S, .slice y.za y.zn y.zc] 80)).setCell ⟨w1.heap.size, 2, none⟩ (.bool true)) (.cells #[.slice y.oa y.on y.oc, .int .i64 y.K, .int .i64 y.N, .string y.S, .slice y.za y.zn y.zc] 80)
                have HKR := hide (kept_block kr4 q4)
                have HKQ := hide (kept_block kq4 q4)
                have HKP := hide (kept_block kp4 q4)
                have HBO4 := hide (bo4.below q4)
                have HON4 := hide (on4.trans (Only.of_below q4))
                have HYO4 := hide (yo4.below q4)
                have hrow4 := (bo4.below q4).row
                have hsz4 : wq.heap.size ≤ (((w3.alloc (.cells #[.slice y.oa y.on y.oc, .int .i64 y.K, .int .i64 y.N, .string y.S, .slice y.za y.zn y.zc] 80)).setCell ⟨w1.heap.size, 2, none⟩ (.bool true)).alloc (.cells #[.slice y.oa y.on y.oc, .int .i64 y.K, .int .i64 y.N, .string y.S, .slice y.za y.zn y.zc] 80)).heap.size := by have := on4.size; simp at this; simp; omega
                have HBN4 : Hid (∀ (j : Nat) (u : Value), y.cs[j]? = some u → (((w3.alloc (.cells #[.slice y.oa y.on y.oc, .int .i64 y.K, .int .i64 y.N, .string y.S, .slice y.za y.zn y.zc] 80)).setCell ⟨w1.heap.size, 2, none⟩ (.bool true)).alloc (.cells #[.slice y.oa y.on y.oc, .int .i64 y.K, .int .i64 y.N, .string y.S, .slice y.za y.zn y.zc] 80)).cell? ((⟨w3.heap.size + 1, 0, none⟩ : Addr).add j) = some u) := hide (by have h := bind_news ((w3.alloc (.cells #[.slice y.oa y.on y.oc, .int .i64 y.K, .int .i64 y.N, .string y.S, .slice y.za y.zn y.zc] 80)).setCell ⟨w1.heap.size, 2, none⟩ (.bool true)) y; rw [show ((w3.alloc (.cells #[.slice y.oa y.on y.oc, .int .i64 y.K, .int .i64 y.N, .string y.S, .slice y.za y.zn y.zc] 80)).setCell ⟨w1.heap.size, 2, none⟩ (.bool true)).heap.size = w3.heap.size + 1 by simp] at h; exact h)
                obtain ⟨⟨xa0, xa1, xa2⟩, xg0, xg1, xg2⟩ := cells3 (kept_block kr q3)
                obtain ⟨⟨va0, va1, va2⟩, -⟩ := cells3 (kept_block kq q3)
                obtain ⟨⟨pa0, pa1, pa2, pa3, pa4⟩, -⟩ := cells5 (kept_block kp q3)
                clear kr kq kp bo3 on3 yo kr4 kq4 kp4 bo4 on4 yo4 q4 q3
                go_wp2_with (at_builtin; refine wpList_append_own _ rfl _ _ 24 rfl wq.heap.size 80 i0 (.agg #[.slice none 0 0, .int .i64 0, .int .i64 0, .string ⟨#[]⟩, .slice none 0 0]) 5 80 Tryz.underlying24 hi hz0 hz1 hz2 rfl (by decide) _ ys.length (cBs ys) rfl hrow4 ⟨w3.heap.size + 1, 0, none⟩ 1 1 y.cs rfl rfl HBN4.out (cs_oneCell y) ?c1 ?c2 ?c3 ?_)
                case c1 => unfold maxLen; omega
                case c2 => omega
                case c3 => exact hsz4
                intro v' w5 how hgr _
                obtain ⟨lo', cap', rfl⟩ := own_slice how
                have bo5 := HBO4.out.push HYO4.out HND.out HAP.out hgr how
                have hlo : ∀ j, j < wq.heap.size → j ∉ blkL lo := fun j hj hc => by have := (HBO4.out.row.lt j (mem_blkL.2 hc)).1; omega
                have O5 := Only.of_grown hgr
                have kr5 := O5.kept HKR.out (hlo _ (by omega))
                have kq5 := O5.kept HKQ.out (hlo _ (by omega))
                have kp5 := O5.kept HKP.out (hlo _ (by omega))
                have on5 := HON4.out.grown_new hgr (fun j hj => (HBO4.out.row.lt j hj).1)
                clear x0 x1 x2 xf0 xf1 xf2 v0 v1 v2 vf0 vf1 vf2 p0 p1 p2 p3 p4 f0 f1 f2 f3 f4 xa0 xa1 xa2 xg0 xg1 xg2 va0 va1 va2 pa0 pa1 pa2 pa3 pa4
                obtain ⟨⟨p0, p1, p2, p3, p4⟩, f0, f1, f2, f3, f4⟩ := cells5 kp5
                have hend : SLoop z wq (w5.setCell ⟨w1.heap.size + 1, 4, none⟩ (.slice lo' (ys.length + 1) cap')) w1.heap.size (w1.heap.size + 1) qb bo body.length bc rt qo qc zs k id a b true nx' false (ys ++ [y]) lo' cap' :=
                  ⟨kept_set kr5 (by omega), kept_set kq5 (by omega), (by have := heap_setCell_same w5 (w1.heap.size + 1) 4 _ _ (.slice lo' (ys.length + 1) cap') kp5; simpa using this), (by simpa using bo5.set_below (g := w1.heap.size + 1) (j := 4) (u := .slice lo' (ys.length + 1) cap') (by omega)), on5.trans ((Only.set w5 (w1.heap.size + 1) 4 (.slice lo' (ys.length + 1) cap')).wider (fun j hj => by simp only [List.mem_singleton] at hj; simp [hj])), .inl ⟨rfl, HNP.out⟩⟩
                have HEND := hide hend
                have HC5 := hide (cells5 hend.pbox).1.2.2.2.2
                have HC0 := hide (cells5 HLP.out.pbox).1.2.2.2.2
                clear hend kr5 kq5 kp5 bo5 on5 O5 how hgr hlo HKR HKQ HKP HBO4 HON4 HYO4 hrow4 hsz4 m4 m5 m6 m7 m8 m9
                go_wp2
                go_roundw
                case rel => exact ⟨true, nx', false, ys ++ [y], lo', cap', HEND.out, fun h => by cases h⟩
                case measure =>
                  rw [HC5.out, HC0.out]
                  simp only [Option.getD_some, lenOf, List.length_append, List.length_cons, List.length_nil]
                  omega
              · have HBX := hide hbx
                have HNEXT := hide hnext
                clear hbx hnext hwq2
                go_wp2_with fail
                go_quiet (fail)
                go_wp2_with fail
                refine (spart_good qb qo zs.length qc zs qt 48 b' nx' HT'.out _ (HSR.out.below (below_drewN (Below.refl _ _) _))).mono ?_
                rintro e w2 ⟨bo2, bc2, rfl, r2, h2, g2, -⟩
                have g2' : wr.grownBy w2 (some qb) := ⟨g2.os, g2.tape, g2.output, g2.size, g2.block⟩
                clear g2
                go_wp2_with fail
                refine (sbind_yes _ _ _ b' x HBX.out _ r2 (by omega)).mono ?_
                rintro e w3 ⟨y, rfl, hyd, hnew, hb3⟩
                have HYD := hide hyd
                have hon2 := HLP.out.only.size
                have hg2s := g2'.size
                have hy3 : BOwn w3 wq.heap.size y := hnew.own.lt (by omega)
                have HND := hide hnew.nd
                have HAP : Hid (∀ z ∈ ys, ∀ b ∈ z.blks, b ∉ y.blks) := hide (fun z hz b hb hc => by have h1 := ((HLP.out.bo.item z hz).blk b hb).2; have h2 := (hnew.own.blk b hc).1; omega)
                clear hyd hnew hon2 hg2s
                have kr := kept_block (kept_grown HLP.out.rbox g2' (fun j hj => by cases hj; omega)) hb3
                have kq := kept_block h2.box hb3
                have kp := kept_block (kept_grown HLP.out.pbox g2' (fun j hj => by cases hj; omega)) hb3
                have bo3 := (HLP.out.bo.only (Only.of_grown (ao := some ⟨qb, 0, none⟩) (n := 0) (c := 0) g2') (fun j hj hc => by have h0 := HWQS.out; have := (HLP.out.bo.blk j hj).1; simp [blkL] at hc; omega)).below hb3
                have on3 : Only [w1.heap.size, w1.heap.size + 1, qb] wq w3 := (HLP.out.only.trans ((Only.of_grown (ao := some ⟨qb, 0, none⟩) (n := 0) (c := 0) g2').wider (fun j hj => by simp [blkL] at hj; simp [hj]))).trans (Only.of_below hb3)
                have yo := hy3
                have hxs : qb < w3.heap.size := by have h1 := (Array.getElem?_eq_some_iff.1 h2.box).1; have h2 := hb3.size; omega
                have hxr : w1.heap.size + 1 < w3.heap.size := by have h1 := (Array.getElem?_eq_some_iff.1 HLP.out.pbox).1; have h2 := g2'.size; have h3 := hb3.size; omega
                clear x0 x1 x2 xf0 xf1 xf2 v0 v1 v2 vf0 vf1 vf2 p0 p1 p2 p3 p4 f0 f1 f2 f3 f4 d0 d1 d2 d3 d4 e0 e1 e2 e3 e4 hb3 h2 g2' hy3
                obtain ⟨⟨x0, x1, x2⟩, xf0, xf1, xf2⟩ := cells3 kr
                obtain ⟨⟨v0, v1, v2⟩, vf0, vf1, vf2⟩ := cells3 kq
                obtain ⟨⟨p0, p1, p2, p3, p4⟩, f0, f1, f2, f3, f4⟩ := cells5 kp
                have m4 : ¬ w3.heap.size = w1.heap.size := by omega
                have m5 : ¬ w3.heap.size = w1.heap.size + 1 := by omega
                have m6 : ¬ qb = w1.heap.size := by have := HWQS.out; omega
                have m7 : ¬ w1.heap.size = qb := by have := HWQS.out; omega
                have m8 : ¬ w1.heap.size = w3.heap.size := by omega
                have m9 : ¬ w1.heap.size + 1 = w3.heap.size := by omega
                -- the reader's mark, and one bind more
                have q3 := below_one w3 (.cells #[.slice y.oa y.on y.oc, .int .i64 y.K, .int .i64 y.N, .string y.S, .slice y.za y.zn y.zc] 80)
                have kr4 := set_block3b (kept_block kr q3) (.bool false)
                have kq4 := kept_set (j := 2) (u := .bool false) (kept_block kq q3) (show qb ≠ w1.heap.size from m6)
                have kp4 := kept_set (b := w1.heap.size) (j := 2) (u := .bool false) (kept_block kp q3) (by omega)
                have hwq4 : w1.heap.size + 1 < wq.heap.size ∧ qb < wq.heap.size := by have := HWQS.out; omega
                have bo4 := (bo3.below q3).set_below (g := w1.heap.size) (j := 2) (u := .bool false) (by omega)
                have on4 := (on3.trans (Only.of_below q3)).trans ((Only.set (w3.alloc (.cells #[.slice y.oa y.on y.oc, .int .i64 y.K, .int .i64 y.N, .string y.S, .slice y.za y.zn y.zc] 80)) w1.heap.size 2 (.bool false)).wider (fun j hj => by simp only [List.mem_singleton] at hj; simp [hj]))
                have yo4 := (yo.below q3).only (Only.set (w3.alloc (.cells #[.slice y.oa y.on y.oc, .int .i64 y.K, .int .i64 y.N, .string y.S, .slice y.za y.zn y.zc] 80)) w1.heap.size 2 (.bool false)) (fun j hj hc => by have := (yo.blk j hj).1; simp only [List.mem_singleton] at hc; omega)
                have q4 := below_one ((w3.alloc (.cells #[.slice y.oa y.on y.oc, .int .i64 y.K, .int .i64 y.N, .string y.S, .slice y.za y.zn y.zc] 80)).setCell ⟨w1.heap.size, 2, none⟩ (.bool false)) (.cells #[.slice y.oa y.on y.oc, .int .i64 y.K, .int .i64 y.N, .string y.S, .slice y.za y.zn y.zc] 80)
                have HKR := hide (kept_block kr4 q4)
                have HKQ := hide (kept_block kq4 q4)
                have HKP := hide (kept_block kp4 q4)
                have HBO4 := hide (bo4.below q4)
                have HON4 := hide (on4.trans (Only.of_below q4))
                have HYO4 := hide (yo4.below q4)
                have hrow4 := (bo4.below q4).row
                have hsz4 : wq.heap.size ≤ (((w3.alloc (.cells #[.slice y.oa y.on y.oc, .int .i64 y.K, .int .i64 y.N, .string y.S, .slice y.za y.zn y.zc] 80)).setCell ⟨w1.heap.size, 2, none⟩ (.bool false)).alloc (.cells #[.slice y.oa y.on y.oc, .int .i64 y.K, .int .i64 y.N, .string y.S, .slice y.za y.zn y.zc] 80)).heap.size := by have := on4.size; simp at this; simp; omega
                have HBN4 : Hid (∀ (j : Nat) (u : Value), y.cs[j]? = some u → (((w3.alloc (.cells #[.slice y.oa y.on y.oc, .int .i64 y.K, .int .i64 y.N, .string y.S, .slice y.za y.zn y.zc] 80)).setCell ⟨w1.heap.size, 2, none⟩ (.bool false)).alloc (.cells #[.slice y.oa y.on y.oc, .int .i64 y.K, .int .i64 y.N, .string y.S, .slice y.za y.zn y.zc] 80)).cell? ((⟨w3.heap.size + 1, 0, none⟩ : Addr).add j) = some u) := hide (by have h := bind_news ((w3.alloc (.cells #[.slice y.oa y.on y.oc, .int .i64 y.K, .int .i64 y.N, .string y.S, .slice y.za y.zn y.zc] 80)).setCell ⟨w1.heap.size, 2, none⟩ (.bool false)) y; rw [show ((w3.alloc (.cells #[.slice y.oa y.on y.oc, .int .i64 y.K, .int .i64 y.N, .string y.S, .slice y.za y.zn y.zc] 80)).setCell ⟨w1.heap.size, 2, none⟩ (.bool false)).heap.size = w3.heap.size + 1 by simp] at h; exact h)
                obtain ⟨⟨xa0, xa1, xa2⟩, xg0, xg1, xg2⟩ := cells3 (kept_block kr q3)
                obtain ⟨⟨va0, va1, va2⟩, -⟩ := cells3 (kept_block kq q3)
                obtain ⟨⟨pa0, pa1, pa2, pa3, pa4⟩, -⟩ := cells5 (kept_block kp q3)
                clear kr kq kp bo3 on3 yo kr4 kq4 kp4 bo4 on4 yo4 q4 q3
                go_wp2_with (at_builtin; refine wpList_append_own _ rfl _ _ 24 rfl wq.heap.size 80 i0 (.agg #[.slice none 0 0, .int .i64 0, .int .i64 0, .string ⟨#[]⟩, .slice none 0 0]) 5 80 Tryz.underlying24 hi hz0 hz1 hz2 rfl (by decide) _ ys.length (cBs ys) rfl hrow4 ⟨w3.heap.size + 1, 0, none⟩ 1 1 y.cs rfl rfl HBN4.out (cs_oneCell y) ?c1 ?c2 ?c3 ?_)
                case c1 => unfold maxLen; omega
                case c2 => omega
                case c3 => exact hsz4
                intro v' w5 how hgr _
                obtain ⟨lo', cap', rfl⟩ := own_slice how
                have bo5 := HBO4.out.push HYO4.out HND.out HAP.out hgr how
                have hlo : ∀ j, j < wq.heap.size → j ∉ blkL lo := fun j hj hc => by have := (HBO4.out.row.lt j (mem_blkL.2 hc)).1; omega
                have O5 := Only.of_grown hgr
                have kr5 := O5.kept HKR.out (hlo _ (by omega))
                have kq5 := O5.kept HKQ.out (hlo _ (by omega))
                have kp5 := O5.kept HKP.out (hlo _ (by omega))
                have on5 := HON4.out.grown_new hgr (fun j hj => (HBO4.out.row.lt j hj).1)
                clear x0 x1 x2 xf0 xf1 xf2 v0 v1 v2 vf0 vf1 vf2 p0 p1 p2 p3 p4 f0 f1 f2 f3 f4 xa0 xa1 xa2 xg0 xg1 xg2 va0 va1 va2 pa0 pa1 pa2 pa3 pa4
                obtain ⟨⟨p0, p1, p2, p3, p4⟩, f0, f1, f2, f3, f4⟩ := cells5 kp5
                have hend : SLoop z wq (w5.setCell ⟨w1.heap.size + 1, 4, none⟩ (.slice lo' (ys.length + 1) cap')) w1.heap.size (w1.heap.size + 1) qb bo body.length bc rt qo qc zs k id a b false nx' false (ys ++ [y]) lo' cap' :=
                  ⟨kept_set kr5 (by omega), kept_set kq5 (by omega), (by have := heap_setCell_same w5 (w1.heap.size + 1) 4 _ _ (.slice lo' (ys.length + 1) cap') kp5; simpa using this), (by simpa using bo5.set_below (g := w1.heap.size + 1) (j := 4) (u := .slice lo' (ys.length + 1) cap') (by omega)), on5.trans ((Only.set w5 (w1.heap.size + 1) 4 (.slice lo' (ys.length + 1) cap')).wider (fun j hj => by simp only [List.mem_singleton] at hj; simp [hj])), .inr ⟨rfl, rfl, HNEXT.out y HYD.out⟩⟩
                have HEND := hide hend
                have HC5 := hide (cells5 hend.pbox).1.2.2.2.2
                have HC0 := hide (cells5 HLP.out.pbox).1.2.2.2.2
                clear hend kr5 kq5 kp5 bo5 on5 O5 how hgr hlo HKR HKQ HKP HBO4 HON4 HYO4 hrow4 hsz4 m4 m5 m6 m7 m8 m9
                go_wp2
                go_roundw
                case rel => exact ⟨false, nx', false, ys ++ [y], lo', cap', HEND.out, by simp⟩
                case measure =>
                  rw [HC5.out, HC0.out]
                  simp only [Option.getD_some, lenOf, List.length_append, List.length_cons, List.length_nil]
                  omega
          · have HBS : Hid (getBs 10 zs 0 = none) := hide (HRD.out.long hzb (by omega))
            go_wp2_with fail
            go_quiet (fail)
            by_cases hnx : nx = n
            · subst hnx
              by_cases hrt : rt = body.length
              · have hqn : (qt != (zs.length : Int)) = true := by simp; omega
                have hrt' : (rt != (body.length : Int)) = false := by simpa using hrt
                have HN : Hid (r = none) := hide (HR0.out.symm.trans (getP_tail0 (by rw [hzl]; exact HT.out) (by rw [HTL.out, HBS.out]; simp)))
                go_wp2_with fail
                go_quiet (fail)
                go_wp2
                refine bodyPost_ret (v := .tuple #[.agg #[.int .i64 0, .int .i64 0, .int .i64 0, .int .i64 0, .slice none 0 0], .bool false]) (by simp [results, Tryz.results36, go_sem, *]) rfl ⟨by rw [HN.out]; exact ⟨0, 0, 0, 0, [], none, 0, rfl, bowns_nil _ _, rfl⟩, ?_⟩
                repeat (refine below_set ?_ (Nat.le_refl _) _ _)
                exact below_drewN HBW.out _
              · have hrt' : (rt != (body.length : Int)) = true := by simpa using hrt
                have HN : Hid (r = none) := hide (HR0.out.symm.trans (getP_tail0 (by rw [hzl]; exact HT.out) (by rw [HTL.out, if_neg hrt])))
                go_wp2_with fail
                go_quiet (fail)
                go_wp2
                refine bodyPost_ret (v := .tuple #[.agg #[.int .i64 0, .int .i64 0, .int .i64 0, .int .i64 0, .slice none 0 0], .bool false]) (by simp [results, Tryz.results36, go_sem, *]) rfl ⟨by rw [HN.out]; exact ⟨0, 0, 0, 0, [], none, 0, rfl, bowns_nil _ _, rfl⟩, ?_⟩
                repeat (refine below_set ?_ (Nat.le_refl _) _ _)
                exact below_drewN HBW.out _
            · have hnn : (nx != (n : Int)) = true := by simpa using hnx
              have HN : Hid (r = none) := hide (HR0.out.symm.trans (getP_no HT.out (.inr (by omega))))
              go_wp2_with fail
              go_quiet (fail)
              go_wp2
              refine bodyPost_ret (v := .tuple #[.agg #[.int .i64 0, .int .i64 0, .int .i64 0, .int .i64 0, .slice none 0 0], .bool false]) (by simp [results, Tryz.results36, go_sem, *]) rfl ⟨by rw [HN.out]; exact ⟨0, 0, 0, 0, [], none, 0, rfl, bowns_nil _ _, rfl⟩, ?_⟩
              repeat (refine below_set ?_ (Nat.le_refl _) _ _)
              exact below_drewN HBW.out _
        · have hqe : qt = zs.length := by omega
          subst hqe
          have HBS := hide HRD.out.done
          go_wp2_with fail
          go_quiet (fail)
          by_cases hnx : nx = n
          · subst hnx
            by_cases hrt : rt = body.length
            · have hrt' : (rt != (body.length : Int)) = false := by simpa using hrt
              have CELLS : Hid (∀ W, Below wr.heap.size wr W → (W.cell? ⟨w1.heap.size, 0, none⟩ = some (.slice bo body.length bc) ∧ W.cell? ⟨w1.heap.size, 1, none⟩ = some (.int .i64 rt) ∧ W.cell? ⟨w1.heap.size, 2, none⟩ = some (.bool false)) ∧ (W.cell? ⟨qb, 0, none⟩ = some (.slice qo zs.length qc) ∧ W.cell? ⟨qb, 1, none⟩ = some (.int .i64 (zs.length : Int)) ∧ W.cell? ⟨qb, 2, none⟩ = some (.bool false)) ∧ (W.cell? ⟨w1.heap.size + 1, 0, none⟩ = some (.int .i64 k) ∧ W.cell? ⟨w1.heap.size + 1, 1, none⟩ = some (.int .i64 id) ∧ W.cell? ⟨w1.heap.size + 1, 2, none⟩ = some (.int .i64 a) ∧ W.cell? ⟨w1.heap.size + 1, 3, none⟩ = some (.int .i64 b) ∧ W.cell? ⟨w1.heap.size + 1, 4, none⟩ = some (.slice lo ys.length cap))) := fun W h => ⟨(cells3 (kept_block HLP.out.rbox h)).1, (cells3 (kept_block HLP.out.qbox h)).1, (cells5 (kept_block HLP.out.pbox h)).1⟩
              have BRW := hide HLP.out.bo.brow
              cases hok : okP k id a b (ys.map BI.d)
              · have HOK := hide hok
                have HN : Hid (r = none) := hide (HR0.out.symm.trans (by
                  by_cases hl : (ys.map BI.d).length ≤ 10
                  · rw [getP_tail1 (by rw [hzl]; exact HT.out) (by rw [HTL.out, if_pos hrt, getBs_ten hzb, HBS.out]; simp only [if_pos hl]; rfl), if_neg (by rw [hok]; decide)]
                  · exact getP_tail0 (by rw [hzl]; exact HT.out) (by rw [HTL.out, if_pos hrt, getBs_ten hzb, HBS.out]; simp only [if_neg hl]; rfl)))
                clear hok
                go_wp2_with fail
                go_region_held3 (fun W => (W.cell? ⟨w1.heap.size, 0, none⟩ = some (.slice bo body.length bc) ∧ W.cell? ⟨w1.heap.size, 1, none⟩ = some (.int .i64 rt) ∧ W.cell? ⟨w1.heap.size, 2, none⟩ = some (.bool false)) ∧ (W.cell? ⟨qb, 0, none⟩ = some (.slice qo zs.length qc) ∧ W.cell? ⟨qb, 1, none⟩ = some (.int .i64 (zs.length : Int)) ∧ W.cell? ⟨qb, 2, none⟩ = some (.bool false)) ∧ (W.cell? ⟨w1.heap.size + 1, 0, none⟩ = some (.int .i64 k) ∧ W.cell? ⟨w1.heap.size + 1, 1, none⟩ = some (.int .i64 id) ∧ W.cell? ⟨w1.heap.size + 1, 2, none⟩ = some (.int .i64 a) ∧ W.cell? ⟨w1.heap.size + 1, 3, none⟩ = some (.int .i64 b) ∧ W.cell? ⟨w1.heap.size + 1, 4, none⟩ = some (.slice lo ys.length cap))) (first | assumption | go_keep) (first
                  | (go_at_call 47; refine (specPduOk_any k id a b lo _ cap ys _ (BRW.out.below (below_drewN (Below.refl _ _) _))).mono ?_; rintro e w9 ⟨rfl, hb9⟩; rw [HOK.out]; have u9 : Below wr.heap.size wr w9 := undrew hb9; have hS9 := CELLS.out w9 u9))
                clear x0 x1 x2 xf0 xf1 xf2 v0 v1 v2 vf0 vf1 vf2 p0 p1 p2 p3 p4 f0 f1 f2 f3 f4 d0 d1 d2 d3 d4 e0 e1 e2 e3 e4 hS9
                obtain ⟨⟨d0, d1, d2, d3, d4⟩, e0, e1, e2, e3, e4⟩ := cells5 (kept_block HKZR.out u9)
                have HB9 := hide (HBW.out.trans (u9.mono HBW.out.size))
                clear u9 hb9
                go_wp2
                refine bodyPost_ret (v := .tuple #[.agg #[.int .i64 0, .int .i64 0, .int .i64 0, .int .i64 0, .slice none 0 0], .bool false]) (by simp [results, Tryz.results36, go_sem, *]) rfl ⟨by rw [HN.out]; exact ⟨0, 0, 0, 0, [], none, 0, rfl, bowns_nil _ _, rfl⟩, ?_⟩
                repeat (refine below_set ?_ (Nat.le_refl _) _ _)
                exact HB9.out
              · have HOK := hide hok
                have hl : (ys.map BI.d).length ≤ 10 := (okP_parts hok).2.2.2.2.2.2
                have HN : Hid (r = some ⟨k, id, a, b, ys.map BI.d⟩) := hide (HR0.out.symm.trans (by
                  rw [getP_tail1 (by rw [hzl]; exact HT.out) (by rw [HTL.out, if_pos hrt, getBs_ten hzb, HBS.out]; simp only [if_pos hl]; rfl), if_pos hok]))
                clear hok hl
                go_wp2_with fail
                go_region_held3 (fun W => (W.cell? ⟨w1.heap.size, 0, none⟩ = some (.slice bo body.length bc) ∧ W.cell? ⟨w1.heap.size, 1, none⟩ = some (.int .i64 rt) ∧ W.cell? ⟨w1.heap.size, 2, none⟩ = some (.bool false)) ∧ (W.cell? ⟨qb, 0, none⟩ = some (.slice qo zs.length qc) ∧ W.cell? ⟨qb, 1, none⟩ = some (.int .i64 (zs.length : Int)) ∧ W.cell? ⟨qb, 2, none⟩ = some (.bool false)) ∧ (W.cell? ⟨w1.heap.size + 1, 0, none⟩ = some (.int .i64 k) ∧ W.cell? ⟨w1.heap.size + 1, 1, none⟩ = some (.int .i64 id) ∧ W.cell? ⟨w1.heap.size + 1, 2, none⟩ = some (.int .i64 a) ∧ W.cell? ⟨w1.heap.size + 1, 3, none⟩ = some (.int .i64 b) ∧ W.cell? ⟨w1.heap.size + 1, 4, none⟩ = some (.slice lo ys.length cap))) (first | assumption | go_keep) (first
                  | (go_at_call 47; refine (specPduOk_any k id a b lo _ cap ys _ (BRW.out.below (below_drewN (Below.refl _ _) _))).mono ?_; rintro e w9 ⟨rfl, hb9⟩; rw [HOK.out]; have u9 : Below wr.heap.size wr w9 := undrew hb9; have hS9 := CELLS.out w9 u9))
                clear x0 x1 x2 xf0 xf1 xf2 v0 v1 v2 vf0 vf1 vf2 p0 p1 p2 p3 p4 f0 f1 f2 f3 f4 d0 d1 d2 d3 d4 e0 e1 e2 e3 e4 hS9
                obtain ⟨⟨d0, d1, d2, d3, d4⟩, e0, e1, e2, e3, e4⟩ := cells5 (kept_block HKZR.out u9)
                obtain ⟨⟨p0, p1, p2, p3, p4⟩, f0, f1, f2, f3, f4⟩ := cells5 (kept_block HLP.out.pbox u9)
                have HB9 := hide (HBW.out.trans (u9.mono HBW.out.size))
                have HBO9 := hide (HLP.out.bo.below u9)
                have hwq9 := HWQS.out
                have m9 : w.heap.size < wq.heap.size := by omega
                clear u9 hb9 hwq9
                go_wp2
                refine bodyPost_ret (v := .tuple #[.agg #[.int .i64 k, .int .i64 id, .int .i64 a, .int .i64 b, .slice lo ys.length cap], .bool true]) (by simp [results, Tryz.results36, go_sem, *]) rfl ⟨by rw [HN.out]; refine ⟨k, id, a, b, ys, lo, cap, rfl, BOwns.lt (base := wq.heap.size) ?_ (by omega), rfl⟩; (repeat (refine BOwns.set_below ?_ m9)); exact HBO9.out, ?_⟩
                repeat (refine below_set ?_ (Nat.le_refl _) _ _)
                exact HB9.out
            · have hrt' : (rt != (body.length : Int)) = true := by simpa using hrt
              have HN : Hid (r = none) := hide (HR0.out.symm.trans (getP_tail0 (by rw [hzl]; exact HT.out) (by rw [HTL.out, if_neg hrt])))
              go_wp2_with fail
              go_quiet (fail)
              go_wp2
              refine bodyPost_ret (v := .tuple #[.agg #[.int .i64 0, .int .i64 0, .int .i64 0, .int .i64 0, .slice none 0 0], .bool false]) (by simp [results, Tryz.results36, go_sem, *]) rfl ⟨by rw [HN.out]; exact ⟨0, 0, 0, 0, [], none, 0, rfl, bowns_nil _ _, rfl⟩, ?_⟩
              repeat (refine below_set ?_ (Nat.le_refl _) _ _)
              exact below_drewN HBW.out _
          · have hnn : (nx != (n : Int)) = true := by simpa using hnx
            have HN : Hid (r = none) := hide (HR0.out.symm.trans (getP_no HT.out (.inr (by omega))))
            go_wp2_with fail
            go_quiet (fail)
            go_wp2
            refine bodyPost_ret (v := .tuple #[.agg #[.int .i64 0, .int .i64 0, .int .i64 0, .int .i64 0, .slice none 0 0], .bool false]) (by simp [results, Tryz.results36, go_sem, *]) rfl ⟨by rw [HN.out]; exact ⟨0, 0, 0, 0, [], none, 0, rfl, bowns_nil _ _, rfl⟩, ?_⟩
            repeat (refine below_set ?_ (Nat.le_refl _) _ _)
            exact below_drewN HBW.out _

end Go.Proofs.YtamglfhnhjgdjaaGreatDoor
