/-
  The program's reader of a request, by contracts; what it gives up by is caught at GetPdu.
-/
import Derived.Test.YtgfkpgdkkmgjkaaGreatDoorPduGet4
import Derived.Test.YtgfkpgdkkmgjkaaGreatDoorPduOk
namespace Go.Proofs.YtgfkpgdkkmgjkaaGreatDoor
open Go.RowKit

theorem getBs_fuel : ∀ (l : List BD) (f g : Nat) (zs : List Int) (t : Int), getBs f zs t = some l → l.length ≤ g → getBs g zs t = some l := by
  intro l
  induction l with
  | nil =>
    intro f g zs t h _
    by_cases ht : t = zs.length
    · cases g <;> simp [getBs, ht]
    · exfalso
      cases f with
      | zero => simp [getBs, ht] at h
      | succ f =>
        cases hm : partM zs t 48 with
        | none => rw [getBs_no1 ht hm] at h; cases h
        | some bn =>
          obtain ⟨b, nx⟩ := bn
          cases hb : getB b with
          | none => rw [getBs_no2 ht hm hb] at h; cases h
          | some x =>
            rw [getBs_yes ht hm hb] at h
            cases hr : getBs f zs nx <;> simp [hr] at h
  | cons x l ih =>
    intro f g zs t h hg
    by_cases ht : t = zs.length
    · cases f <;> simp [getBs, ht] at h
    · cases f with
      | zero => simp [getBs, ht] at h
      | succ f =>
        cases g with
        | zero => simp at hg
        | succ g =>
          cases hm : partM zs t 48 with
          | none => rw [getBs_no1 ht hm] at h; cases h
          | some bn =>
            obtain ⟨b, nx⟩ := bn
            cases hb : getB b with
            | none => rw [getBs_no2 ht hm hb] at h; cases h
            | some y =>
              rw [getBs_yes ht hm hb] at h
              cases hr : getBs f zs nx with
              | none => rw [hr] at h; simp at h
              | some r =>
                rw [hr] at h
                simp only [Option.map_some, Option.some.injEq, List.cons.injEq] at h
                obtain ⟨rfl, rfl⟩ := h
                rw [getBs_yes ht hm hb, ih f g zs nx hr (by simp at hg; omega)]
                rfl

theorem flatB_two (l : List BD) : 2 * l.length ≤ (flatB l).length := by
  induction l with
  | nil => simp [flatB]
  | cons x r ih => rw [flatB_cons, List.length_append, List.length_cons]; have := tlvB_len 48 (putB x); omega

/-- With whatever room: the same binds, ten at most. -/
theorem getBs_ten {zs : List Int} (hz : Byt zs) : getBs 10 zs 0 = match getBs zs.length zs 0 with
    | some l => if l.length ≤ 10 then some l else none
    | none => none := by
  cases h10 : getBs 10 zs 0 with
  | some l =>
    obtain ⟨-, h1, h2⟩ := getBs_read 10 zs 0 l hz (by omega) (by omega) h10
    have hl : l.length ≤ zs.length := by have := flatB_two l; rw [← h2] at this; simp at this; omega
    rw [getBs_fuel l 10 zs.length zs 0 h10 hl]
    simp [h1]
  | none =>
    cases hn : getBs zs.length zs 0 with
    | none => rfl
    | some l =>
      by_cases hl : l.length ≤ 10
      · rw [getBs_fuel l _ 10 zs 0 hn hl] at h10; cases h10
      · simp [hl]

theorem getP_no {z : List Int} {k : Int} {body : List Int} {nx : Int} {ok : Bool} (h : getTlv z 0 = (k, body, nx, ok)) (hb : ok = false ∨ ¬ nx = z.length) : getP z = none := by
  unfold getP
  rw [h]
  simp only
  rw [if_neg]
  rintro ⟨h1, h2⟩
  rcases hb with hb | hb
  · rw [hb] at h1; cases h1
  · exact hb h2
theorem getP_tail0 {z : List Int} {k : Int} {body : List Int} (h : getTlv z 0 = (k, body, (z.length : Int), true)) (ht : getTail body = none) : getP z = none := by
  unfold getP
  rw [h]
  simp [ht]
theorem getP_tail1 {z : List Int} {k : Int} {body : List Int} {id a b : Int} {l : List BD} (h : getTlv z 0 = (k, body, (z.length : Int), true)) (ht : getTail body = some (id, a, b, l)) : getP z = if okP k id a b l = true then some ⟨k, id, a, b, l⟩ else none := by
  unfold getP
  rw [h]
  simp [ht]
theorem tail_no1 {body : List Int} (h : numM body 0 = none) : getTail body = none := by unfold getTail; rw [h]
theorem tail_no2 {body : List Int} {i t1 : Int} (h : numM body 0 = some (i, t1)) (h2 : numM body t1 = none) : getTail body = none := by unfold getTail; simp only [h, h2]
theorem tail_no3 {body : List Int} {i t1 a t2 : Int} (h : numM body 0 = some (i, t1)) (h2 : numM body t1 = some (a, t2)) (h3 : numM body t2 = none) : getTail body = none := by unfold getTail; simp only [h, h2, h3]
theorem tail_no4 {body : List Int} {i t1 a t2 b t3 : Int} (h : numM body 0 = some (i, t1)) (h2 : numM body t1 = some (a, t2)) (h3 : numM body t2 = some (b, t3)) (h4 : partM body t3 48 = none) : getTail body = none := by unfold getTail; simp only [h, h2, h3, h4]
theorem tail_is {body : List Int} {i t1 a t2 b t3 t4 : Int} {zs : List Int} (h : numM body 0 = some (i, t1)) (h2 : numM body t1 = some (a, t2)) (h3 : numM body t2 = some (b, t3)) (h4 : partM body t3 48 = some (zs, t4)) : getTail body = if t4 = body.length then (getBs 10 zs 0).map (fun l => (i, a, b, l)) else none := by unfold getTail; simp only [h, h2, h3, h4]

/-- Where a request's reading stands: its reader, its box. -/
structure PSt (w1 wr : World) (rb pb : Nat) (bo : Option Addr) (bl bc : Nat) (t k a1 a2 a3 : Int) (v4 : Value) : Prop where
  rbox : wr.heap[rb]? = some (.cells #[.slice bo bl bc, .int .i64 t] 161)
  pbox : wr.heap[pb]? = some (.cells #[.int .i64 k, .int .i64 a1, .int .i64 a2, .int .i64 a3, v4] 26)
  low : Below w1.heap.size w1 wr
  rlow : w1.heap.size ≤ rb
  plow : w1.heap.size ≤ pb
  ne : rb ≠ pb

section
variable {w1 wr w' : World} {rb pb : Nat} {bo : Option Addr} {bl bc : Nat} {t k a1 a2 a3 : Int} {v4 : Value}

theorem PSt.rdr (h : PSt w1 wr rb pb bo bl bc t k a1 a2 a3 v4) {zs : List Int} (hr : Row w1 bo bl bc zs) (hs : bl ≤ 1048576) : Rdr wr rb bo bl bc zs t := ⟨h.rbox, hr.below h.low, hs⟩
theorem PSt.next (h : PSt w1 wr rb pb bo bl bc t k a1 a2 a3 v4) {zs : List Int} {t' : Int} (hg : wr.grownBy w' (some rb)) (hR : Rdr w' rb bo bl bc zs t') : PSt w1 w' rb pb bo bl bc t' k a1 a2 a3 v4 :=
  ⟨hR.box, kept_grown h.pbox hg (fun j hj => by cases hj; exact h.ne), h.low.grown hg h.low.size (fun j hj => by cases hj; exact h.rlow), h.rlow, h.plow, h.ne⟩
theorem PSt.below (h : PSt w1 wr rb pb bo bl bc t k a1 a2 a3 v4) (hb : Below wr.heap.size wr w') : PSt w1 w' rb pb bo bl bc t k a1 a2 a3 v4 :=
  ⟨kept_block h.rbox hb, kept_block h.pbox hb, h.low.trans (hb.mono h.low.size), h.rlow, h.plow, h.ne⟩
theorem PSt.set1 (h : PSt w1 wr rb pb bo bl bc t k a1 a2 a3 v4) (x : Int) : PSt w1 (wr.setCell ⟨pb, 1, none⟩ (.int .i64 x)) rb pb bo bl bc t k x a2 a3 v4 :=
  ⟨kept_set h.rbox h.ne, (by have := heap_setCell_same wr pb 1 _ _ (.int .i64 x) h.pbox; simpa using this), below_set h.low h.plow _ _, h.rlow, h.plow, h.ne⟩
theorem PSt.set2 (h : PSt w1 wr rb pb bo bl bc t k a1 a2 a3 v4) (x : Int) : PSt w1 (wr.setCell ⟨pb, 2, none⟩ (.int .i64 x)) rb pb bo bl bc t k a1 x a3 v4 :=
  ⟨kept_set h.rbox h.ne, (by have := heap_setCell_same wr pb 2 _ _ (.int .i64 x) h.pbox; simpa using this), below_set h.low h.plow _ _, h.rlow, h.plow, h.ne⟩
theorem PSt.set3 (h : PSt w1 wr rb pb bo bl bc t k a1 a2 a3 v4) (x : Int) : PSt w1 (wr.setCell ⟨pb, 3, none⟩ (.int .i64 x)) rb pb bo bl bc t k a1 a2 x v4 :=
  ⟨kept_set h.rbox h.ne, (by have := heap_setCell_same wr pb 3 _ _ (.int .i64 x) h.pbox; simpa using this), below_set h.low h.plow _ _, h.rlow, h.plow, h.ne⟩
theorem PSt.set4 (h : PSt w1 wr rb pb bo bl bc t k a1 a2 a3 v4) (v : Value) : PSt w1 (wr.setCell ⟨pb, 4, none⟩ v) rb pb bo bl bc t k a1 a2 a3 v :=
  ⟨kept_set h.rbox h.ne, (by have := heap_setCell_same wr pb 4 _ _ v h.pbox; simpa using this), below_set h.low h.plow _ _, h.rlow, h.plow, h.ne⟩
end

theorem pst_new (w1 : World) (bo : Option Addr) (bl bc : Nat) (k : Int) : PSt w1 ((w1.alloc (.cells #[.slice bo bl bc, .int .i64 0] 161)).alloc (.cells #[.int .i64 k, .int .i64 0, .int .i64 0, .int .i64 0, .slice none 0 0] 26)) w1.heap.size (w1.heap.size + 1) bo bl bc 0 k 0 0 0 (.slice none 0 0) :=
  ⟨kept_block (block_last w1 _) (below_one _ _), (by have := block_last (w1.alloc (.cells #[.slice bo bl bc, .int .i64 0] 161)) (.cells #[.int .i64 k, .int .i64 0, .int .i64 0, .int .i64 0, .slice none 0 0] 26); simpa using this), below_two _ _ _, Nat.le_refl _, by omega, by omega⟩

/-- What comes of reading: nothing, or a request whose binds are the call's own. -/
def Comes (r : Option PD) (w : World) (e : Ending) (w' : World) : Prop :=
  (r = none ∧ GaveUp e) ∨ ∃ k id a b ys lo cap, r = some ⟨k, id, a, b, ys.map BI.d⟩ ∧ e = .returned (.agg #[.int .i64 k, .int .i64 id, .int .i64 a, .int .i64 b, .slice lo ys.length cap]) ∧ BOwns w' (w.heap.size + 1) lo ys.length cap ys

set_option maxRecDepth 100000 in
set_option maxHeartbeats 8000000 in
theorem readPdu_any (ao : Option Addr) (n c : Nat) (z : List Int) (r : Option PD) (hr0 : getP z = r) (w : World) (hr : Row w ao n c z) (hs : n ≤ 1048576) :
    Calls Tryz.prog 91 #[.slice ao n c] w fun e w' => Comes r w e w' ∧ Below w.heap.size w w' := by
  have hzl := hr.size
  have hby := hr.byte
  have q0 := below_one w (.cells #[.int .i64 0, .int .i64 0, .int .i64 0, .int .i64 0, .slice none 0 0] 26)
  have HR0 := hide hr0
  have HKZ := hide (block_last w (.cells #[.int .i64 0, .int .i64 0, .int .i64 0, .int .i64 0, .slice none 0 0] 26))
  have rw0 := hr.below q0
  rcases hT : getTlv z 0 with ⟨k, body, nx, ok⟩
  have HT := hide hT
  clear hr0 hT
  cases ok
  · have HN := hide (HR0.out.symm.trans (getP_no HT.out (.inl rfl)))
    go_enter Tryz.func91, Tryz.ntmps91
    go_wp2_with fail
    generalize (w.alloc (.cells #[.int .i64 0, .int .i64 0, .int .i64 0, .int .i64 0, .slice none 0 0] 26)) = wb at *
    refine (implGet_made _ _ _ z 0 k nx false body HT.out _ rw0 (by omega)).mono ?_
    rintro e w1 ⟨bo, bc, rfl, -, r1, u1⟩
    go_wp2_with fail
    refine (giveUp_yes _).mono ?_
    rintro e w2 ⟨⟨S, rfl⟩, rfl⟩
    go_wp2
    exact ⟨rfl, .inl ⟨HN.out, ⟨_, rfl⟩⟩, q0.trans (u1.mono q0.size)⟩
  · by_cases hnx : nx = n
    · subst hnx
      have hbl := tlv_short hby HT.out
      have hbb := byt_of_part hby HT.out
      have HT2 : Hid (getTlv z 0 = (k, body, (z.length : Int), true)) := hide (by rw [hzl]; exact HT.out)
      go_enter Tryz.func91, Tryz.ntmps91
      go_wp2_with fail
      generalize hwb : (w.alloc (.cells #[.int .i64 0, .int .i64 0, .int .i64 0, .int .i64 0, .slice none 0 0] 26)) = wb at *
      have hwbs : wb.heap.size = w.heap.size + 1 := by rw [← hwb]; simp
      have HWBS := hide hwbs
      clear hwb hwbs
      refine (implGet_made _ _ _ z 0 k n true body HT.out _ rw0 (by omega)).mono ?_
      rintro e w1 ⟨bo, bc, rfl, -, r1, u1⟩
      have HKZ1 := hide (kept_block HKZ.out u1)
      have hw1 : w.heap.size + 1 ≤ w1.heap.size := by have := u1.size; have := HWBS.out; omega
      have UW := hide (q0.trans (u1.mono q0.size))
      clear u1 HWBS HKZ rw0
      go_wp2_with fail
      refine (giveUp_no _).mono ?_
      rintro e w2 ⟨rfl, rfl⟩
      have P0 := pst_new w2 bo body.length bc k
      obtain ⟨⟨p0, p1, p2, p3, p4⟩, f0, f1, f2, f3, f4⟩ := cells5 P0.pbox
      have hsm : body.length ≤ 1048576 := by omega
      have R0 := P0.rdr r1 hsm
      have HP0 := hide P0
      clear P0
      go_wp2_with fail
      generalize ((w2.alloc (.cells #[.slice bo body.length bc, .int .i64 0] 161)).alloc (.cells #[.int .i64 k, .int .i64 0, .int .i64 0, .int .i64 0, .slice none 0 0] 26)) = wc at *
      -- the first number
      cases h1 : numM body 0 with
      | none =>
        have HN := hide (HR0.out.symm.trans (getP_tail0 HT2.out (tail_no1 h1)))
        refine (number_no w2.heap.size bo body.length bc body 0 h1 _ R0).mono ?_
        rintro e w3 ⟨⟨S, rfl⟩, g3⟩
        have L := HP0.out.low.grown g3 HP0.out.low.size (fun j hj => by cases hj; exact Nat.le_refl _)
        clear h1 p0 p1 p2 p3 p4 f0 f1 f2 f3 f4
        go_wp2
        exact ⟨rfl, .inl ⟨HN.out, ⟨_, rfl⟩⟩, UW.out.trans (L.mono (by omega))⟩
      | some it =>
        obtain ⟨id, t1⟩ := it
        refine (number_yes w2.heap.size bo body.length bc body 0 id t1 h1 _ R0).mono ?_
        rintro e w3 ⟨rfl, h3, g3⟩
        have H1 := hide h1
        have P1 := HP0.out.next g3 h3
        clear h1 p0 p1 p2 p3 p4 f0 f1 f2 f3 f4 HP0 R0 h3 g3
        obtain ⟨⟨p0, p1, p2, p3, p4⟩, f0, f1, f2, f3, f4⟩ := cells5 P1.pbox
        have HP1 := hide (P1.set1 id)
        have R1 := (P1.set1 id).rdr r1 hsm
        clear P1
        go_wp2_with fail
        generalize (w3.setCell ⟨w2.heap.size + 1, 1, none⟩ (.int .i64 id)) = w3a at *
        cases h2 : numM body t1 with
        | none =>
          have HN := hide (HR0.out.symm.trans (getP_tail0 HT2.out (tail_no2 H1.out h2)))
          refine (number_no w2.heap.size bo body.length bc body t1 h2 _ R1).mono ?_
          rintro e w4 ⟨⟨S, rfl⟩, g4⟩
          have L := HP1.out.low.grown g4 HP1.out.low.size (fun j hj => by cases hj; exact Nat.le_refl _)
          clear h2 p0 p1 p2 p3 p4 f0 f1 f2 f3 f4
          go_wp2
          exact ⟨rfl, .inl ⟨HN.out, ⟨_, rfl⟩⟩, UW.out.trans (L.mono (by omega))⟩
        | some it =>
          obtain ⟨a, t2⟩ := it
          refine (number_yes w2.heap.size bo body.length bc body t1 a t2 h2 _ R1).mono ?_
          rintro e w4 ⟨rfl, h4, g4⟩
          have H2 := hide h2
          have P2 := HP1.out.next g4 h4
          clear h2 p0 p1 p2 p3 p4 f0 f1 f2 f3 f4 HP1 R1 h4 g4
          obtain ⟨⟨p0, p1, p2, p3, p4⟩, f0, f1, f2, f3, f4⟩ := cells5 P2.pbox
          have HP2 := hide (P2.set2 a)
          have R2 := (P2.set2 a).rdr r1 hsm
          clear P2
          go_wp2_with fail
          generalize (w4.setCell ⟨w2.heap.size + 1, 2, none⟩ (.int .i64 a)) = w4a at *
          cases h3 : numM body t2 with
          | none =>
            have HN := hide (HR0.out.symm.trans (getP_tail0 HT2.out (tail_no3 H1.out H2.out h3)))
            refine (number_no w2.heap.size bo body.length bc body t2 h3 _ R2).mono ?_
            rintro e w5 ⟨⟨S, rfl⟩, g5⟩
            have L := HP2.out.low.grown g5 HP2.out.low.size (fun j hj => by cases hj; exact Nat.le_refl _)
            clear h3 p0 p1 p2 p3 p4 f0 f1 f2 f3 f4
            go_wp2
            exact ⟨rfl, .inl ⟨HN.out, ⟨_, rfl⟩⟩, UW.out.trans (L.mono (by omega))⟩
          | some it =>
            obtain ⟨b, t3⟩ := it
            refine (number_yes w2.heap.size bo body.length bc body t2 b t3 h3 _ R2).mono ?_
            rintro e w5 ⟨rfl, h5, g5⟩
            have H3 := hide h3
            have P3 := HP2.out.next g5 h5
            clear h3 p0 p1 p2 p3 p4 f0 f1 f2 f3 f4 HP2 R2 h5 g5
            obtain ⟨⟨p0, p1, p2, p3, p4⟩, f0, f1, f2, f3, f4⟩ := cells5 P3.pbox
            have HP3 := hide (P3.set3 b)
            have R3 := (P3.set3 b).rdr r1 hsm
            clear P3
            go_wp2_with fail
            generalize (w5.setCell ⟨w2.heap.size + 1, 3, none⟩ (.int .i64 b)) = w5a at *
            cases h4 : partM body t3 48 with
            | none =>
              have HN := hide (HR0.out.symm.trans (getP_tail0 HT2.out (tail_no4 H1.out H2.out H3.out h4)))
              refine (part_no w2.heap.size bo body.length bc body t3 48 h4 _ R3).mono ?_
              rintro e w6 ⟨⟨S, rfl⟩, g6⟩
              have L := HP3.out.low.grown g6 HP3.out.low.size (fun j hj => by cases hj; exact Nat.le_refl _)
              clear h4 p0 p1 p2 p3 p4 f0 f1 f2 f3 f4
              go_wp2
              exact ⟨rfl, .inl ⟨HN.out, ⟨_, rfl⟩⟩, UW.out.trans (L.mono (by omega))⟩
            | some bt =>
              obtain ⟨zs, t4⟩ := bt
              have hT4 := part_some h4
              have hzs := tlv_short hbb hT4
              have hzb := byt_of_part hbb hT4
              obtain ⟨-, q4, -, hq4, -, hql4, -, -⟩ := tlv_lies hbb hT4
              refine (part_yes w2.heap.size bo body.length bc body t3 48 zs t4 hT4 _ R3).mono ?_
              rintro e w6 ⟨bo6, bc6, rfl, r6, h6, g6⟩
              have HTL := hide (tail_is H1.out H2.out H3.out h4)
              have P4 := HP3.out.next g6 h6
              clear h4 hT4 p0 p1 p2 p3 p4 f0 f1 f2 f3 f4 HP3 R3 h6 g6 H1 H2 H3
              obtain ⟨⟨p0, p1, p2, p3, p4⟩, f0, f1, f2, f3, f4⟩ := cells5 P4.pbox
              have HP4 := hide P4
              clear P4
              go_wp2_with fail
              refine (readBinds_any _ _ _ zs _ rfl _ r6 (by omega)).mono ?_
              rintro e w7 ⟨hw7 | ⟨ys, lo, cap, hys, rfl, hbo⟩, hb7⟩
              · obtain ⟨hnone, ⟨S, rfl⟩⟩ := hw7
                have HN : Hid (r = none) := hide (HR0.out.symm.trans (getP_tail0 HT2.out (by rw [HTL.out, getBs_ten hzb, hnone]; simp)))
                have L := (HP4.out.below hb7).low
                clear hnone p0 p1 p2 p3 p4 f0 f1 f2 f3 f4
                go_wp2
                exact ⟨rfl, .inl ⟨HN.out, ⟨_, rfl⟩⟩, UW.out.trans (L.mono (by omega))⟩
              · have P5 := HP4.out.below hb7
                have HYS := hide hys
                have n6 := HP4.out.low.size
                have hb6 : (w2.heap.size + 1) < w6.heap.size := (Array.getElem?_eq_some_iff.1 HP4.out.pbox).1
                have hbo' := hbo.lt (base' := w2.heap.size + 2) (by omega)
                clear p0 p1 p2 p3 p4 f0 f1 f2 f3 f4 HP4 hb7 hys hbo
                obtain ⟨⟨p0, p1, p2, p3, p4⟩, f0, f1, f2, f3, f4⟩ := cells5 P5.pbox
                have P6 := P5.set4 (.slice lo ys.length cap)
                have R6 := P6.rdr r1 hsm
                have HBO := hide (hbo'.set_below (g := w2.heap.size + 1) (j := 4) (u := .slice lo ys.length cap) (by omega))
                have HP6 := hide P6
                clear P5 P6 hbo'
                go_wp2_with fail
                generalize (w7.setCell ⟨w2.heap.size + 1, 4, none⟩ (.slice lo ys.length cap)) = w7a at *
                refine (more_any w2.heap.size bo body.length bc body t4 _ R6).mono ?_
                rintro e w8 ⟨rfl, hb8⟩
                have P7 := HP6.out.below hb8
                have HBO8 := hide (HBO.out.below hb8)
                clear p0 p1 p2 p3 p4 f0 f1 f2 f3 f4 HP6 hb8 HBO R6
                obtain ⟨⟨p0, p1, p2, p3, p4⟩, f0, f1, f2, f3, f4⟩ := cells5 P7.pbox
                have HP7 := hide P7
                clear P7
                by_cases hm : t4 < body.length
                · rw [decide_eq_true hm]
                  have HN : Hid (r = none) := hide (HR0.out.symm.trans (getP_tail0 HT2.out (by rw [HTL.out, if_neg (by omega)])))
                  have L := HP7.out.low
                  go_wp2_with fail
                  refine (giveUp_yes _).mono ?_
                  rintro e w9 ⟨⟨S, rfl⟩, rfl⟩
                  go_wp2
                  exact ⟨rfl, .inl ⟨HN.out, ⟨_, rfl⟩⟩, UW.out.trans (L.mono (by omega))⟩
                · rw [decide_eq_false hm]
                  have ht4 : t4 = body.length := by omega
                  have HTL2 := hide (HTL.out.trans (by rw [if_pos ht4, getBs_ten hzb, HYS.out]))
                  clear HTL HYS hm ht4
                  go_wp2_with fail
                  refine (implPduOk_any k id a b lo _ cap ys _ HBO8.out.brow).mono ?_
                  rintro e w9 ⟨rfl, hb9⟩
                  have P8 := HP7.out.below hb9
                  have HBO9 := hide (HBO8.out.below hb9)
                  have kz9 := kept_block HKZ1.out (P8.low)
                  clear p0 p1 p2 p3 p4 f0 f1 f2 f3 f4 HP7 hb9 HBO8
                  have L := P8.low
                  cases hok : okP k id a b (ys.map BI.d)
                  · have HN : Hid (r = none) := hide (HR0.out.symm.trans (by
                      by_cases hl : (ys.map BI.d).length ≤ 10
                      · rw [getP_tail1 HT2.out (by rw [HTL2.out]; simp only [if_pos hl]; rfl), if_neg (by rw [hok]; decide)]
                      · exact getP_tail0 HT2.out (by rw [HTL2.out]; simp only [if_neg hl]; rfl)))
                    go_wp2_with fail
                    refine (giveUp_yes _).mono ?_
                    rintro e w10 ⟨⟨S, rfl⟩, rfl⟩
                    go_wp2
                    exact ⟨rfl, .inl ⟨HN.out, ⟨_, rfl⟩⟩, UW.out.trans (L.mono (by omega))⟩
                  · have hl : (ys.map BI.d).length ≤ 10 := (okP_parts hok).2.2.2.2.2.2
                    have HN : Hid (r = some ⟨k, id, a, b, ys.map BI.d⟩) := hide (HR0.out.symm.trans (by rw [getP_tail1 HT2.out (by rw [HTL2.out]; simp only [if_pos hl]; rfl), if_pos hok]))
                    obtain ⟨⟨p0, p1, p2, p3, p4⟩, f0, f1, f2, f3, f4⟩ := cells5 P8.pbox
                    obtain ⟨⟨d0, d1, d2, d3, d4⟩, e0, e1, e2, e3, e4⟩ := cells5 kz9
                    have HL := hide (UW.out.trans (L.mono (by omega)))
                    have m1 : ¬ w2.heap.size + 1 = w.heap.size := by omega
                    clear kz9 P8 L hok HTL2
                    go_wp2_with fail
                    refine (giveUp_no _).mono ?_
                    rintro e w10 ⟨rfl, rfl⟩
                    go_wp2
                    refine bodyPost_ret (v := .agg #[.int .i64 k, .int .i64 id, .int .i64 a, .int .i64 b, .slice lo ys.length cap]) (by simp [results, Tryz.results91, go_sem, *]) rfl ⟨.inr ⟨k, id, a, b, ys, lo, cap, HN.out, rfl, ?_⟩, ?_⟩
                    · refine BOwns.lt (base := w2.heap.size + 2) ?_ (by omega)
                      repeat (refine BOwns.set_below ?_ (by omega))
                      exact HBO9.out
                    · repeat (refine below_set ?_ (Nat.le_refl _) _ _)
                      exact HL.out
    · have HN := hide (HR0.out.symm.trans (getP_no HT.out (.inr (by omega))))
      have hnn : (nx == (n : Int)) = false := by simpa using hnx
      go_enter Tryz.func91, Tryz.ntmps91
      go_wp2_with fail
      generalize (w.alloc (.cells #[.int .i64 0, .int .i64 0, .int .i64 0, .int .i64 0, .slice none 0 0] 26)) = wb at *
      refine (implGet_made _ _ _ z 0 k nx true body HT.out _ rw0 (by omega)).mono ?_
      rintro e w1 ⟨bo, bc, rfl, -, r1, u1⟩
      go_wp2_with fail
      refine (giveUp_yes _).mono ?_
      rintro e w2 ⟨⟨S, rfl⟩, rfl⟩
      go_wp2
      exact ⟨rfl, .inl ⟨HN.out, ⟨_, rfl⟩⟩, q0.trans (u1.mono q0.size)⟩

end Go.Proofs.YtgfkpgdkkmgjkaaGreatDoor
