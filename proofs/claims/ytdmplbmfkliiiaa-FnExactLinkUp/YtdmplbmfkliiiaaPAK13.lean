/-
  Packed: NetUsed VlanTab.
-/
import Derived.Test.YtdmplbmfkliiiaaPAK01
import Derived.Test.YtdmplbmfkliiiaaPAK12
import Derived.Test.YtdmplbmfkliiiaaPAVlanOk
namespace Go.Proofs.Ytdmplbmfkliiiaa
open Go.RowKit

set_option maxRecDepth 100000 in
set_option maxHeartbeats 8000000 in
theorem specUsed_any (N : NV) (b p : Int) (w : World) (h : NetRow w N) (hsm : N.ln ≤ 16777216) :
  Calls Try.prog 38 #[.agg #[.slice N.ba N.bn N.bc, .slice N.la N.ln N.lc, .slice N.sa N.sn N.sc], .int .i64 b, .int .i64 p] w fun e w' => e = .returned (.int .i64 (usedL N.ls b p)) ∧ Below w.heap.size w w' := by
 have hsz := hide h.l.size
 go_enter Try.func38, Try.ntmps38
 go_wp2_with fail
 generalize hw1 : w.alloc (Obj.cells #[.slice N.ba N.bn N.bc, .slice N.la N.ln N.lc, .slice N.sa N.sn N.sc] 33) = w1
 have b01 : Below w.heap.size w w1 := by rw [← hw1]; exact below_one _ _
 have k1 : w1.heap[w.heap.size]? = some (.cells #[.slice N.ba N.bn N.bc, .slice N.la N.ln N.lc, .slice N.sa N.sn N.sc] 33) := by rw [← hw1]; exact block_last _ _
 clear hw1
 go_loopw [7, 8] (fun m i wr => ∃ k : Nat, k ≤ N.ln ∧ i = .int .i64 k ∧ m = .int .i64 (usedL (N.ls.take k) b p : Nat) ∧ wr.heap[w.heap.size]? = some (.cells #[.slice N.ba N.bn N.bc, .slice N.la N.ln N.lc, .slice N.sa N.sn N.sc] 33) ∧ Below w.heap.size w wr) (fun _ i _ => N.ln - (intOf i).toNat)
 case atStart => exact ⟨0, Nat.zero_le _, rfl, by simp [usedL, endsL], k1, b01⟩
 case round =>
  obtain ⟨k, hk, rfl, rfl, hbox, hb⟩ := hrel
  clear k1 b01
  obtain ⟨x0, x1, x2⟩ := cells3m hbox
  by_cases hlt : k < N.ln
  ·obtain ⟨x, lb, off, hx, hla, a0, a1, a2, a3⟩ := link_at (h.l.below hb) k hlt
   rw [hla] at x1
   clear hla
   have i1 : (0 : Int) ≤ (k : Int) := by omega
   have i2 : (k : Int) < (N.ln : Int) := by omega
   have hul : usedL (N.ls.take k) b p ≤ 33554432 := by have := used_le (N.ls.take k) b p; rw [List.length_take] at this; omega
   have HX := hide hx
   have KB : Hid (∀ o : Obj, (wr.alloc o).heap[w.heap.size]? = some (.cells #[.slice N.ba N.bn N.bc, .slice N.la N.ln N.lc, .slice N.sa N.sn N.sc] 33) ∧ Below w.heap.size w (wr.alloc o)) := hide (fun o => ⟨kept_block hbox (below_one _ _), gr_trans hb (below_one _ _)⟩)
   clear hx hb hbox
   by_cases st : x.a = b ∧ x.p = p
   ·obtain ⟨s, t⟩ := id st
    by_cases uv : x.b = b ∧ x.q = p
    ·obtain ⟨u, v⟩ := id uv
     have HM : Hid (usedL (N.ls.take (k + 1)) b p = usedL (N.ls.take k) b p + 2) := hide (by rw [used_next HX.out]; unfold hit; rw [if_pos st, if_pos uv])
     generalize hU : usedL (N.ls.take k) b p = U at *
     go_wp2
     go_roundw
     case rel => exact ⟨k + 1, by omega, by go_num, by rw [HM.out]; go_num, KB.out _⟩
     case measure => simp [intOf]; omega
    ·by_cases u : x.b = b
     ·have v : ¬ x.q = p := fun q => uv ⟨u, q⟩
      have HM : Hid (usedL (N.ls.take (k + 1)) b p = usedL (N.ls.take k) b p + 1) := hide (by rw [used_next HX.out]; unfold hit; rw [if_pos st, if_neg uv])
      generalize hU : usedL (N.ls.take k) b p = U at *
      go_wp2
      go_roundw
      case rel => exact ⟨k + 1, by omega, by go_num, by rw [HM.out]; go_num, KB.out _⟩
      case measure => simp [intOf]; omega
     ·have HM : Hid (usedL (N.ls.take (k + 1)) b p = usedL (N.ls.take k) b p + 1) := hide (by rw [used_next HX.out]; unfold hit; rw [if_pos st, if_neg uv])
      generalize hU : usedL (N.ls.take k) b p = U at *
      go_wp2
      go_roundw
      case rel => exact ⟨k + 1, by omega, by go_num, by rw [HM.out]; go_num, KB.out _⟩
      case measure => simp [intOf]; omega
   ·by_cases s : x.a = b
    ·have t : ¬ x.p = p := fun q => st ⟨s, q⟩
     by_cases uv : x.b = b ∧ x.q = p
     ·obtain ⟨u, v⟩ := id uv
      have HM : Hid (usedL (N.ls.take (k + 1)) b p = usedL (N.ls.take k) b p + 1) := hide (by rw [used_next HX.out]; unfold hit; rw [if_neg st, if_pos uv])
      generalize hU : usedL (N.ls.take k) b p = U at *
      go_wp2
      go_roundw
      case rel => exact ⟨k + 1, by omega, by go_num, by rw [HM.out]; go_num, KB.out _⟩
      case measure => simp [intOf]; omega
     ·by_cases u : x.b = b
      ·have v : ¬ x.q = p := fun q => uv ⟨u, q⟩
       have HM : Hid (usedL (N.ls.take (k + 1)) b p = usedL (N.ls.take k) b p + 0) := hide (by rw [used_next HX.out]; unfold hit; rw [if_neg st, if_neg uv])
       generalize hU : usedL (N.ls.take k) b p = U at *
       go_wp2
       go_roundw
       case rel => exact ⟨k + 1, by omega, by go_num, by rw [HM.out]; go_num, KB.out _⟩
       case measure => simp [intOf]; omega
      ·have HM : Hid (usedL (N.ls.take (k + 1)) b p = usedL (N.ls.take k) b p + 0) := hide (by rw [used_next HX.out]; unfold hit; rw [if_neg st, if_neg uv])
       generalize hU : usedL (N.ls.take k) b p = U at *
       go_wp2
       go_roundw
       case rel => exact ⟨k + 1, by omega, by go_num, by rw [HM.out]; go_num, KB.out _⟩
       case measure => simp [intOf]; omega
    ·by_cases uv : x.b = b ∧ x.q = p
     ·obtain ⟨u, v⟩ := id uv
      have HM : Hid (usedL (N.ls.take (k + 1)) b p = usedL (N.ls.take k) b p + 1) := hide (by rw [used_next HX.out]; unfold hit; rw [if_neg st, if_pos uv])
      generalize hU : usedL (N.ls.take k) b p = U at *
      go_wp2
      go_roundw
      case rel => exact ⟨k + 1, by omega, by go_num, by rw [HM.out]; go_num, KB.out _⟩
      case measure => simp [intOf]; omega
     ·by_cases u : x.b = b
      ·have v : ¬ x.q = p := fun q => uv ⟨u, q⟩
       have HM : Hid (usedL (N.ls.take (k + 1)) b p = usedL (N.ls.take k) b p + 0) := hide (by rw [used_next HX.out]; unfold hit; rw [if_neg st, if_neg uv])
       generalize hU : usedL (N.ls.take k) b p = U at *
       go_wp2
       go_roundw
       case rel => exact ⟨k + 1, by omega, by go_num, by rw [HM.out]; go_num, KB.out _⟩
       case measure => simp [intOf]; omega
      ·have HM : Hid (usedL (N.ls.take (k + 1)) b p = usedL (N.ls.take k) b p + 0) := hide (by rw [used_next HX.out]; unfold hit; rw [if_neg st, if_neg uv])
       generalize hU : usedL (N.ls.take k) b p = U at *
       go_wp2
       go_roundw
       case rel => exact ⟨k + 1, by omega, by go_num, by rw [HM.out]; go_num, KB.out _⟩
       case measure => simp [intOf]; omega
  ·have hkn : k = N.ln := by omega
   rw [List.take_of_length_le (by have := hsz.out; omega)]
   subst hkn
   go_wp2
   go_ret
   exact ⟨rfl, hb⟩

def endOk (bs : List BR) (ls : List LK) (b p : Int) : Bool := (portOf bs b p).isSome && decide (usedL ls b p = 1)

set_option maxRecDepth 100000 in
set_option maxHeartbeats 4000000 in
theorem specEnd_any (N : NV) (b p : Int) (w : World) (h : NetRow w N) (hsm : N.ln ≤ 16777216) :
  Calls Try.prog 19 #[.agg #[.slice N.ba N.bn N.bc, .slice N.la N.ln N.lc, .slice N.sa N.sn N.sc], .int .i64 b, .int .i64 p] w fun e w' => e = .returned (.bool (endOk N.brs N.ls b p)) ∧ Below w.heap.size w w' := by
 have hle := Nat.le_trans h.b.le h.b.top
 unfold maxLen at hle
 have hsz := h.b.size
 generalize hG : endOk N.brs N.ls b p = U
 have HG := hide hG
 clear hG
 generalize hw1 : w.alloc (Obj.cells #[.slice N.ba N.bn N.bc, .slice N.la N.ln N.lc, .slice N.sa N.sn N.sc] 33) = w1
 have b01 : Below w.heap.size w w1 := by rw [← hw1]; exact below_one _ _
 have k1 : w1.heap[w.heap.size]? = some (.cells #[.slice N.ba N.bn N.bc, .slice N.la N.ln N.lc, .slice N.sa N.sn N.sc] 33) := by rw [← hw1]; exact block_last _ _
 obtain ⟨x0, x1, x2⟩ := cells3m k1
 cases hA : (decide (0 ≤ b) && decide (b ≤ (N.bn : Int) - 1))
 ·have HF : Hid (U = false) := hide (by rw [← HG.out]; unfold endOk; rw [port_no (by rw [brs_len, hsz]; exact hA)]; rfl)
  go_enter Try.func19, Try.ntmps19
  go_wp2_with fail
  refine (within_any b 0 ((N.bn : Int) - 1) _).mono ?_
  rintro e w2 ⟨rfl, ew⟩
  obtain rfl := ew.symm
  rw [hA]
  clear hA
  go_wp2
  go_ret
  exact ⟨by rw [HF.out]; rfl, b01⟩
 ·obtain ⟨k, rfl⟩ : ∃ k : Nat, b = (k : Int) := ⟨b.toNat, by simp at hA; omega⟩
  have hk : k < N.bn := by simp at hA; omega
  obtain ⟨x, bb, off, hx, hba, c0, c1, c2, c3, c4, c5, c6, c7, c8, c9, c10⟩ := br_at (h.b.below b01) k hk
  have hr := (h.item x (List.mem_of_getElem? hx)).below b01
  have hpl := Nat.le_trans hr.ports.le hr.ports.top
  unfold maxLen at hpl
  have i1 : (0 : Int) ≤ (k : Int) := by omega
  have i2 : (k : Int) < (N.bn : Int) := by omega
  have HX := hide (brs_at hx)
  have K1 := hide k1
  clear hx
  rw [hba] at x0
  cases hB : (decide (0 ≤ p) && decide (p ≤ (x.n : Int) - 1))
  ·have HF : Hid (U = false) := hide (by rw [← HG.out]; unfold endOk; rw [port_out HX.out (by rw [hr.ports.size]; exact hB)]; rfl)
   clear hba
   go_enter Try.func19, Try.ntmps19
   go_wp2_with fail
   refine (within_any (k : Int) 0 ((N.bn : Int) - 1) _).mono ?_
   rintro e w2 ⟨rfl, ew⟩
   obtain rfl := ew.symm
   rw [hA]
   clear hA
   go_wp2_with fail
   refine (within_any p 0 ((x.n : Int) - 1) _).mono ?_
   rintro e w2 ⟨rfl, ew⟩
   obtain rfl := ew.symm
   rw [hB]
   clear hB
   go_wp2
   go_ret
   exact ⟨by rw [HF.out]; rfl, b01⟩
  ·obtain ⟨j, rfl⟩ : ∃ j : Nat, p = (j : Int) := ⟨p.toNat, by simp at hB; omega⟩
   have hj : j < x.n := by simp at hB; omega
   obtain ⟨y, pb, po, hy, -, -⟩ := pt_at hr.ports j hj
   have HF : Hid (U = decide (usedL N.ls (k : Int) (j : Int) = 1)) := hide (by rw [← HG.out]; unfold endOk; rw [port_in HX.out hy]; rfl)
   have i3 : (0 : Int) ≤ (j : Int) := by omega
   have i4 : (j : Int) < (x.n : Int) := by omega
   clear hba hy
   go_enter Try.func19, Try.ntmps19
   go_wp2_with fail
   refine (within_any (k : Int) 0 ((N.bn : Int) - 1) _).mono ?_
   rintro e w2 ⟨rfl, ew⟩
   obtain rfl := ew.symm
   rw [hA]
   clear hA
   go_wp2_with fail
   refine (within_any (j : Int) 0 ((x.n : Int) - 1) _).mono ?_
   rintro e w2 ⟨rfl, ew⟩
   obtain rfl := ew.symm
   rw [hB]
   clear hB
   clear x0
   obtain ⟨x0, -, -⟩ := cells3m K1.out
   go_wp2_with fail
   refine (specUsed_any N (k : Int) (j : Int) _ (h.below b01) hsm).mono ?_
   rintro e w5 ⟨rfl, hb5⟩
   have HB := hide (gr_trans b01 hb5)
   clear hb5 x0 x1 x2 c0 c1 c2 c3 c4 c5 c6 c7 c8 c9 c10
   generalize hV : usedL N.ls (k : Int) (j : Int) = V at *
   have HV : Hid (decide ((V : Int) = 1) = decide (V = 1)) := hide (by by_cases e : V = 1 <;> simp [e]; omega)
   go_wp2
   go_ret
   exact ⟨by rw [HF.out]; exact ret_bool (by by_cases e : V = 1 <;> simp [e] <;> omega), HB.out⟩

theorem rowAt_no {l : List VR} {id : Int} (h : rowIdx l id = none) : rowAt l id = -1 := by unfold rowAt; rw [h]
theorem rowAt_yes {l : List VR} {id : Int} {k : Nat} (h : rowIdx l id = some k) : rowAt l id = k := by unfold rowAt; rw [h]

set_option maxRecDepth 100000 in
set_option maxHeartbeats 4000000 in
theorem implVtabOk_any (a : Option Addr) (n c : Nat) (o : Option Addr) (p q : Nat) (v : VT) (ports : Int) (w : World) (h : VTab w a n c o p q v) (hR : ∀ r ∈ v.rows, r.Rng) :
  Calls Try.prog 65 #[.agg #[.slice a n c, .slice o p q], .int .i64 ports] w fun r w' => r = .returned (.bool (vtabOk v ports)) ∧ Below w.heap.size w w' := by
 have hle := h.rows.le
 have htop := h.rows.top
 have hle2 := h.own.le
 have htop2 := h.own.top
 unfold maxLen at htop htop2
 have hsz := hide h.rows.size
 have hsz2 := hide h.own.size
 generalize hw1 : w.alloc (Obj.cells #[Value.slice a n c, Value.slice o p q] 57) = w1
 have hW : Below w.heap.size w w1 := by subst hw1; exact below_one _ _
 obtain ⟨e0, e1⟩ := box_two hw1 (Below.refl _ w1)
 have h := h.below hW
 generalize hV : vtabOk v ports = V
 have HV := hide hV
 clear hV
 cases t1 : (decide (1 ≤ ports) && decide (ports ≤ 6))
 ·have HN := hide (vtab_in (v := v) t1)
  have T1 := hide t1
  clear t1
  go_enter Try.func65, Try.ntmps65
  go_wp2_with (refine (implIn9_any ports 1 6 _).mono ?_; rintro r w2 ⟨rfl, e2⟩; obtain rfl := e2.symm; rw [T1.out])
  go_ret
  exact ⟨ret_bool (by rw [← HV.out, HN.out]), hW⟩
 have T1 := hide t1
 simp only [Bool.and_eq_true, decide_eq_true_eq] at t1
 by_cases t2 : (p : Int) = ports
 case neg =>
  have HN := hide (vtab_len (v := v) (ports := ports) (by rw [hsz2.out]; exact t2))
  go_enter Try.func65, Try.ntmps65
  go_wp2_with (refine (implIn9_any ports 1 6 _).mono ?_; rintro r w2 ⟨rfl, e2⟩; obtain rfl := e2.symm; rw [T1.out])
  go_ret
  exact ⟨ret_bool (by rw [← HV.out, HN.out]), hW⟩
 subst t2
 by_cases t3 : n ≤ 6
 case neg =>
  have HN := hide (vtab_many (v := v) (ports := p) (by rw [hsz.out]; exact t3))
  go_enter Try.func65, Try.ntmps65
  go_wp2_with (refine (implIn9_any (p : Int) 1 6 _).mono ?_; rintro r w2 ⟨rfl, e2⟩; obtain rfl := e2.symm; rw [T1.out])
  go_ret
  exact ⟨ret_bool (by rw [← HV.out, HN.out]), hW⟩
 cases t4 : vrises v.rows
 ·have HN := hide (vtab_rise (v := v) (ports := p) t4)
  have T4 := hide t4
  clear t4
  go_enter Try.func65, Try.ntmps65
  go_wp2_with (refine (implIn9_any (p : Int) 1 6 _).mono ?_; rintro r w2 ⟨rfl, e2⟩; obtain rfl := e2.symm; rw [T1.out])
  refine (implRowsOf_any a n c o p q _).mono ?_
  rintro r w2 ⟨rfl, hb2⟩
  go_wp2_with fail
  refine (implAscends_any a n c v.rows _ (h.rows.below hb2)).mono ?_
  rintro r w3 ⟨rfl, hb3⟩
  rw [T4.out]
  have HB := hide (gr_trans hW (gr_trans hb2 hb3))
  clear hb2 hb3
  go_wp2
  go_ret
  exact ⟨ret_bool (by rw [← HV.out, HN.out]), HB.out⟩
 have T4 := hide t4
 clear t4
 go_enter Try.func65, Try.ntmps65
 go_wp2_with (refine (implIn9_any (p : Int) 1 6 _).mono ?_; rintro r w2 ⟨rfl, e2⟩; obtain rfl := e2.symm; rw [T1.out])
 refine (implRowsOf_any a n c o p q _).mono ?_
 rintro r w2 ⟨rfl, hb2⟩
 go_wp2_with fail
 refine (implAscends_any a n c v.rows _ (h.rows.below hb2)).mono ?_
 rintro r w3 ⟨rfl, hb3⟩
 rw [T4.out]
 have b13 := gr_trans hb2 hb3
 obtain ⟨x0, x1⟩ := box_two hw1 b13
 clear hb2 hb3 e0 e1
 go_wp2
 go_loopw [34] (fun i wr => ∃ k : Nat, k ≤ n ∧ i = .int .i64 k ∧ rowsTo (allOf p) v.rows k ∧ Below w1.heap.size w1 wr) (fun i _ => n - (intOf i).toNat)
 case atStart => exact ⟨0, Nat.zero_le _, rfl, fun i x hi => by omega, b13⟩
 case round =>
  obtain ⟨k, hk, rfl, hok, hb⟩ := hrel
  by_cases hlt : k < n
  ·obtain ⟨x, b, off, hx, rfl, c0, c1, c2⟩ := vrow_at (h.rows.below hb) k hlt
   have hxr : x.Rng := hR x (List.mem_of_getElem? hx)
   cases t5 : vrowOk (allOf p) x
   ·have HN := hide (vtab_row (v := v) (p := p) hx t5)
    have T5 := hide t5
    have HB := hide hb
    clear t5 hok hb hx x0 x1
    go_wp2_with fail
    refine (implVrowOk_any x p _ hxr (by omega) (by omega)).mono ?_
    rintro r w5 ⟨rfl, hb5⟩
    rw [T5.out]
    have HB1 := hide (gr_trans hW (gr_trans HB.out (gr_trans (below_one _ _) hb5)))
    clear hb5 c0 c1 c2
    go_wp2
    go_ret
    exact ⟨ret_bool (by rw [← HV.out, HN.out]), HB1.out⟩
   ·have HO := hide (rowsTo_next hok hx t5)
    have T5 := hide t5
    have HB := hide hb
    clear t5 hok hb hx x0 x1
    go_wp2_with fail
    refine (implVrowOk_any x p _ hxr (by omega) (by omega)).mono ?_
    rintro r w5 ⟨rfl, hb5⟩
    rw [T5.out]
    have HB1 := hide (gr_trans HB.out (gr_trans (below_one _ _) hb5))
    clear hb5 c0 c1 c2
    go_wp2
    go_roundw
    case rel => exact ⟨k + 1, by omega, by go_num, HO.out, HB1.out⟩
    case measure => simp [intOf]; omega
  ·have HK : Hid (vokTo (allOf p) v.rows v.rows.length) := hide (vokTo_of (fun i x hi hx => hok i x (by have := hsz.out; omega) hx) T4.out)
   obtain ⟨y0, y1⟩ := box_two hw1 hb
   have HB := hide hb
   have hkn : k = n := by omega
   clear hok hb x0 x1
   subst hkn
   go_wp2
   go_loopw [46] (fun i wr => ∃ k : Nat, k ≤ p ∧ i = .int .i64 k ∧ ownTo v k ∧ Below w1.heap.size w1 wr) (fun i _ => p - (intOf i).toNat)
   case atStart => exact ⟨0, Nat.zero_le _, rfl, fun i x hi => by omega, HB.out⟩
   case round =>
    obtain ⟨j, hj, rfl, hto, hb⟩ := hrel
    by_cases hlt : j < p
    ·obtain ⟨x, b, off, hx, rfl, c0⟩ := irow_at (h.own.below hb) j hlt
     obtain ⟨z0, z1⟩ := box_two hw1 hb
     clear y0 y1
     cases hr : rowIdx v.rows x with
     | none =>
      have HN := hide (vtab_own (p := p) (List.mem_of_getElem? hx) hr)
      have HA := hide (rowAt_no hr)
      have HB3 := hide hb
      clear hto hb hx hr
      go_wp2_with fail
      refine (implRowAt_any a k c v.rows (some ⟨b, off, none⟩) p q x _ (h.rows.below HB3.out)).mono ?_
      rintro r w5 ⟨rfl, hb5⟩
      rw [HA.out]
      have HB1 := hide (gr_trans hW (gr_trans HB3.out hb5))
      clear hb5 c0 z0 z1
      go_wp2
      go_ret
      exact ⟨ret_bool (by rw [← HV.out, HN.out]), HB1.out⟩
     | some i =>
      have HO := hide (ownTo_next hto hx (by rw [hr]; exact fun h => by cases h))
      have HA := hide (rowAt_yes hr)
      have HB3 := hide hb
      have hneg : ¬ ((i : Int) < 0) := by omega
      clear hto hb hx hr
      go_wp2_with fail
      refine (implRowAt_any a k c v.rows (some ⟨b, off, none⟩) p q x _ (h.rows.below HB3.out)).mono ?_
      rintro r w5 ⟨rfl, hb5⟩
      rw [HA.out]
      have HB1 := hide (gr_trans HB3.out hb5)
      clear hb5 c0 z0 z1
      go_wp2
      go_roundw
      case rel => exact ⟨j + 1, by omega, by go_num, HO.out, HB1.out⟩
      case measure => simp [intOf]; omega
    ·have HN : Hid (vtabOk v p = true) := hide (vtab_yes t1.1 t1.2 hsz2.out (by have := hsz.out; omega) HK.out (ownTo_all hto (by have := hsz2.out; omega)))
     have HB3 := hide (gr_trans hW hb)
     have hjn : j = p := by omega
     clear hto hb y0 y1
     subst hjn
     go_wp2
     go_ret
     exact ⟨ret_bool (by rw [← HV.out, HN.out]), HB3.out⟩

end Go.Proofs.Ytdmplbmfkliiiaa
