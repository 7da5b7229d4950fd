/-
  The bytes of a value, by contracts: the specification's and the program's.
  The bytes of a value, by the contract of the specification.
  The bytes of a value, its row written out; a block stays while another one is written.
-/
import Derived.Test.YtamglfhnhjgdjaaGreatDoorQA
import Derived.Test.YtamglfhnhjgdjaaGreatDoorValOk
import Derived.Test.YtamglfhnhjgdjaaGreatDoorTlv
import Derived.Test.YtamglfhnhjgdjaaGreatDoorQB
import Derived.Lib.ConvBytes
import Derived.Lib.AtoiErrMem
namespace Go.Proofs.YtamglfhnhjgdjaaGreatDoor
open Go.RowKit

theorem strB_length (S : ByteArray) : (strB S).length = S.size := by rw [strB, List.length_map, Array.length_toList]; rfl
theorem strB_byte (S : ByteArray) : Byt (strB S) := by
  intro z hz
  simp only [strB, List.mem_map] at hz
  obtain ⟨b, _, rfl⟩ := hz
  have := b.toNat_lt
  omega
theorem strB_getD (S : ByteArray) (j : Nat) (h : j < S.size) : (strB S).getD j 0 = ((S.data.toList.getD j 0).toNat : Int) := by
  have hl : j < S.data.toList.length := by rw [Array.length_toList]; exact h
  simp only [strB, List.getD_eq_getElem?_getD, List.getElem?_map, List.getElem?_eq_getElem hl]
  rfl

/-- What a value's kind names, as bytes. -/
def bodyV (K N : Int) (S : ByteArray) (z : List Int) : List Int := if K = 2 then putInt N else if K = 4 then strB S else if K = 6 then putO z else []
/-- A value put behind b; b alone of what is not right. -/
def putV (b : List Int) (K N : Int) (S : ByteArray) (z : List Int) : List Int := if okV K N S z = true then putTlv b K (bodyV K N S z) else b

theorem row_str (w : World) (S : ByteArray) (h : S.size ≤ maxLen) : Row (Go.Lib.bytesWorld w 5 S) (some ⟨w.heap.size, 0, none⟩) S.size (grownCap w S.size 0 5) (strB S) where
  size := strB_length S
  le := grownCap_ge w S.size 0 _
  top := grownCap_le_maxLen w S.size 0 _ h
  nil := by intro h; cases h
  byte := strB_byte S
  cell := .inr ⟨w.heap.size, 0, rfl, fun i hi => by rw [Nat.zero_add, Go.Lib.bytesWorld_cell w _ S i hi, strB_getD S i hi]⟩

def Wor.body (x : Wor) : List Int :=
  match x.c with
  | some (some (some (.inl n))) => putInt n
  | some (some (some (.inr (.inl s)))) => strB s
  | some (some (some (.inr (.inr (_, _, _, z))))) => putO z
  | _ => []

set_option maxRecDepth 100000 in
set_option maxHeartbeats 400000 in
theorem bodyOf_any (x : Wor) (w : World) (h : x.In w) (hs : x.str.size ≤ maxLen) :
    Calls Tryz.prog 90 #[x.v] w fun e w' => ∃ ao n cap, e = .returned (.slice ao n cap) ∧ Row w' ao n cap x.body ∧ Below w.heap.size w w' := by
  cases x using Wor.byCase with
  | int n =>
    show Calls Tryz.prog 90 #[.iface 160 (.int .i64 n)] w _
    have s1 := as_int_int
    go_enter Tryz.func90, Tryz.ntmps90
    go_wp2_with fail
    refine (implInt_made n _ rfl _).mono ?_
    rintro e w1 ⟨ao, cp, rfl, -, hr, hb⟩
    go_wp2
    go_ret
    exact ⟨_, _, _, rfl, hr, hb⟩
  | text s =>
    show Calls Tryz.prog 90 #[.iface 161 (.string s)] w _
    have s1 := as_text_int
    have s2 := as_text_text
    have hcv := Go.Lib.run_convert_string_bytes (P := Tryz.prog) w 161 22 5 s Tryz.underlying161 Tryz.underlying22 Tryz.underlying5
    have hbb := Go.Lib.bytesWorld_below w 5 s
    have hrr := row_str w s hs
    generalize Go.Lib.bytesWorld w 5 s = wb at hcv hbb hrr
    generalize grownCap w s.size 0 5 = gc at hcv hrr
    go_enter Tryz.func90, Tryz.ntmps90
    go_wp2
    go_ret
    exact ⟨_, _, _, rfl, hrr, hbb⟩
  | oid a l c z =>
    show Calls Tryz.prog 90 #[.iface 162 (.slice a l c)] w _
    have s1 := as_oid_int
    have s2 := as_oid_text
    have s3 := as_oid_oid
    have h' : IRow w a l c z := h
    go_enter Tryz.func90, Tryz.ntmps90
    go_wp2_with fail
    refine (implPut_made a l c z _ rfl _ h').mono ?_
    rintro e w1 ⟨ao, cp, rfl, -, hr, hb⟩
    go_wp2
    go_ret
    exact ⟨_, _, _, rfl, hr, hb⟩
  | null =>
    show Calls Tryz.prog 90 #[.iface 169 (.agg #[])] w _
    have s1 := as_null_int
    have s2 := as_null_text
    have s3 := as_null_oid
    go_enter Tryz.func90, Tryz.ntmps90
    go_wp2
    go_ret
    exact ⟨_, _, _, rfl, row_nil w, Below.refl _ _⟩
  | none =>
    show Calls Tryz.prog 90 #[.iface 170 (.agg #[])] w _
    have s1 := as_none_int
    have s2 := as_none_text
    have s3 := as_none_oid
    go_enter Tryz.func90, Tryz.ntmps90
    go_wp2
    go_ret
    exact ⟨_, _, _, rfl, row_nil w, Below.refl _ _⟩
  | last =>
    show Calls Tryz.prog 90 #[.iface 171 (.agg #[])] w _
    have s1 := as_end_int
    have s2 := as_end_text
    have s3 := as_end_oid
    go_enter Tryz.func90, Tryz.ntmps90
    go_wp2
    go_ret
    exact ⟨_, _, _, rfl, row_nil w, Below.refl _ _⟩

theorem wor_str {K N : Int} {S : ByteArray} {a1 : Option Addr} {l1 c1 : Nat} {z1 : List Int} {x : Wor} (h : worOf K N S a1 l1 c1 z1 = some x) : x.str = S ∨ x.str = ⟨#[]⟩ := by
  unfold worOf at h
  repeat' split at h
  all_goals first | (cases h; exact .inl rfl) | (cases h; exact .inr rfl) | cases h

theorem wor_body {K N : Int} {S : ByteArray} {a1 : Option Addr} {l1 c1 : Nat} {z1 : List Int} {x : Wor} (h : worOf K N S a1 l1 c1 z1 = some x) : x.body = bodyV K N S z1 := by
  unfold worOf at h
  unfold bodyV
  repeat' split at h
  all_goals first | cases h | skip
  all_goals subst K
  all_goals simp [Wor.body]

theorem body_small {K N : Int} {S : ByteArray} {z : List Int} (h : okV K N S z = true) : (bodyV K N S z).length ≤ 250 := by
  unfold bodyV
  split
  · have := putInt_length N; omega
  · split
    · subst K
      rw [strB_length]
      simp [okV] at h
      omega
    · split
      · have := put_length z; omega
      · simp

set_option maxRecDepth 100000 in
set_option maxHeartbeats 1000000 in
theorem implPutVal_any (a1 : Option Addr) (l1 c1 : Nat) (z1 : List Int) (K N : Int) (S : ByteArray) (a2 : Option Addr) (l2 c2 : Nat) (z2 : List Int) (w : World) (h1 : Row w a1 l1 c1 z1) (hS : S.size ≤ maxLen) (h2 : IRow w a2 l2 c2 z2) (hs : l1 ≤ 8000000) :
    Calls Tryz.prog 68 #[.slice a1 l1 c1, .agg #[.int .i64 K, .int .i64 N, .string S, .slice a2 l2 c2]] w fun e w' => ∃ ao n cap, e = .returned (.slice ao n cap) ∧
      w'.ownsRow w.heap.size 5 1 (.slice ao n cap) n (cB (putV z1 K N S z2)) ∧ Below w.heap.size w w' := by
  cases hk : okV K N S z2
  · have hP : putV z1 K N S z2 = z1 := by simp [putV, hk]
    rw [hP]
    clear hP
    have HK := hide hk
    clear hk
    go_enter Tryz.func68, Tryz.ntmps68
    go_wp2_with fail
    refine (implValOk_any K N S a2 l2 c2 z2 _ (h2.below (below_one _ _))).mono ?_
    rintro e w1 ⟨rfl, hb⟩
    rw [HK.out]
    have b1 : Below w.heap.size w w1 := (below_one w _).trans (hb.mono (below_one w _).size)
    clear hb
    go_wp2_with fail
    refine (pieces_any _ _ _ z1 _ _ _ [] _ (h1.below b1) (pieces_none _) (by simp [tot]; omega)).mono ?_
    rintro e w2 ⟨rfl, how2, hb2⟩
    go_wp2
    go_ret
    exact ⟨_, _, _, rfl, by simpa [tot, flat] using own_lt how2 b1.size, b1.trans (hb2.mono b1.size)⟩
  · have hP : putV z1 K N S z2 = putTlv z1 K (bodyV K N S z2) := by simp [putV, hk]
    have hsm := body_small hk
    rw [hP]
    clear hP
    have HK := hide hk
    cases hx : worOf K N S a2 l2 c2 z2 with
    | none => rw [ok_none hx] at hk; cases hk
    | some x =>
      have hin := wor_in h2 hx
      have hbo := wor_body hx
      have hst : x.str.size ≤ maxLen := by
        rcases wor_str hx with e | e <;> rw [e]
        · exact hS
        · exact Nat.zero_le _
      rw [← hbo] at hsm ⊢
      clear hk hbo
      have HX := hide hx
      clear hx
      go_enter Tryz.func68, Tryz.ntmps68
      go_wp2_with fail
      refine (implValOk_any K N S a2 l2 c2 z2 _ (h2.below (below_one _ _))).mono ?_
      rintro e w1 ⟨rfl, hb⟩
      rw [HK.out]
      have b1 : Below w.heap.size w w1 := (below_one w _).trans (hb.mono (below_one w _).size)
      have HKB := hide (kept_block (block_last w _) hb)
      obtain ⟨⟨x0, x1, x2, x3⟩, -⟩ := cells4 (kept_block (block_last w _) hb)
      have r1 := h1.below b1
      have hin1 := hin.below b1
      clear hb
      go_wp2_with fail
      go_region_held3 (fun W => W.cell? ⟨w.heap.size, 0, none⟩ = some (.int .i64 K) ∧ W.cell? ⟨w.heap.size, 1, none⟩ = some (.int .i64 N) ∧ W.cell? ⟨w.heap.size, 2, none⟩ = some (.string S) ∧ W.cell? ⟨w.heap.size, 3, none⟩ = some (.slice a2 l2 c2)) (first | exact (cells4 k4).1 | exact (cells4 k3).1 | exact (cells4 k2).1 | go_keep) (first
        | (go_at_call 91; refine (worthOf_any K N S a2 l2 c2 z2 _).mono ?_; rintro e w2 ⟨rfl, hb2⟩; rw [HX.out, show worV (some x) = x.v from rfl]; have k2 := kept_block HKB.out (undrew hb2))
        | (go_at_call 90; refine (bodyOf_any x _ (hin1.below (undrew hb2)) hst).mono ?_; rintro e w3 ⟨ao3, n3, cp3, rfl, r3, hb3⟩; have k3 := kept_block k2 hb3)
        | (go_at_call 20; refine (implTlv_any _ _ _ z1 K _ _ _ x.body _ (r1.below ((undrew hb2).trans (hb3.mono (undrew hb2).size))) r3 (by have := r3.size; omega)).mono ?_; rintro e w4 ⟨ao4, n4, cp4, rfl, ho4, hb4⟩; have k4 := kept_block k3 hb4))
      have b2 := b1.trans ((undrew hb2).mono b1.size)
      have b3 := b2.trans (hb3.mono b2.size)
      go_wp2
      go_ret
      exact ⟨_, _, _, rfl, own_lt ho4 b3.size, b3.trans (hb4.mono b3.size)⟩

set_option maxRecDepth 100000 in
set_option maxHeartbeats 1000000 in
theorem specPutVal_no (a1 : Option Addr) (l1 c1 : Nat) (z1 : List Int) (K : Int) (N : Int) (S : ByteArray) (a2 : Option Addr) (l2 c2 : Nat) (z2 : List Int) (w : World) (h1 : Row w a1 l1 c1 z1) (_hS : S.size ≤ maxLen) (h2 : IRow w a2 l2 c2 z2) (hs : l1 ≤ 8000000) (hk : okV K N S z2 = false) :
    Calls Tryz.prog 94 #[.slice a1 l1 c1, .agg #[.int .i64 K, .int .i64 N, .string S, .slice a2 l2 c2]] w fun e w' => ∃ ao n cap, e = .returned (.slice ao n cap) ∧
      w'.ownsRow w.heap.size 5 1 (.slice ao n cap) n (cB (putV z1 K N S z2)) ∧ Below w.heap.size w w' := by
  have hP : putV z1 K N S z2 = z1 := by simp [putV, hk]
  rw [hP]
  clear hP
  have HK := hide hk
  clear hk
  go_enter Tryz.func94, Tryz.ntmps94
  go_wp2_with fail
  refine (specValOk_any K N S a2 l2 c2 z2 _ (h2.below (below_one _ _))).mono ?_
  rintro e w1 ⟨rfl, hb⟩
  rw [HK.out]
  have b1 : Below w.heap.size w w1 := (below_one w _).trans (hb.mono (below_one w _).size)
  clear hb
  go_wp2_with (at_builtin; refine wpList_append_row _ rfl _ _ 22 rfl w1.heap.size Tryz.underlying22 Tryz.infoU8 _ 0 [] rfl (World.ownsRow_lit w1 #[] 0 (Nat.le_refl _) (Nat.zero_le _) rfl) (byte_nil) a1 l1 c1 z1 rfl ((h1.below b1).below (below_one _ _)) (by omega) (by simp) ?_)
  intro ao1 cp1 w2 how2 row2 hb2
  have hb2' : Below w1.heap.size w1 w2 := (below_one _ _).trans hb2
  go_wp2
  go_ret
  exact ⟨_, _, _, rfl, by simpa using own_lt how2 b1.size, b1.trans (hb2'.mono b1.size)⟩

set_option maxRecDepth 100000 in
set_option maxHeartbeats 1000000 in
theorem specPutVal_int (a1 : Option Addr) (l1 c1 : Nat) (z1 : List Int) (N : Int) (S : ByteArray) (a2 : Option Addr) (l2 c2 : Nat) (z2 : List Int) (w : World) (h1 : Row w a1 l1 c1 z1) (_hS : S.size ≤ maxLen) (h2 : IRow w a2 l2 c2 z2) (hs : l1 ≤ 8000000) (hk : okV 2 N S z2 = true) :
    Calls Tryz.prog 94 #[.slice a1 l1 c1, .agg #[.int .i64 2, .int .i64 N, .string S, .slice a2 l2 c2]] w fun e w' => ∃ ao n cap, e = .returned (.slice ao n cap) ∧
      w'.ownsRow w.heap.size 5 1 (.slice ao n cap) n (cB (putV z1 2 N S z2)) ∧ Below w.heap.size w w' := by
  have hP : putV z1 2 N S z2 = putTlv z1 2 (putInt N) := by simp [putV, hk, bodyV]
  have hsm := putInt_length N
  rw [hP]
  clear hP
  have HK := hide hk
  clear hk
  go_enter Tryz.func94, Tryz.ntmps94
  go_wp2_with fail
  refine (specValOk_any 2 N S a2 l2 c2 z2 _ (h2.below (below_one _ _))).mono ?_
  rintro e w1 ⟨rfl, hb⟩
  rw [HK.out]
  have b1 : Below w.heap.size w w1 := (below_one w _).trans (hb.mono (below_one w _).size)
  have HKB := kept_block (block_last w _) hb
  obtain ⟨⟨x0, x1, x2, x3⟩, -⟩ := cells4 HKB
  have r1 := h1.below b1
  clear hb
  obtain ⟨⟨x0, x1, x2, x3⟩, -⟩ := cells4 (kept_block HKB (below_one w1 (.cells #[] 5)))
  go_wp2_with fail
  refine (specInt_made N _ rfl _).mono ?_
  rintro e w2 ⟨ao2, cp2, rfl, -, r2, hb2⟩
  obtain ⟨⟨y0, y1, y2, y3⟩, -⟩ := cells4 (kept_block (kept_block HKB (below_one w1 (.cells #[] 5))) hb2)
  have b2' := ((below_one w1 (.cells #[] 5)).trans (hb2.mono (below_one w1 _).size))
  have b2 := b1.trans (b2'.mono b1.size)
  clear hb2 HKB x0 x1 x2 x3
  go_wp2_with fail
  refine (specTlv_any _ _ _ z1 2 _ _ _ _ _ (r1.below b2') r2 (by have := r2.size; omega)).mono ?_
  rintro e w3 ⟨ao3, n3, cp3, rfl, ho3, hb3⟩
  go_wp2
  go_ret
  exact ⟨_, _, _, rfl, own_lt ho3 b2.size, b2.trans (hb3.mono b2.size)⟩

set_option maxRecDepth 100000 in
set_option maxHeartbeats 1000000 in
theorem specPutVal_oid (a1 : Option Addr) (l1 c1 : Nat) (z1 : List Int) (N : Int) (S : ByteArray) (a2 : Option Addr) (l2 c2 : Nat) (z2 : List Int) (w : World) (h1 : Row w a1 l1 c1 z1) (_hS : S.size ≤ maxLen) (h2 : IRow w a2 l2 c2 z2) (hs : l1 ≤ 8000000) (hk : okV 6 N S z2 = true) :
    Calls Tryz.prog 94 #[.slice a1 l1 c1, .agg #[.int .i64 6, .int .i64 N, .string S, .slice a2 l2 c2]] w fun e w' => ∃ ao n cap, e = .returned (.slice ao n cap) ∧
      w'.ownsRow w.heap.size 5 1 (.slice ao n cap) n (cB (putV z1 6 N S z2)) ∧ Below w.heap.size w w' := by
  have hP : putV z1 6 N S z2 = putTlv z1 6 (putO z2) := by simp [putV, hk, bodyV]
  have hsm := put_length z2
  rw [hP]
  clear hP
  have HK := hide hk
  clear hk
  go_enter Tryz.func94, Tryz.ntmps94
  go_wp2_with fail
  refine (specValOk_any 6 N S a2 l2 c2 z2 _ (h2.below (below_one _ _))).mono ?_
  rintro e w1 ⟨rfl, hb⟩
  rw [HK.out]
  have b1 : Below w.heap.size w w1 := (below_one w _).trans (hb.mono (below_one w _).size)
  have HKB := kept_block (block_last w _) hb
  obtain ⟨⟨x0, x1, x2, x3⟩, -⟩ := cells4 HKB
  have r1 := h1.below b1
  clear hb
  have rz := (h2.below b1).below (below_one w1 (.cells #[] 5))
  obtain ⟨⟨x0, x1, x2, x3⟩, -⟩ := cells4 (kept_block HKB (below_one w1 (.cells #[] 5)))
  go_wp2_with fail
  refine (specPut_made a2 l2 c2 z2 _ rfl _ rz).mono ?_
  rintro e w2 ⟨ao2, cp2, rfl, -, r2, hb2⟩
  obtain ⟨⟨y0, y1, y2, y3⟩, -⟩ := cells4 (kept_block (kept_block HKB (below_one w1 (.cells #[] 5))) hb2)
  have b2' := ((below_one w1 (.cells #[] 5)).trans (hb2.mono (below_one w1 _).size))
  have b2 := b1.trans (b2'.mono b1.size)
  clear hb2 HKB x0 x1 x2 x3
  go_wp2_with fail
  refine (specTlv_any _ _ _ z1 6 _ _ _ _ _ (r1.below b2') r2 (by have := r2.size; omega)).mono ?_
  rintro e w3 ⟨ao3, n3, cp3, rfl, ho3, hb3⟩
  go_wp2
  go_ret
  exact ⟨_, _, _, rfl, own_lt ho3 b2.size, b2.trans (hb3.mono b2.size)⟩

set_option maxRecDepth 100000 in
set_option maxHeartbeats 1000000 in
theorem specPutVal_text (a1 : Option Addr) (l1 c1 : Nat) (z1 : List Int) (N : Int) (S : ByteArray) (a2 : Option Addr) (l2 c2 : Nat) (z2 : List Int) (w : World) (h1 : Row w a1 l1 c1 z1) (hS : S.size ≤ maxLen) (h2 : IRow w a2 l2 c2 z2) (hs : l1 ≤ 8000000) (hk : okV 4 N S z2 = true) :
    Calls Tryz.prog 94 #[.slice a1 l1 c1, .agg #[.int .i64 4, .int .i64 N, .string S, .slice a2 l2 c2]] w fun e w' => ∃ ao n cap, e = .returned (.slice ao n cap) ∧
      w'.ownsRow w.heap.size 5 1 (.slice ao n cap) n (cB (putV z1 4 N S z2)) ∧ Below w.heap.size w w' := by
  have hP : putV z1 4 N S z2 = putTlv z1 4 (strB S) := by simp [putV, hk, bodyV]
  have hsm : (strB S).length ≤ 250 := by have := body_small hk; simpa [bodyV] using this
  rw [hP]
  clear hP
  have HK := hide hk
  clear hk
  go_enter Tryz.func94, Tryz.ntmps94
  go_wp2_with fail
  refine (specValOk_any 4 N S a2 l2 c2 z2 _ (h2.below (below_one _ _))).mono ?_
  rintro e w1 ⟨rfl, hb⟩
  rw [HK.out]
  have b1 : Below w.heap.size w w1 := (below_one w _).trans (hb.mono (below_one w _).size)
  have HKB := kept_block (block_last w _) hb
  obtain ⟨⟨x0, x1, x2, x3⟩, -⟩ := cells4 HKB
  have r1 := h1.below b1
  clear hb
  obtain ⟨⟨x0, x1, x2, x3⟩, -⟩ := cells4 (kept_block HKB (below_one w1 (.cells #[] 5)))
  have hcv := Go.Lib.run_convert_string_bytes (P := Tryz.prog) (w1.alloc (.cells #[] 5)) 9 22 5 S Tryz.underlying9 Tryz.underlying22 Tryz.underlying5
  have hb2 := Go.Lib.bytesWorld_below (w1.alloc (.cells #[] 5)) 5 S
  have r2 := row_str (w1.alloc (.cells #[] 5)) S hS
  rw [show (w1.alloc (.cells #[] 5)).heap.size = w1.heap.size + 1 by simp] at r2
  generalize Go.Lib.bytesWorld (w1.alloc (.cells #[] 5)) 5 S = w2 at hcv hb2 r2
  generalize grownCap (w1.alloc (.cells #[] 5)) S.size 0 5 = gc at hcv r2
  obtain ⟨⟨y0, y1, y2, y3⟩, -⟩ := cells4 (kept_block (kept_block HKB (below_one w1 (.cells #[] 5))) hb2)
  have b2' := ((below_one w1 (.cells #[] 5)).trans (hb2.mono (below_one w1 _).size))
  have b2 := b1.trans (b2'.mono b1.size)
  clear hb2 HKB
  go_wp2_with fail
  refine (specTlv_any _ _ _ z1 4 _ _ _ _ _ (r1.below b2') r2 (by have := r2.size; omega)).mono ?_
  rintro e w3 ⟨ao3, n3, cp3, rfl, ho3, hb3⟩
  go_wp2
  go_ret
  exact ⟨_, _, _, rfl, own_lt ho3 b2.size, b2.trans (hb3.mono b2.size)⟩

set_option maxRecDepth 100000 in
set_option maxHeartbeats 1000000 in
theorem specPutVal_null (a1 : Option Addr) (l1 c1 : Nat) (z1 : List Int) (N : Int) (S : ByteArray) (a2 : Option Addr) (l2 c2 : Nat) (z2 : List Int) (w : World) (h1 : Row w a1 l1 c1 z1) (_hS : S.size ≤ maxLen) (h2 : IRow w a2 l2 c2 z2) (hs : l1 ≤ 8000000) (hk : okV 5 N S z2 = true) :
    Calls Tryz.prog 94 #[.slice a1 l1 c1, .agg #[.int .i64 5, .int .i64 N, .string S, .slice a2 l2 c2]] w fun e w' => ∃ ao n cap, e = .returned (.slice ao n cap) ∧
      w'.ownsRow w.heap.size 5 1 (.slice ao n cap) n (cB (putV z1 5 N S z2)) ∧ Below w.heap.size w w' := by
  have hP : putV z1 5 N S z2 = putTlv z1 5 [] := by simp [putV, hk, bodyV]
  rw [hP]
  clear hP
  have HK := hide hk
  clear hk
  go_enter Tryz.func94, Tryz.ntmps94
  go_wp2_with fail
  refine (specValOk_any 5 N S a2 l2 c2 z2 _ (h2.below (below_one _ _))).mono ?_
  rintro e w1 ⟨rfl, hb⟩
  rw [HK.out]
  have b1 : Below w.heap.size w w1 := (below_one w _).trans (hb.mono (below_one w _).size)
  have HKB := kept_block (block_last w _) hb
  obtain ⟨⟨x0, x1, x2, x3⟩, -⟩ := cells4 HKB
  have r1 := h1.below b1
  clear hb
  obtain ⟨⟨x0, x1, x2, x3⟩, -⟩ := cells4 (kept_block HKB (below_one w1 (.cells #[] 5)))
  have b2' := below_one w1 (.cells #[] 5)
  have b2 := b1.trans (b2'.mono b1.size)
  go_wp2_with fail
  refine (specTlv_any _ _ _ z1 5 _ _ _ [] _ (r1.below b2') (row_lit w1 _ [] 0 rfl rfl (by omega) byte_nil) (by omega)).mono ?_
  rintro e w3 ⟨ao3, n3, cp3, rfl, ho3, hb3⟩
  go_wp2
  go_ret
  exact ⟨_, _, _, rfl, own_lt ho3 b2.size, b2.trans (hb3.mono b2.size)⟩

set_option maxRecDepth 100000 in
set_option maxHeartbeats 1000000 in
theorem specPutVal_none (a1 : Option Addr) (l1 c1 : Nat) (z1 : List Int) (N : Int) (S : ByteArray) (a2 : Option Addr) (l2 c2 : Nat) (z2 : List Int) (w : World) (h1 : Row w a1 l1 c1 z1) (_hS : S.size ≤ maxLen) (h2 : IRow w a2 l2 c2 z2) (hs : l1 ≤ 8000000) (hk : okV 128 N S z2 = true) :
    Calls Tryz.prog 94 #[.slice a1 l1 c1, .agg #[.int .i64 128, .int .i64 N, .string S, .slice a2 l2 c2]] w fun e w' => ∃ ao n cap, e = .returned (.slice ao n cap) ∧
      w'.ownsRow w.heap.size 5 1 (.slice ao n cap) n (cB (putV z1 128 N S z2)) ∧ Below w.heap.size w w' := by
  have hP : putV z1 128 N S z2 = putTlv z1 128 [] := by simp [putV, hk, bodyV]
  rw [hP]
  clear hP
  have HK := hide hk
  clear hk
  go_enter Tryz.func94, Tryz.ntmps94
  go_wp2_with fail
  refine (specValOk_any 128 N S a2 l2 c2 z2 _ (h2.below (below_one _ _))).mono ?_
  rintro e w1 ⟨rfl, hb⟩
  rw [HK.out]
  have b1 : Below w.heap.size w w1 := (below_one w _).trans (hb.mono (below_one w _).size)
  have HKB := kept_block (block_last w _) hb
  obtain ⟨⟨x0, x1, x2, x3⟩, -⟩ := cells4 HKB
  have r1 := h1.below b1
  clear hb
  obtain ⟨⟨x0, x1, x2, x3⟩, -⟩ := cells4 (kept_block HKB (below_one w1 (.cells #[] 5)))
  have b2' := below_one w1 (.cells #[] 5)
  have b2 := b1.trans (b2'.mono b1.size)
  go_wp2_with fail
  refine (specTlv_any _ _ _ z1 128 _ _ _ [] _ (r1.below b2') (row_lit w1 _ [] 0 rfl rfl (by omega) byte_nil) (by omega)).mono ?_
  rintro e w3 ⟨ao3, n3, cp3, rfl, ho3, hb3⟩
  go_wp2
  go_ret
  exact ⟨_, _, _, rfl, own_lt ho3 b2.size, b2.trans (hb3.mono b2.size)⟩

set_option maxRecDepth 100000 in
set_option maxHeartbeats 1000000 in
theorem specPutVal_last (a1 : Option Addr) (l1 c1 : Nat) (z1 : List Int) (N : Int) (S : ByteArray) (a2 : Option Addr) (l2 c2 : Nat) (z2 : List Int) (w : World) (h1 : Row w a1 l1 c1 z1) (_hS : S.size ≤ maxLen) (h2 : IRow w a2 l2 c2 z2) (hs : l1 ≤ 8000000) (hk : okV 130 N S z2 = true) :
    Calls Tryz.prog 94 #[.slice a1 l1 c1, .agg #[.int .i64 130, .int .i64 N, .string S, .slice a2 l2 c2]] w fun e w' => ∃ ao n cap, e = .returned (.slice ao n cap) ∧
      w'.ownsRow w.heap.size 5 1 (.slice ao n cap) n (cB (putV z1 130 N S z2)) ∧ Below w.heap.size w w' := by
  have hP : putV z1 130 N S z2 = putTlv z1 130 [] := by simp [putV, hk, bodyV]
  rw [hP]
  clear hP
  have HK := hide hk
  clear hk
  go_enter Tryz.func94, Tryz.ntmps94
  go_wp2_with fail
  refine (specValOk_any 130 N S a2 l2 c2 z2 _ (h2.below (below_one _ _))).mono ?_
  rintro e w1 ⟨rfl, hb⟩
  rw [HK.out]
  have b1 : Below w.heap.size w w1 := (below_one w _).trans (hb.mono (below_one w _).size)
  have HKB := kept_block (block_last w _) hb
  obtain ⟨⟨x0, x1, x2, x3⟩, -⟩ := cells4 HKB
  have r1 := h1.below b1
  clear hb
  obtain ⟨⟨x0, x1, x2, x3⟩, -⟩ := cells4 (kept_block HKB (below_one w1 (.cells #[] 5)))
  have b2' := below_one w1 (.cells #[] 5)
  have b2 := b1.trans (b2'.mono b1.size)
  go_wp2_with fail
  refine (specTlv_any _ _ _ z1 130 _ _ _ [] _ (r1.below b2') (row_lit w1 _ [] 0 rfl rfl (by omega) byte_nil) (by omega)).mono ?_
  rintro e w3 ⟨ao3, n3, cp3, rfl, ho3, hb3⟩
  go_wp2
  go_ret
  exact ⟨_, _, _, rfl, own_lt ho3 b2.size, b2.trans (hb3.mono b2.size)⟩

set_option maxRecDepth 100000 in
set_option maxHeartbeats 1000000 in
theorem specPutVal_any (a1 : Option Addr) (l1 c1 : Nat) (z1 : List Int) (K : Int) (N : Int) (S : ByteArray) (a2 : Option Addr) (l2 c2 : Nat) (z2 : List Int) (w : World) (h1 : Row w a1 l1 c1 z1) (hS : S.size ≤ maxLen) (h2 : IRow w a2 l2 c2 z2) (hs : l1 ≤ 8000000) :
    Calls Tryz.prog 94 #[.slice a1 l1 c1, .agg #[.int .i64 K, .int .i64 N, .string S, .slice a2 l2 c2]] w fun e w' => ∃ ao n cap, e = .returned (.slice ao n cap) ∧
      w'.ownsRow w.heap.size 5 1 (.slice ao n cap) n (cB (putV z1 K N S z2)) ∧ Below w.heap.size w w' := by
  cases hk : okV K N S z2
  · exact specPutVal_no a1 l1 c1 z1 K N S a2 l2 c2 z2 w h1 hS h2 hs hk
  by_cases k5 : K = 5
  · subst k5; exact specPutVal_null a1 l1 c1 z1 N S a2 l2 c2 z2 w h1 hS h2 hs hk
  by_cases k128 : K = 128
  · subst k128; exact specPutVal_none a1 l1 c1 z1 N S a2 l2 c2 z2 w h1 hS h2 hs hk
  by_cases k130 : K = 130
  · subst k130; exact specPutVal_last a1 l1 c1 z1 N S a2 l2 c2 z2 w h1 hS h2 hs hk
  by_cases k2 : K = 2
  · subst k2; exact specPutVal_int a1 l1 c1 z1 N S a2 l2 c2 z2 w h1 hS h2 hs hk
  by_cases k4 : K = 4
  · subst k4; exact specPutVal_text a1 l1 c1 z1 N S a2 l2 c2 z2 w h1 hS h2 hs hk
  by_cases k6 : K = 6
  · subst k6; exact specPutVal_oid a1 l1 c1 z1 N S a2 l2 c2 z2 w h1 hS h2 hs hk
  simp [okV, k5, k128, k130, k2, k4, k6] at hk

theorem bodyV_byte (K N : Int) (S : ByteArray) (z : List Int) : Byt (bodyV K N S z) := by
  unfold bodyV
  split
  · exact putInt_byte N
  · split
    · exact strB_byte S
    · split
      · exact put_byte z
      · exact byte_nil
theorem putV_byte (b : List Int) (K N : Int) (S : ByteArray) (z : List Int) (hb : Byt b) : Byt (putV b K N S z) := by
  unfold putV
  split
  · exact putTlv_byte _ _ _ hb (bodyV_byte K N S z)
  · exact hb
theorem putV_length (b : List Int) (K N : Int) (S : ByteArray) (z : List Int) : (putV b K N S z).length ≤ b.length + 253 := by
  unfold putV
  split
  · have := putTlv_length b K (bodyV K N S z); have := body_small ‹_›; omega
  · omega

theorem specPutVal_made (a1 : Option Addr) (l1 c1 : Nat) (z1 : List Int) (K N : Int) (S : ByteArray) (a2 : Option Addr) (l2 c2 : Nat) (z2 P : List Int) (hP : putV z1 K N S z2 = P) (w : World) (h1 : Row w a1 l1 c1 z1) (hS : S.size ≤ maxLen) (h2 : IRow w a2 l2 c2 z2) (hs : l1 ≤ 8000000) :
    Calls Tryz.prog 94 #[.slice a1 l1 c1, .agg #[.int .i64 K, .int .i64 N, .string S, .slice a2 l2 c2]] w fun e w' => ∃ ao cap, e = .returned (.slice ao P.length cap) ∧
      w'.ownsRow w.heap.size 5 1 (.slice ao P.length cap) P.length (cB P) ∧ Row w' ao P.length cap P ∧ Below w.heap.size w w' := by
  subst hP
  exact (specPutVal_any a1 l1 c1 z1 K N S a2 l2 c2 z2 w h1 hS h2 hs).mono fun e w' h => made_of (putV_byte _ _ _ _ _ h1.byte) h
theorem implPutVal_made (a1 : Option Addr) (l1 c1 : Nat) (z1 : List Int) (K N : Int) (S : ByteArray) (a2 : Option Addr) (l2 c2 : Nat) (z2 P : List Int) (hP : putV z1 K N S z2 = P) (w : World) (h1 : Row w a1 l1 c1 z1) (hS : S.size ≤ maxLen) (h2 : IRow w a2 l2 c2 z2) (hs : l1 ≤ 8000000) :
    Calls Tryz.prog 68 #[.slice a1 l1 c1, .agg #[.int .i64 K, .int .i64 N, .string S, .slice a2 l2 c2]] w fun e w' => ∃ ao cap, e = .returned (.slice ao P.length cap) ∧
      w'.ownsRow w.heap.size 5 1 (.slice ao P.length cap) P.length (cB P) ∧ Row w' ao P.length cap P ∧ Below w.heap.size w w' := by
  subst hP
  exact (implPutVal_any a1 l1 c1 z1 K N S a2 l2 c2 z2 w h1 hS h2 hs).mono fun e w' h => made_of (putV_byte _ _ _ _ _ h1.byte) h

end Go.Proofs.YtamglfhnhjgdjaaGreatDoor
