/-
  The bytes of a value, by contracts: the specification's and the program's.
-/
import Derived.Test.YtamglfhnhjgdjaaTextRow
import Derived.Test.YtamglfhnhjgdjaaValOk
import Derived.Test.YtamglfhnhjgdjaaTlv
import Derived.Test.YtamglfhnhjgdjaaOidPut
import Derived.Lib.ConvBytes
import Derived.Lib.AtoiErrMem
namespace Go.Proofs.Ytamglfhnhjgdjaa
open Go.RowKit

theorem strB_length (S : ByteArray) : (strB S).length = S.size := by rw [strB, List.length_map, Array.length_toList]; rfl
theorem strB_byte (S : ByteArray) : Byt (strB S) := by
  intro z hz
  simp only [strB, List.mem_map] at hz
  obtain ⟨b, _, rfl⟩ := hz
  have := b.toNat_lt
  omega
theorem strB_getD (S : ByteArray) (j : Nat) (h : j < S.size) : (strB S).getD j 0 = ((S.data.toList.getD j 0).toNat : Int) := by
  have hl : j < S.data.toList.length := by rw [Array.length_toList]; exact h
  simp only [strB, List.getD_eq_getElem?_getD, List.getElem?_map, List.getElem?_eq_getElem hl]
  rfl

/-- What a value's kind names, as bytes. -/
def bodyV (K N : Int) (S : ByteArray) (z : List Int) : List Int := if K = 2 then putInt N else if K = 4 then strB S else if K = 6 then putO z else []
/-- A value put behind b; b alone of what is not right. -/
def putV (b : List Int) (K N : Int) (S : ByteArray) (z : List Int) : List Int := if okV K N S z = true then putTlv b K (bodyV K N S z) else b

theorem row_str (w : World) (S : ByteArray) (h : S.size ≤ maxLen) : Row (Go.Lib.bytesWorld w 5 S) (some ⟨w.heap.size, 0, none⟩) S.size (grownCap w S.size 0 5) (strB S) where
  size := strB_length S
  le := grownCap_ge w S.size 0 _
  top := grownCap_le_maxLen w S.size 0 _ h
  nil := by intro h; cases h
  byte := strB_byte S
  cell := .inr ⟨w.heap.size, 0, rfl, fun i hi => by rw [Nat.zero_add, Go.Lib.bytesWorld_cell w _ S i hi, strB_getD S i hi]⟩

def Wor.body (x : Wor) : List Int :=
  match x.c with
  | some (some (some (.inl n))) => putInt n
  | some (some (some (.inr (.inl s)))) => strB s
  | some (some (some (.inr (.inr (_, _, _, z))))) => putO z
  | _ => []

set_option maxRecDepth 100000 in
set_option maxHeartbeats 400000 in
theorem bodyOf_any (x : Wor) (w : World) (h : x.In w) (hs : x.str.size ≤ maxLen) :
    Calls Try.prog 68 #[x.v] w fun e w' => ∃ ao n cap, e = .returned (.slice ao n cap) ∧ Row w' ao n cap x.body ∧ Below w.heap.size w w' := by
  cases x using Wor.byCase with
  | int n =>
    show Calls Try.prog 68 #[.iface 87 (.int .i64 n)] w _
    have s1 := as_int_int
    go_enter Try.func68, Try.ntmps68
    go_wp2_with fail
    refine (implInt_made n _ rfl _).mono ?_
    rintro e w1 ⟨ao, cp, rfl, -, hr, hb⟩
    go_wp2
    go_ret
    exact ⟨_, _, _, rfl, hr, hb⟩
  | text s =>
    show Calls Try.prog 68 #[.iface 88 (.string s)] w _
    have s1 := as_text_int
    have s2 := as_text_text
    have hcv := Go.Lib.run_convert_string_bytes (P := Try.prog) w 88 37 5 s Try.underlying88 Try.underlying37 Try.underlying5
    have hbb := Go.Lib.bytesWorld_below w 5 s
    have hrr := row_str w s hs
    generalize Go.Lib.bytesWorld w 5 s = wb at hcv hbb hrr
    generalize grownCap w s.size 0 5 = gc at hcv hrr
    go_enter Try.func68, Try.ntmps68
    go_wp2
    go_ret
    exact ⟨_, _, _, rfl, hrr, hbb⟩
  | oid a l c z =>
    show Calls Try.prog 68 #[.iface 89 (.slice a l c)] w _
    have s1 := as_oid_int
    have s2 := as_oid_text
    have s3 := as_oid_oid
    have h' : IRow w a l c z := h
    go_enter Try.func68, Try.ntmps68
    go_wp2_with fail
    refine (implPut_made a l c z _ rfl _ h').mono ?_
    rintro e w1 ⟨ao, cp, rfl, -, hr, hb⟩
    go_wp2
    go_ret
    exact ⟨_, _, _, rfl, hr, hb⟩
  | null =>
    show Calls Try.prog 68 #[.iface 93 (.agg #[])] w _
    have s1 := as_null_int
    have s2 := as_null_text
    have s3 := as_null_oid
    go_enter Try.func68, Try.ntmps68
    go_wp2
    go_ret
    exact ⟨_, _, _, rfl, row_nil w, Below.refl _ _⟩
  | none =>
    show Calls Try.prog 68 #[.iface 94 (.agg #[])] w _
    have s1 := as_none_int
    have s2 := as_none_text
    have s3 := as_none_oid
    go_enter Try.func68, Try.ntmps68
    go_wp2
    go_ret
    exact ⟨_, _, _, rfl, row_nil w, Below.refl _ _⟩
  | last =>
    show Calls Try.prog 68 #[.iface 95 (.agg #[])] w _
    have s1 := as_end_int
    have s2 := as_end_text
    have s3 := as_end_oid
    go_enter Try.func68, Try.ntmps68
    go_wp2
    go_ret
    exact ⟨_, _, _, rfl, row_nil w, Below.refl _ _⟩

theorem wor_str {K N : Int} {S : ByteArray} {a1 : Option Addr} {l1 c1 : Nat} {z1 : List Int} {x : Wor} (h : worOf K N S a1 l1 c1 z1 = some x) : x.str = S ∨ x.str = ⟨#[]⟩ := by
  unfold worOf at h
  repeat' split at h
  all_goals first | (cases h; exact .inl rfl) | (cases h; exact .inr rfl) | cases h

theorem wor_body {K N : Int} {S : ByteArray} {a1 : Option Addr} {l1 c1 : Nat} {z1 : List Int} {x : Wor} (h : worOf K N S a1 l1 c1 z1 = some x) : x.body = bodyV K N S z1 := by
  unfold worOf at h
  unfold bodyV
  repeat' split at h
  all_goals first | cases h | skip
  all_goals subst K
  all_goals simp [Wor.body]

theorem body_small {K N : Int} {S : ByteArray} {z : List Int} (h : okV K N S z = true) : (bodyV K N S z).length ≤ 250 := by
  unfold bodyV
  split
  · have := putInt_length N; omega
  · split
    · subst K
      rw [strB_length]
      simp [okV] at h
      omega
    · split
      · have := put_length z; omega
      · simp

set_option maxRecDepth 100000 in
set_option maxHeartbeats 1000000 in
theorem implPutVal_any (a1 : Option Addr) (l1 c1 : Nat) (z1 : List Int) (K N : Int) (S : ByteArray) (a2 : Option Addr) (l2 c2 : Nat) (z2 : List Int) (w : World) (h1 : Row w a1 l1 c1 z1) (hS : S.size ≤ maxLen) (h2 : IRow w a2 l2 c2 z2) (hs : l1 ≤ 8000000) :
    Calls Try.prog 56 #[.slice a1 l1 c1, .agg #[.int .i64 K, .int .i64 N, .string S, .slice a2 l2 c2]] w fun e w' => ∃ ao n cap, e = .returned (.slice ao n cap) ∧
      w'.ownsRow w.heap.size 5 1 (.slice ao n cap) n (cB (putV z1 K N S z2)) ∧ Below w.heap.size w w' := by
  cases hk : okV K N S z2
  · have hP : putV z1 K N S z2 = z1 := by simp [putV, hk]
    rw [hP]
    clear hP
    have HK := hide hk
    clear hk
    go_enter Try.func56, Try.ntmps56
    go_wp2_with fail
    refine (implValOk_any K N S a2 l2 c2 z2 _ (h2.below (below_one _ _))).mono ?_
    rintro e w1 ⟨rfl, hb⟩
    rw [HK.out]
    have b1 : Below w.heap.size w w1 := (below_one w _).trans (hb.mono (below_one w _).size)
    clear hb
    go_wp2_with fail
    refine (pieces_any _ _ _ z1 _ _ _ [] _ (h1.below b1) (pieces_none _) (by simp [tot]; omega)).mono ?_
    rintro e w2 ⟨rfl, how2, hb2⟩
    go_wp2
    go_ret
    exact ⟨_, _, _, rfl, by simpa [tot, flat] using own_lt how2 b1.size, b1.trans (hb2.mono b1.size)⟩
  · have hP : putV z1 K N S z2 = putTlv z1 K (bodyV K N S z2) := by simp [putV, hk]
    have hsm := body_small hk
    rw [hP]
    clear hP
    have HK := hide hk
    cases hx : worOf K N S a2 l2 c2 z2 with
    | none => rw [ok_none hx] at hk; cases hk
    | some x =>
      have hin := wor_in h2 hx
      have hbo := wor_body hx
      have hst : x.str.size ≤ maxLen := by
        rcases wor_str hx with e | e <;> rw [e]
        · exact hS
        · exact Nat.zero_le _
      rw [← hbo] at hsm ⊢
      clear hk hbo
      have HX := hide hx
      clear hx
      go_enter Try.func56, Try.ntmps56
      go_wp2_with fail
      refine (implValOk_any K N S a2 l2 c2 z2 _ (h2.below (below_one _ _))).mono ?_
      rintro e w1 ⟨rfl, hb⟩
      rw [HK.out]
      have b1 : Below w.heap.size w w1 := (below_one w _).trans (hb.mono (below_one w _).size)
      have HKB := hide (kept_block (block_last w _) hb)
      obtain ⟨⟨x0, x1, x2, x3⟩, -⟩ := cells4 (kept_block (block_last w _) hb)
      have r1 := h1.below b1
      have hin1 := hin.below b1
      clear hb
      go_wp2_with fail
      go_region_held3 (fun W => W.cell? ⟨w.heap.size, 0, none⟩ = some (.int .i64 K) ∧ W.cell? ⟨w.heap.size, 1, none⟩ = some (.int .i64 N) ∧ W.cell? ⟨w.heap.size, 2, none⟩ = some (.string S) ∧ W.cell? ⟨w.heap.size, 3, none⟩ = some (.slice a2 l2 c2)) (first | exact (cells4 k4).1 | exact (cells4 k3).1 | exact (cells4 k2).1 | go_keep) (first
        | (go_at_call 69; refine (worthOf_any K N S a2 l2 c2 z2 _).mono ?_; rintro e w2 ⟨rfl, hb2⟩; rw [HX.out, show worV (some x) = x.v from rfl]; have k2 := kept_block HKB.out (undrew hb2))
        | (go_at_call 68; refine (bodyOf_any x _ (hin1.below (undrew hb2)) hst).mono ?_; rintro e w3 ⟨ao3, n3, cp3, rfl, r3, hb3⟩; have k3 := kept_block k2 hb3)
        | (go_at_call 40; refine (implTlv_any _ _ _ z1 K _ _ _ x.body _ (r1.below ((undrew hb2).trans (hb3.mono (undrew hb2).size))) r3 (by have := r3.size; omega)).mono ?_; rintro e w4 ⟨ao4, n4, cp4, rfl, ho4, hb4⟩; have k4 := kept_block k3 hb4))
      have b2 := b1.trans ((undrew hb2).mono b1.size)
      have b3 := b2.trans (hb3.mono b2.size)
      go_wp2
      go_ret
      exact ⟨_, _, _, rfl, own_lt ho4 b3.size, b3.trans (hb4.mono b3.size)⟩

end Go.Proofs.Ytamglfhnhjgdjaa
