/-
  A value out of its bytes, by the contract of the program.
-/
import Derived.Test.YtgfkpgdkkmgjkaaValPut
import Derived.Test.YtgfkpgdkkmgjkaaGetMade
import Derived.Test.YtgfkpgdkkmgjkaaGetNum
import Derived.Test.YtgfkpgdkkmgjkaaOidGet
import Derived.Laws.IdiomStrings
namespace Go.Proofs.Ytgfkpgdkkmgjkaa
open Go.RowKit

/-- Bytes as a text. -/
def byB (zs : List Int) : ByteArray := ⟨(zs.map fun z => UInt8.ofNat z.toNat).toArray⟩
theorem byB_size (zs : List Int) : (byB zs).size = zs.length := by
  show (zs.map fun z => UInt8.ofNat z.toNat).toArray.size = _
  rw [List.size_toArray, List.length_map]
theorem byte_back {z : Int} (h : 0 ≤ z ∧ z ≤ 255) : ((UInt8.ofNat z.toNat).toNat : Int) = z := by
  rw [UInt8.toNat_ofNat']
  omega
theorem strB_byB {zs : List Int} (h : Byt zs) : strB (byB zs) = zs := by
  show ((zs.map fun z => UInt8.ofNat z.toNat).toArray.toList).map (fun b => (b.toNat : Int)) = zs
  rw [List.toList_toArray, List.map_map]
  conv => rhs; rw [← List.map_id zs]
  exact List.map_congr_left (fun z hz => byte_back (h z hz))

theorem conv_row (dst : TypeId) (w : World) (ao : Option Addr) (l c : Nat) (zs : List Int) (h : Row w ao l c zs) (hd : Try.prog.underlying dst = some .string) : (convert 26 dst (.slice ao l c)).run Try.prog w = .ok (.string (byB zs)) w := by
  have hl : (zs.map fun z => UInt8.ofNat z.toNat).length = l := by rw [List.length_map]; exact h.size
  rcases ao with _ | a
  · obtain ⟨rfl, rfl⟩ := h.none_zero rfl
    have hz : zs = [] := List.eq_nil_of_length_eq_zero h.size
    subst hz
    rw [run_convert_bytes_string w 26 dst 5 none 0 0 Try.underlying26 Try.underlying5 hd]
    rfl
  · have := run_convert_bytes_back (P := Try.prog) w 26 dst 5 a c (zs.map fun z => UInt8.ofNat z.toNat) Try.underlying26 Try.underlying5 hd (by
      intro j hj
      have hj' : j < zs.length := by simpa using hj
      rw [h.news a rfl j _ (cB_get zs j hj')]
      have hb := getD_byte h.byte j
      have e : (zs.map fun z => UInt8.ofNat z.toNat)[j] = UInt8.ofNat (zs.getD j 0).toNat := by simp [List.getD_eq_getElem?_getD, hj']
      rw [e, byte_back hb])
    rw [hl] at this
    exact this

/-- What a kind's bytes say. -/
noncomputable def getBody (k : Int) (body : List Int) : Option (Int × Int × ByteArray × List Int) :=
  if k = 2 then (if (getInt body).2 = true then some (2, (getInt body).1, ⟨#[]⟩, []) else none)
  else if k = 4 then (if body.length ≤ 20 then some (4, 0, byB body, []) else none)
  else if k = 6 then (getO body).map (fun o => (6, 0, ⟨#[]⟩, o))
  else if (k = 5 ∨ k = 128 ∨ k = 130) ∧ body.length = 0 then some (k, 0, ⟨#[]⟩, []) else none

def zeroV : Int × Int × ByteArray × List Int × Int × Bool := (0, 0, ⟨#[]⟩, [], 0, false)

noncomputable def getV (zs : List Int) (t : Int) : Int × Int × ByteArray × List Int × Int × Bool :=
  if (getTlv zs t).2.2.2 = true then
    match getBody (getTlv zs t).1 (getTlv zs t).2.1 with
    | some (K, N, S, z) => (K, N, S, z, (getTlv zs t).2.2.1, true)
    | none => zeroV
  else zeroV

theorem Wor.v_iface (x : Wor) : ∃ t v, x.v = .iface t v := by cases x <;> exact ⟨_, _, rfl⟩

theorem below_set4 {B : Nat} {a w : World} (h : Below B a w) {g : Nat} (hB : B ≤ g) (c0 c1 c2 c3 : Value) : Below B a ((((w.setCell ⟨g, 0, none⟩ c0).setCell ⟨g, 1, none⟩ c1).setCell ⟨g, 2, none⟩ c2).setCell ⟨g, 3, none⟩ c3) :=
  below_set (below_set (below_set (below_set h hB 0 c0) hB 1 c1) hB 2 c2) hB 3 c3
theorem own_set4 {w : World} {base : Nat} {e : TypeId} {v : Value} {n : Nat} {xs : List Value} (h : w.ownsRow base e 1 v n xs) {g : Nat} (hg : g < base) (c0 c1 c2 c3 : Value) : ((((w.setCell ⟨g, 0, none⟩ c0).setCell ⟨g, 1, none⟩ c1).setCell ⟨g, 2, none⟩ c2).setCell ⟨g, 3, none⟩ c3).ownsRow base e 1 v n xs :=
  own_set (own_set (own_set (own_set h hg) hg) hg) hg

theorem bare_some {k : Int} (h : k = 5 ∨ k = 128 ∨ k = 130) : ∃ x, bareOf k = some x ∧ x.kind = k ∧ x.num = 0 ∧ x.str = ⟨#[]⟩ ∧ x.sl = .slice none 0 0 := by
  rcases h with rfl | rfl | rfl
  · exact ⟨.null, rfl, rfl, rfl, rfl, rfl⟩
  · exact ⟨.none, rfl, rfl, rfl, rfl, rfl⟩
  · exact ⟨.last, rfl, rfl, rfl, rfl, rfl⟩

theorem bare_is {k : Int} (h : (bareOf k).isSome = true) : k = 5 ∨ k = 128 ∨ k = 130 := by
  unfold bareOf at h
  repeat' split at h
  · exact .inl ‹_›
  · exact .inr (.inl ‹_›)
  · exact .inr (.inr ‹_›)
  · cases h

/-- All ways of a value that is read. -/
theorem getV_ways {z1 : List Int} {t K N : Int} {S : ByteArray} {O : List Int} {next : Int} {ok : Bool} (hG : getV z1 t = (K, N, S, O, next, ok)) {k : Int} {body : List Int} {nx : Int} {okT : Bool} (hT : getTlv z1 t = (k, body, nx, okT)) :
    (okT = false ∧ (K, N, S, O, next, ok) = zeroV) ∨
    (okT = true ∧ k = 2 ∧ (getInt body).2 = true ∧ (K, N, S, O, next, ok) = (2, (getInt body).1, ⟨#[]⟩, [], nx, true)) ∨
    (okT = true ∧ k = 2 ∧ (getInt body).2 = false ∧ (K, N, S, O, next, ok) = zeroV) ∨
    (okT = true ∧ k = 4 ∧ body.length ≤ 20 ∧ (K, N, S, O, next, ok) = (4, 0, byB body, [], nx, true)) ∨
    (okT = true ∧ k = 4 ∧ ¬ body.length ≤ 20 ∧ (K, N, S, O, next, ok) = zeroV) ∨
    (okT = true ∧ k = 6 ∧ ∃ o, getO body = some o ∧ (K, N, S, O, next, ok) = (6, 0, ⟨#[]⟩, o, nx, true)) ∨
    (okT = true ∧ k = 6 ∧ getO body = none ∧ (K, N, S, O, next, ok) = zeroV) ∨
    (okT = true ∧ (¬ k = 2 ∧ ¬ k = 4 ∧ ¬ k = 6) ∧ (k = 5 ∨ k = 128 ∨ k = 130) ∧ body.length = 0 ∧ (K, N, S, O, next, ok) = (k, 0, ⟨#[]⟩, [], nx, true)) ∨
    (okT = true ∧ (¬ k = 2 ∧ ¬ k = 4 ∧ ¬ k = 6) ∧ ((bareOf k).isSome && ((body.length : Int) == 0)) = false ∧ (K, N, S, O, next, ok) = zeroV) := by
  rw [← hG]
  cases okT
  · exact .inl ⟨rfl, by unfold getV; rw [hT]; simp⟩
  right
  have e : getV z1 t = (match getBody k body with | some (K, N, S, z) => (K, N, S, z, nx, true) | none => zeroV) := by unfold getV; rw [hT]; simp
  rw [e]
  by_cases k2 : k = 2
  · subst k2
    cases hi : (getInt body).2
    · right; left; exact ⟨rfl, rfl, rfl, by simp [getBody, hi]⟩
    · left; exact ⟨rfl, rfl, rfl, by simp [getBody, hi]⟩
  right; right
  by_cases k4 : k = 4
  · subst k4
    by_cases hl : body.length ≤ 20
    · left; exact ⟨rfl, rfl, hl, by simp [getBody, hl]⟩
    · right; left; exact ⟨rfl, rfl, hl, by simp [getBody, hl]⟩
  right; right
  by_cases k6 : k = 6
  · subst k6
    cases ho : getO body with
    | none => right; left; exact ⟨rfl, rfl, rfl, by simp [getBody, ho]⟩
    | some o => left; exact ⟨rfl, rfl, o, rfl, by simp [getBody, ho]⟩
  right; right
  by_cases hb : (k = 5 ∨ k = 128 ∨ k = 130) ∧ body.length = 0
  · left; exact ⟨rfl, ⟨k2, k4, k6⟩, hb.1, hb.2, by simp [getBody, k2, k4, k6, hb]⟩
  · right
    refine ⟨rfl, ⟨k2, k4, k6⟩, ?_, by unfold getBody; rw [if_neg k2, if_neg k4, if_neg k6, if_neg hb]⟩
    rw [Bool.eq_false_iff]
    intro h
    simp only [Bool.and_eq_true] at h
    exact hb ⟨bare_is h.1, by have := h.2; simp at this; exact List.length_eq_zero_iff.2 this⟩

end Go.Proofs.Ytgfkpgdkkmgjkaa
