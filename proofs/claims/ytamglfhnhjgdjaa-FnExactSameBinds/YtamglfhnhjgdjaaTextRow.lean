/-
  Bytes as a text, and a text as bytes.
-/
import Derived.Test.YtamglfhnhjgdjaaBase
import Derived.Laws.IdiomStrings
namespace Go.Proofs.Ytamglfhnhjgdjaa
open Go.RowKit

/-- The bytes of a text. -/
def strB (S : ByteArray) : List Int := S.data.toList.map fun b => (b.toNat : Int)

/-- Bytes as a text. -/
def byB (zs : List Int) : ByteArray := ⟨(zs.map fun z => UInt8.ofNat z.toNat).toArray⟩

theorem byB_size (zs : List Int) : (byB zs).size = zs.length := by
  show (zs.map fun z => UInt8.ofNat z.toNat).toArray.size = _
  rw [List.size_toArray, List.length_map]

theorem byte_back {z : Int} (h : 0 ≤ z ∧ z ≤ 255) : ((UInt8.ofNat z.toNat).toNat : Int) = z := by
  rw [UInt8.toNat_ofNat']
  omega

theorem strB_byB {zs : List Int} (h : Byt zs) : strB (byB zs) = zs := by
  show ((zs.map fun z => UInt8.ofNat z.toNat).toArray.toList).map (fun b => (b.toNat : Int)) = zs
  rw [List.toList_toArray, List.map_map]
  conv => rhs; rw [← List.map_id zs]
  exact List.map_congr_left (fun z hz => byte_back (h z hz))

theorem conv_row (dst : TypeId) (w : World) (ao : Option Addr) (l c : Nat) (zs : List Int) (h : Row w ao l c zs) (hd : Try.prog.underlying dst = some .string) : (convert 37 dst (.slice ao l c)).run Try.prog w = .ok (.string (byB zs)) w := by
  have hl : (zs.map fun z => UInt8.ofNat z.toNat).length = l := by rw [List.length_map]; exact h.size
  rcases ao with _ | a
  · obtain ⟨rfl, rfl⟩ := h.none_zero rfl
    have hz : zs = [] := List.eq_nil_of_length_eq_zero h.size
    subst hz
    rw [run_convert_bytes_string w 37 dst 5 none 0 0 Try.underlying37 Try.underlying5 hd]
    rfl
  · have := run_convert_bytes_back (P := Try.prog) w 37 dst 5 a c (zs.map fun z => UInt8.ofNat z.toNat) Try.underlying37 Try.underlying5 hd (by
      intro j hj
      have hj' : j < zs.length := by simpa using hj
      rw [h.news a rfl j _ (cB_get zs j hj')]
      have hb := getD_byte h.byte j
      have e : (zs.map fun z => UInt8.ofNat z.toNat)[j] = UInt8.ofNat (zs.getD j 0).toNat := by simp [List.getD_eq_getElem?_getD, hj']
      rw [e, byte_back hb])
    rw [hl] at this
    exact this

theorem byB_strB (S : ByteArray) : byB (strB S) = S := by
  have h : (strB S).map (fun z => UInt8.ofNat z.toNat) = S.data.toList := by
    unfold strB
    rw [List.map_map]
    conv => rhs; rw [← List.map_id S.data.toList]
    exact List.map_congr_left (fun b _ => by
      show UInt8.ofNat ((b.toNat : Int)).toNat = b
      rw [Int.toNat_natCast]
      exact UInt8.ofNat_toNat)
  unfold byB
  rw [h]

end Go.Proofs.Ytamglfhnhjgdjaa
