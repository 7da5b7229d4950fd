/-
  The text of a mark.
-/
import Derived.Test.YtgmkhoakindpkaaPJK01
import Derived.Test.YtgmkhoakindpkaaPJK03
namespace Go.Proofs.Ytgmkhoakindpkaa
open Go.RowKit

def mtF : Nat → Nat → ByteArray → ByteArray
 | 0, _, out => out
 | f + 1, k, out => if k = 0 then out else mtF f (k / 10) (byB [((48 + k % 10 : Nat) : Int)] ++ out)
def mtx (k : Int) : ByteArray := ⟨#[109]⟩ ++ mtF 20 k.toNat ⟨#[]⟩

theorem mtF_zero (f : Nat) (out : ByteArray) : mtF f 0 out = out := by cases f <;> simp [mtF]

structure MT (k : Int) (m : Nat) (out : ByteArray) : Prop where
 f : ∃ f, mtF f m out = mtF 20 k.toNat ⟨#[]⟩ ∧ m < 10 ^ f ∧ out.size + f ≤ 20

theorem MT.next {k : Int} {m : Nat} {out : ByteArray} (h : MT k m out) (hm : 0 < m) : MT k (m / 10) (byB [((48 + m % 10 : Nat) : Int)] ++ out) := by
 obtain ⟨f, h1, h2, h3⟩ := h.f
 cases f with
 | zero => simp at h2; omega
 | succ f =>
  refine ⟨f, ?_, ?_, ?_⟩
  ·rw [← h1]
   conv => rhs; unfold mtF
   rw [if_neg (by omega)]
  ·rw [Nat.pow_succ] at h2; omega
  ·rw [ByteArray.size_append, byB_size]; simp; omega
theorem MT.done {k : Int} {out : ByteArray} (h : MT k 0 out) : ⟨#[109]⟩ ++ out = mtx k := by
 obtain ⟨f, h1, -, -⟩ := h.f
 rw [mtF_zero] at h1
 unfold mtx
 rw [h1]
theorem MT.small {k : Int} {m : Nat} {out : ByteArray} (h : MT k m out) : out.size ≤ 20 := by
 obtain ⟨f, -, -, h3⟩ := h.f; omega

set_option maxRecDepth 100000 in
set_option maxHeartbeats 1000000 in
theorem markText_any (k : Int) (w : World) (h0 : 0 < k) (h1 : k ≤ 1099511627776) :
  Calls Try.prog 64 #[.int .i64 k] w fun e w' => e = .returned (.string (mtx k)) ∧ (mtx k).size ≤ 21 ∧ Below w.heap.size w w' := by
 have hstart : MT k k.toNat ⟨#[]⟩ := ⟨20, rfl, by omega, by simp [ByteArray.size]⟩
 have hk0 : ¬ k ≤ 0 := by omega
 go_enter Try.func64, Try.ntmps64
 go_wp2
 go_loopw [0, 3] (fun x s wr => ∃ (m : Nat) (out : ByteArray), x = .int .i64 m ∧ s = .string out ∧ (m : Int) ≤ k ∧ MT k m out ∧ Below w.heap.size w wr) (fun x _ _ => (intOf x).toNat)
 case atStart => exact ⟨k.toNat, ⟨#[]⟩, by rw [Int.toNat_of_nonneg (by omega)], rfl, by omega, hstart, Below.refl _ _⟩
 case round =>
  obtain ⟨m, out, rfl, rfl, hmk, hmt, hb⟩ := hrel
  have hsm := hmt.small
  by_cases hm : 0 < m
  ·have hnx := hmt.next hm
   have hw0 : (m : Int).tdiv 10 = ((m / 10 : Nat) : Int) := by rw [Int.tdiv_eq_ediv_of_nonneg (by omega)]; omega
   have hw1 : (m : Int).tmod 10 = ((m % 10 : Nat) : Int) := by rw [Int.tmod_eq_emod_of_nonneg (by omega)]; omega
   have hd : m % 10 < 10 := Nat.mod_lt _ (by omega)
   have hcv := conv_row 9 (wr.alloc (.cells #[.int .u8 ((48 + m % 10 : Nat) : Int)] 5)) (some ⟨wr.heap.size, 0, none⟩) 1 1 [((48 + m % 10 : Nat) : Int)] (row_one wr _ (by omega)) Try.underlying9
   have hbs : (byB [((48 + m % 10 : Nat) : Int)]).size = 1 := byB_size _
   have HB := hide (hb.trans ((below_one wr (.cells #[.int .u8 ((48 + m % 10 : Nat) : Int)] 5)).mono hb.size))
   have HN := hide hnx
   clear hb hnx hstart hmt
   generalize hD : ((48 + m % 10 : Nat) : Int) = D at *
   have hD' : 48 + ((m % 10 : Nat) : Int) = D := by rw [← hD]; omega
   generalize ((m % 10 : Nat) : Int) = r at *
   generalize hq : m / 10 = q at *
   go_wp2
   go_roundw
   case rel => exact ⟨q, _, rfl, rfl, by omega, HN.out, HB.out⟩
   case measure => simp [intOf]; omega
  ·have hm0 : m = 0 := by omega
   subst hm0
   have HD := hide hmt.done
   have hsz : (ByteArray.mk #[109] ++ out).size ≤ 21 := by rw [ByteArray.size_append]; have : (ByteArray.mk #[109]).size = 1 := rfl; omega
   have HS := hide hsz
   clear hsz hmt
   go_wp2
   go_ret
   exact ⟨by rw [← HD.out]; rfl, by rw [← HD.out]; exact HS.out, hb⟩

end Go.Proofs.Ytgmkhoakindpkaa
