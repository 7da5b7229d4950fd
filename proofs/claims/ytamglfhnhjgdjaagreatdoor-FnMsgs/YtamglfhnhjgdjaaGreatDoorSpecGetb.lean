/-
  The specification's GetTlv by its contract where a part is there whole.
-/
import Derived.Test.YtamglfhnhjgdjaaGreatDoorSpecGet
namespace Go.Proofs.YtamglfhnhjgdjaaGreatDoor
open Go.RowKit

theorem wrap_in (x : Int) (h : -9223372036854775808 ≤ x ∧ x ≤ 9223372036854775807) : IntKind.i64.wrap x = x := by
  rw [IntKind.wrap_i64]; omega

set_option maxRecDepth 100000 in
set_option maxHeartbeats 800000 in
theorem specGet_short (b off l1 c1 p n : Nat) (z1 : List Int) (w : World) (h1 : Row w (some ⟨b, off, none⟩) l1 c1 z1) (hc : ∀ i, i < l1 → w.cell? ⟨b, off + i, none⟩ = some (.int .u8 (z1.getD i 0))) (hs : l1 ≤ 3000000) (hp : p + 1 < l1)
    (hx : z1.getD (p + 1) 0 = n) (hn : n < 128) (hfit : n + (p + 2) ≤ l1) : SpecGet (some ⟨b, off, none⟩) l1 c1 z1 p w := by
  have s1 := h1.size
  have e : getTlv z1 p = (z1.getD p 0, (z1.drop (p + 2)).take n, ((p + 2 : Nat) : Int) + n, true) := getTlv_yes z1 p n (p + 2) (by omega) (by rw [lenAt_short z1 (p + 1) n (by omega) hx (by omega)]; rfl) (by omega)
  unfold SpecGet
  rw [e]; clear e
  have cx := hc (p + 1) (by omega)
  rw [hx] at cx
  have c0 := hc p (by omega)
  have b0 := getD_byte h1.byte p
  have hle := h1.le
  obtain ⟨ad, had, hcut⟩ : ∃ ad, ad = (if c1 = p + 2 then off else off + (p + 2)) ∧ Row w (some ⟨b, ad, none⟩) n (c1 - (p + 2)) ((z1.drop (p + 2)).take n) := ⟨_, rfl, h1.cut hc (p + 2) n (by omega) _ _ rfl (by intro hn0; rw [if_neg (by omega)]) (by intro h; cases h)⟩
  generalize z1.getD p 0 = y at *
  have HB : b < w.heap.size := block_lt c0
  clear hc h1 hx
  have g2 : (p : Int) + 2 + n ≤ c1 := by omega
  have g0 : (0 : Int) ≤ (p : Int) + 2 + n := by omega
  have g1 : (p : Int) + 2 ≤ max ((p : Int) + 2 + n) 0 := by omega
  have g3 : (0 : Int) ≤ (p : Int) + 2 := by omega
  have g4 : (p : Int) + 2 ≤ (p : Int) + 2 + n := by omega
  have hw := wrap_in ((p : Int) + 2 + n) (by omega)
  have hq1 : ((p : Int) + 2).toNat = p + 2 := by omega
  have hq2 : ((p : Int) + 2 + n).toNat = p + 2 + n := by omega
  have hq3 : p + 2 + n - (p + 2) = n := by omega
  by_cases hcf : c1 = p + 2
  · subst hcf
    rw [if_pos rfl] at had
    subst had
    obtain rfl : n = 0 := by omega
    rw [Nat.sub_self] at hcut
    clear g0 g1 g2 g4 hw hq2 hq3
    have hw := wrap_in ((p : Int) + 2) (by omega)
    have g1 : (p : Int) + 2 ≤ max ((p : Int) + 2) 0 := by omega
    have HR := hide hcut
    clear hcut
    go_enter Tryz.func33, Tryz.ntmps33
    go_wp2
    go_region_law (refine step_append_row rfl _ _ 22 rfl w.heap.size Tryz.underlying22 Tryz.infoU8 _ 0 [] rfl (World.ownsRow_lit w #[] 0 (Nat.le_refl _) (Nat.zero_le _) rfl).drew byte_nil _ _ _ ((z1.drop (p + 2)).take 0) rfl (HR.out.below ((Below.refl _ _).alloc (Nat.le_refl _) _).drew) (by omega) (by simp) ?_; intro ao2 cp2 w2 how2 row2 hb2; have cx2 := (hb2.cell (p := ⟨b, ad + p, none⟩) HB))
    all_goals
      go_wp2
      refine bodyPost_ret (v := .tuple #[.int .i64 y, .slice ao2 (0 + 0) cp2, .int .i64 ((p + 2 : Nat) : Int), .bool true]) (by simp [results, Tryz.results33, go_sem, wrap_small y b0]) rfl ⟨_, _, _, rfl, by simpa using how2, ?_⟩
      exact (((Below.refl _ _).alloc (Nat.le_refl _) _).drew).trans hb2
  · rw [if_neg hcf] at had
    subst had
    have HR := hide hcut
    clear hcut
    go_enter Tryz.func33, Tryz.ntmps33
    go_wp2
    go_region_law (refine step_append_row rfl _ _ 22 rfl w.heap.size Tryz.underlying22 Tryz.infoU8 _ 0 [] rfl (World.ownsRow_lit w #[] 0 (Nat.le_refl _) (Nat.zero_le _) rfl).drew byte_nil _ _ _ ((z1.drop (p + 2)).take n) rfl (HR.out.below ((Below.refl _ _).alloc (Nat.le_refl _) _).drew) (by omega) (by simp) ?_; intro ao2 cp2 w2 how2 row2 hb2; have cx2 := (hb2.cell (p := ⟨b, off + p, none⟩) HB))
    all_goals
      go_wp2
      refine bodyPost_ret (v := .tuple #[.int .i64 y, .slice ao2 (0 + n) cp2, .int .i64 ((p : Int) + 2 + n), .bool true]) (by simp [results, Tryz.results33, go_sem, wrap_small y b0]) rfl ⟨_, _, _, rfl, by simpa using how2, ?_⟩
      exact (((Below.refl _ _).alloc (Nat.le_refl _) _).drew).trans hb2

end Go.Proofs.YtamglfhnhjgdjaaGreatDoor
