/-
  The specification's GetTlv by its contract where a part with a long length is there whole; and at all arguments.
-/
import Derived.Test.YtamglfhnhjgdjaaGreatDoorSpecGetb
namespace Go.Proofs.YtamglfhnhjgdjaaGreatDoor
open Go.RowKit

set_option maxRecDepth 100000 in
set_option maxHeartbeats 800000 in
theorem specGet_long (b off l1 c1 p n : Nat) (z1 : List Int) (w : World) (h1 : Row w (some ⟨b, off, none⟩) l1 c1 z1) (hc : ∀ i, i < l1 → w.cell? ⟨b, off + i, none⟩ = some (.int .u8 (z1.getD i 0))) (hs : l1 ≤ 3000000) (hp : p + 2 < l1)
    (hx : z1.getD (p + 1) 0 = 129) (hy : z1.getD (p + 2) 0 = n) (hn0 : 128 ≤ n) (hn : n ≤ 250) (hfit : n + (p + 3) ≤ l1) : SpecGet (some ⟨b, off, none⟩) l1 c1 z1 p w := by
  have s1 := h1.size
  have e : getTlv z1 p = (z1.getD p 0, (z1.drop (p + 3)).take n, ((p + 3 : Nat) : Int) + n, true) := getTlv_yes z1 p n (p + 3) (by omega) (by rw [lenAt_long z1 (p + 1) n (by omega) hx hy, decide_eq_true (by omega), decide_eq_true (by omega)]; rfl) (by omega)
  unfold SpecGet
  rw [e]; clear e
  have cx := hc (p + 1) (by omega)
  rw [hx] at cx
  have cy := hc (p + 2) (by omega)
  rw [hy] at cy
  have c0 := hc p (by omega)
  have b0 := getD_byte h1.byte p
  have hle := h1.le
  obtain ⟨ad, had, hcut⟩ : ∃ ad, ad = (if c1 = p + 3 then off else off + (p + 3)) ∧ Row w (some ⟨b, ad, none⟩) n (c1 - (p + 3)) ((z1.drop (p + 3)).take n) := ⟨_, rfl, h1.cut hc (p + 3) n (by omega) _ _ rfl (by intro hn0; rw [if_neg (by omega)]) (by intro h; cases h)⟩
  generalize z1.getD p 0 = y at *
  have HB : b < w.heap.size := block_lt c0
  clear hc h1 hx hy
  have g2 : (p : Int) + 2 + 1 + n ≤ c1 := by omega
  have g0 : (0 : Int) ≤ (p : Int) + 2 + 1 + n := by omega
  have g1 : (p : Int) + 2 + 1 ≤ max ((p : Int) + 2 + 1 + n) 0 := by omega
  have g3 : (0 : Int) ≤ (p : Int) + 2 + 1 := by omega
  have g4 : (p : Int) + 2 + 1 ≤ (p : Int) + 2 + 1 + n := by omega
  have hw := wrap_in ((p : Int) + 2 + 1 + n) (by omega)
  have hq1 : ((p : Int) + 2 + 1).toNat = p + 3 := by omega
  have hq2 : ((p : Int) + 2 + 1 + n).toNat = p + 3 + n := by omega
  have hq3 : p + 3 + n - (p + 3) = n := by omega
  have hcf : ¬ c1 = p + 3 := by omega
  rw [if_neg hcf] at had
  subst had
  have HR := hide hcut
  clear hcut
  go_enter Tryz.func33, Tryz.ntmps33
  go_wp2
  go_region_law (refine step_append_row rfl _ _ 22 rfl w.heap.size Tryz.underlying22 Tryz.infoU8 _ 0 [] rfl (World.ownsRow_lit w #[] 0 (Nat.le_refl _) (Nat.zero_le _) rfl).drew byte_nil _ _ _ ((z1.drop (p + 3)).take n) rfl (HR.out.below ((Below.refl _ _).alloc (Nat.le_refl _) _).drew) (by omega) (by simp) ?_; intro ao2 cp2 w2 how2 row2 hb2; have cx2 := (hb2.cell (p := ⟨b, off + p, none⟩) HB))
  all_goals
    go_wp2
    refine bodyPost_ret (v := .tuple #[.int .i64 y, .slice ao2 (0 + n) cp2, .int .i64 ((p : Int) + 2 + 1 + n), .bool true]) (by simp [results, Tryz.results33, go_sem, wrap_small y b0]) rfl ⟨_, _, _, rfl, by simpa using how2, ?_⟩
    exact (((Below.refl _ _).alloc (Nat.le_refl _) _).drew).trans hb2

theorem specGet_any (a1 : Option Addr) (l1 c1 : Nat) (z1 : List Int) (t : Int) (w : World) (h1 : Row w a1 l1 c1 z1) (hs : l1 ≤ 3000000) : SpecGet a1 l1 c1 z1 t w := by
  by_cases k : t < 0 ∨ (l1 : Int) ≤ t + 1
  · exact specGet_out a1 l1 c1 z1 t w h1 hs k
  · have s1 := h1.size
    obtain ⟨p, rfl⟩ : ∃ p : Nat, t = p := ⟨t.toNat, by omega⟩
    obtain ⟨b, off, rfl, hc⟩ := h1.at (by omega)
    by_cases hno : (lenAt z1 (p + 1)).2.2 = true ∧ (lenAt z1 (p + 1)).1 ≤ z1.length - (lenAt z1 (p + 1)).2.1
    · have bx := getD_byte h1.byte (p + 1)
      have b2 := getD_byte h1.byte (p + 2)
      by_cases k1 : z1.getD (p + 1) 0 < 128
      · rw [lenAt_short z1 (p + 1) _ (by omega) rfl k1] at hno
        have := hno.2
        simp only at this
        exact specGet_short b off l1 c1 p (z1.getD (p + 1) 0).toNat z1 w h1 hc hs (by omega) (by omega) (by omega) (by omega)
      · by_cases k2 : z1.getD (p + 1) 0 = 129
        · by_cases k3 : p + 2 < l1
          · rw [lenAt_long z1 (p + 1) (z1.getD (p + 2) 0) (by omega) k2 rfl] at hno
            have h1' := hno.1
            have h2' := hno.2
            simp only [Bool.and_eq_true, decide_eq_true_eq] at h1'
            simp only at h2'
            exact specGet_long b off l1 c1 p (z1.getD (p + 2) 0).toNat z1 w h1 hc hs (by omega) k2 (by omega) (by omega) (by omega) (by omega)
          · rw [lenAt_cut z1 (p + 1) (by omega) k2 (by omega)] at hno
            exact absurd hno.1 (by simp)
        · rw [lenAt_other z1 (p + 1) _ (by omega) rfl k1 k2] at hno
          exact absurd hno.1 (by simp)
    · exact specGet_bad b off l1 c1 p z1 w h1 hc hs (by omega) hno

end Go.Proofs.YtamglfhnhjgdjaaGreatDoor
