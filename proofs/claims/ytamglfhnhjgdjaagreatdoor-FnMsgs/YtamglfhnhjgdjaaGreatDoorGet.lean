/-
  A part read back: what GetTlv answers, as a plain function, and both Go functions by their contracts.
-/
import Derived.Test.YtamglfhnhjgdjaaGreatDoorTlv
import Derived.Deep.RegionWith
namespace Go.Proofs.YtamglfhnhjgdjaaGreatDoor
open Go.RowKit

theorem wrap_small (x : Int) (h : 0 ≤ x ∧ x ≤ 255) : IntKind.i64.wrap x = x := by
  rw [IntKind.wrap_i64]; omega

/-- The length at a place: the length, the place behind it, whether it is there and said in its one form. -/
def lenAt (zs : List Int) (p : Nat) : Int × Int × Bool :=
  if zs.length ≤ p then (0, 0, false)
  else if zs.getD p 0 < 128 then (zs.getD p 0, p + 1, true)
  else if ¬ zs.getD p 0 = 129 then (0, 0, false)
  else if zs.length ≤ p + 1 then (0, 0, false)
  else (zs.getD (p + 1) 0, p + 2, decide (128 ≤ zs.getD (p + 1) 0) && decide (zs.getD (p + 1) 0 ≤ 250))

theorem ret_three {a b a' b' : Int} {c c' : Bool} (ha : a = a') (hb : b = b') (hc : c = c') : Ending.returned (.tuple #[.int .i64 a, .int .i64 b, .bool c]) = .returned (.tuple #[.int .i64 a', .int .i64 b', .bool c']) := by rw [ha, hb, hc]

set_option maxRecDepth 100000 in
set_option maxHeartbeats 400000 in
theorem lenAt_any (a1 : Option Addr) (l1 c1 : Nat) (z1 : List Int) (x : Int) (p : Nat) (w : World) (h1 : Row w a1 l1 c1 z1) (hs : l1 ≤ 4000000) (hx : x = p) (hp : p ≤ 4000000) :
    Calls Tryz.prog 109 #[.slice a1 l1 c1, .int .i64 x] w fun e w' => e = .returned (.tuple #[.int .i64 (lenAt z1 p).1, .int .i64 (lenAt z1 p).2.1, .bool (lenAt z1 p).2.2]) ∧ w' = w := by
  subst hx
  have s1 := h1.size
  by_cases k1 : l1 ≤ p
  · have e : lenAt z1 p = (0, 0, false) := by unfold lenAt; rw [if_pos (by omega)]
    rw [e]; clear e
    go_enter Tryz.func109, Tryz.ntmps109
    go_wp2
    go_ret3
    exact ⟨rfl, rfl⟩
  obtain ⟨b, off, rfl, hc⟩ := h1.at (by omega)
  have cx := hc p (by omega)
  have bx := getD_byte h1.byte p
  by_cases k2 : z1.getD p 0 < 128
  · have e : lenAt z1 p = (z1.getD p 0, (p : Int) + 1, true) := by unfold lenAt; rw [if_neg (by omega), if_pos k2]
    rw [e]; clear e hc h1
    generalize z1.getD p 0 = x at *
    go_enter Tryz.func109, Tryz.ntmps109
    go_wp2
    go_ret3
    exact ⟨rfl, rfl⟩
  by_cases k3 : z1.getD p 0 = 129
  · by_cases k4 : l1 ≤ p + 1
    · have e : lenAt z1 p = (0, 0, false) := by unfold lenAt; rw [if_neg (by omega), if_neg k2, if_neg (fun h => h k3), if_pos (by omega)]
      rw [e]
      rw [k3] at cx
      clear e hc h1 k2 k3 bx
      go_enter Tryz.func109, Tryz.ntmps109
      go_wp2
      go_ret3
      exact ⟨rfl, rfl⟩
    · have e : lenAt z1 p = (z1.getD (p + 1) 0, (p : Int) + 2, decide (128 ≤ z1.getD (p + 1) 0) && decide (z1.getD (p + 1) 0 ≤ 250)) := by unfold lenAt; rw [if_neg (by omega), if_neg k2, if_neg (fun h => h k3), if_neg (by omega)]
      have cy := hc (p + 1) (by omega)
      have b2 := getD_byte h1.byte (p + 1)
      rw [e]
      rw [k3] at cx
      clear e hc h1 k2 k3 bx
      generalize z1.getD (p + 1) 0 = y at *
      by_cases k5 : 128 ≤ y
      · go_enter Tryz.func109, Tryz.ntmps109
        go_wp2
        go_ret3
        exact ⟨ret_three rfl rfl (by simp [k5]), rfl⟩
      · go_enter Tryz.func109, Tryz.ntmps109
        go_wp2
        go_ret3
        exact ⟨ret_three rfl rfl (by simp; omega), rfl⟩
  · have e : lenAt z1 p = (0, 0, false) := by unfold lenAt; rw [if_neg (by omega), if_neg k2, if_pos k3]
    rw [e]; clear e hc h1
    have hne : (z1.getD p 0 != 129) = true := by simpa using k3
    generalize z1.getD p 0 = x at *
    clear k3
    go_enter Tryz.func109, Tryz.ntmps109
    go_wp2
    go_ret3
    exact ⟨rfl, rfl⟩

theorem lenAt_ok {zs : List Int} (hz : Byt zs) {p : Nat} (h : (lenAt zs p).2.2 = true) : ∃ n f : Nat, lenAt zs p = ((n : Int), (f : Int), true) ∧ n ≤ 250 ∧ f ≤ zs.length ∧ p < f ∧ f ≤ p + 2 := by
  unfold lenAt at *
  have b1 := getD_byte hz p
  have b2 := getD_byte hz (p + 1)
  split at h
  · cases h
  split at h
  · rename_i h1 h2
    rw [if_neg h1, if_pos h2]
    exact ⟨(zs.getD p 0).toNat, p + 1, by rw [Int.toNat_of_nonneg b1.1]; rfl, by omega, by omega, by omega, by omega⟩
  split at h
  · cases h
  split at h
  · cases h
  rename_i h1 h2 h3 h4
  rw [if_neg h1, if_neg h2, if_neg h3, if_neg h4]
  simp only [Bool.and_eq_true, decide_eq_true_eq] at h
  refine ⟨(zs.getD (p + 1) 0).toNat, p + 2, ?_, by omega, by omega, by omega, by omega⟩
  rw [Int.toNat_of_nonneg b2.1]
  simp only [Prod.mk.injEq, true_and]
  exact ⟨rfl, by rw [decide_eq_true h.1, decide_eq_true h.2]; rfl⟩

/-- What is read at a place: its kind, its bytes, the place behind it, whether it is there whole. -/
def getTlv (zs : List Int) (t : Int) : Int × List Int × Int × Bool :=
  if t < 0 ∨ (zs.length : Int) ≤ t then (0, [], 0, false)
  else if (lenAt zs (t.toNat + 1)).2.2 = true ∧ (lenAt zs (t.toNat + 1)).1 ≤ zs.length - (lenAt zs (t.toNat + 1)).2.1 then
    (zs.getD t.toNat 0, (zs.drop (lenAt zs (t.toNat + 1)).2.1.toNat).take (lenAt zs (t.toNat + 1)).1.toNat, (lenAt zs (t.toNat + 1)).2.1 + (lenAt zs (t.toNat + 1)).1, true)
  else (0, [], 0, false)

/-- A cut of a row. -/
theorem Row.cut {w : World} {b off len cap : Nat} {zs : List Int} (h : Row w (some ⟨b, off, none⟩) len cap zs) (hc : ∀ i, i < len → w.cell? ⟨b, off + i, none⟩ = some (.int .u8 (zs.getD i 0))) (f n : Nat) (hf : f + n ≤ len) (ao : Option Addr) (c : Nat) (hcap : c = cap - f) (ha : 0 < n → ao = some ⟨b, off + f, none⟩) (hnn : ao = none → c = 0) :
    Row w ao n c ((zs.drop f).take n) where
  size := by have := h.size; simp; omega
  le := by have := h.le; omega
  top := by have := h.top; omega
  nil := hnn
  byte := fun z hz => h.byte z (List.mem_of_mem_drop (List.mem_of_mem_take hz))
  cell := by
    by_cases h0 : n = 0
    · exact .inl h0
    · refine .inr ⟨b, off + f, ha (by omega), fun i hi => ?_⟩
      rw [Nat.add_assoc, hc (f + i) (by omega)]
      simp [List.getD_eq_getElem?_getD, hi]

set_option maxRecDepth 100000 in
set_option maxHeartbeats 400000 in
theorem implGet_any (a1 : Option Addr) (l1 c1 : Nat) (z1 : List Int) (t : Int) (w : World) (h1 : Row w a1 l1 c1 z1) (hs : l1 ≤ 3000000) :
    Calls Tryz.prog 96 #[.slice a1 l1 c1, .int .i64 t] w fun e w' => ∃ ao n cap, e = .returned (.tuple #[.int .i64 (getTlv z1 t).1, .slice ao n cap, .int .i64 (getTlv z1 t).2.2.1, .bool (getTlv z1 t).2.2.2]) ∧
      w'.ownsRow w.heap.size 5 1 (.slice ao n cap) n (cB (getTlv z1 t).2.1) ∧ Below w.heap.size w w' := by
  have s1 := h1.size
  have hm := h1.top
  by_cases k1 : t < 0
  · have e : getTlv z1 t = (0, [], 0, false) := by unfold getTlv; rw [if_pos (.inl k1)]
    rw [e]; clear e
    go_enter Tryz.func96, Tryz.ntmps96
    go_wp2
    exact bodyPost_ret (v := .tuple #[.int .i64 0, .slice none 0 0, .int .i64 0, .bool false]) (by simp [results, Tryz.results96, go_sem]) rfl ⟨_, _, _, rfl, World.ownsRow_nil _ _ _ _, Below.refl _ _⟩
  by_cases k2 : (l1 : Int) ≤ t
  · have e : getTlv z1 t = (0, [], 0, false) := by unfold getTlv; rw [if_pos (.inr (by omega))]
    rw [e]; clear e
    go_enter Tryz.func96, Tryz.ntmps96
    go_wp2
    exact bodyPost_ret (v := .tuple #[.int .i64 0, .slice none 0 0, .int .i64 0, .bool false]) (by simp [results, Tryz.results96, go_sem]) rfl ⟨_, _, _, rfl, World.ownsRow_nil _ _ _ _, Below.refl _ _⟩
  obtain ⟨p, rfl⟩ : ∃ p : Nat, t = p := ⟨t.toNat, by omega⟩
  by_cases k3 : (lenAt z1 (p + 1)).2.2 = true ∧ (lenAt z1 (p + 1)).1 ≤ z1.length - (lenAt z1 (p + 1)).2.1
  · obtain ⟨n, f, hl, hn, hf, hf1, hf2⟩ := lenAt_ok h1.byte k3.1
    have e : getTlv z1 p = (z1.getD p 0, (z1.drop f).take n, (f : Int) + n, true) := by unfold getTlv; rw [if_neg (by omega)]; simp only [Int.toNat_natCast]; rw [if_pos k3, hl]; simp
    have k5 : ¬ (l1 : Int) - f < n := by have := k3.2; rw [hl] at this; simp at this; omega
    have K := lenAt_any a1 l1 c1 z1 (p + 1) (p + 1) w h1 (by omega) (by simp) (by omega)
    rw [hl] at K
    rw [e]
    have HK := hide K
    obtain ⟨b, off, rfl, hc⟩ := h1.at (by omega)
    have cx := hc p (by omega)
    have bx := getD_byte h1.byte p
    have HC := hide hc
    clear K k3 hl e hc
    generalize z1.getD p 0 = x at *
    have g0 : (0 : Int) ≤ f := by omega
    have g1 : (f : Int) ≤ f + n := by omega
    have hle := h1.le
    have g2 : (f : Int) + n ≤ c1 := by omega
    have g3 : (p : Int) < l1 := by omega
    have g4 : ((f : Int) + n).toNat - f = n := by omega
    obtain ⟨ad, had, hcut⟩ : ∃ ad, ad = (if c1 = f then off else off + f) ∧ Row w (some ⟨b, ad, none⟩) n (c1 - f) ((z1.drop f).take n) := ⟨_, rfl, h1.cut HC.out f n (by omega) _ _ rfl (by intro hn0; rw [if_neg (by omega)]) (by intro h; cases h)⟩
    have HX := hide cx
    clear HC h1
    by_cases hcf : c1 = f
    · subst hcf
      rw [if_pos rfl] at had
      subst had
      obtain rfl : n = 0 := by omega
      rw [Nat.sub_self] at hcut
      have HR := hide hcut
      clear hcut
      go_enter Tryz.func96, Tryz.ntmps96
      go_wp2_with fail
      refine HK.out.mono ?_
      rintro e w1 ⟨rfl, rfl⟩
      go_wp2_with fail
      go_region_with (go_at_call 21; refine (pieces_any _ _ _ ((z1.drop c1).take 0) _ _ _ [] _ (HR.out.below (Below.drew (Below.refl _ _))) (pieces_none _) (by simp [tot] <;> omega)).mono ?_; rintro e w2 ⟨rfl, how2, hb2⟩; have cx2 := (hb2.cell (block_lt (w := w1.drew) (by exact HX.out))).trans HX.out)
      all_goals
        go_wp2
        refine bodyPost_ret (v := .tuple #[.int .i64 x, .slice (some ⟨w1.heap.size, 0, none⟩) (0 + tot [] 0) (0 + tot [] 0), .int .i64 c1, .bool true]) (by simp [results, Tryz.results96, go_sem, wrap_small x bx]) rfl ⟨_, _, _, rfl, ?_, ?_⟩
        · simpa [flat] using how2
        · exact ((Below.refl _ _).drew).trans hb2
    · rw [if_neg hcf] at had
      subst had
      have HR := hide hcut
      clear hcut
      go_enter Tryz.func96, Tryz.ntmps96
      go_wp2_with fail
      refine HK.out.mono ?_
      rintro e w1 ⟨rfl, rfl⟩
      go_wp2_with fail
      go_region_with (go_at_call 21; refine (pieces_any _ _ _ ((z1.drop f).take n) _ _ _ [] _ (HR.out.below (Below.drew (Below.refl _ _))) (pieces_none _) (by simp [tot] <;> omega)).mono ?_; rintro e w2 ⟨rfl, how2, hb2⟩; have cx2 := (hb2.cell (block_lt (w := w1.drew) (by exact HX.out))).trans HX.out)
      all_goals
        go_wp2
        refine bodyPost_ret (v := .tuple #[.int .i64 x, .slice (some ⟨w1.heap.size, 0, none⟩) (n + tot [] 0) (n + tot [] 0), .int .i64 ((f : Int) + n), .bool true]) (by simp [results, Tryz.results96, go_sem, wrap_small x bx]) rfl ⟨_, _, _, rfl, ?_, ?_⟩
        · simpa [flat] using how2
        · exact ((Below.refl _ _).drew).trans hb2
  · have e : getTlv z1 p = (0, [], 0, false) := by unfold getTlv; rw [if_neg (by omega)]; simp only [Int.toNat_natCast]; rw [if_neg k3]
    rw [e]; clear e
    by_cases k4 : (lenAt z1 (p + 1)).2.2 = true
    · obtain ⟨n, f, hl, hn, hf, hf1, hf2⟩ := lenAt_ok h1.byte k4
      have k5 : (l1 : Int) - f < n := by rw [hl] at k3; simp at k3; omega
      have K := lenAt_any a1 l1 c1 z1 (p + 1) (p + 1) w h1 (by omega) (by simp) (by omega)
      rw [hl] at K
      have HK := hide K
      clear K k3 k4 hl
      go_enter Tryz.func96, Tryz.ntmps96
      go_wp2_with fail
      refine HK.out.mono ?_
      rintro e w1 ⟨rfl, rfl⟩
      go_wp2
      exact bodyPost_ret (v := .tuple #[.int .i64 0, .slice none 0 0, .int .i64 0, .bool false]) (by simp [results, Tryz.results96, go_sem]) rfl ⟨_, _, _, rfl, World.ownsRow_nil _ _ _ _, Below.refl _ _⟩
    · have K := lenAt_any a1 l1 c1 z1 (p + 1) (p + 1) w h1 (by omega) (by simp) (by omega)
      have k5 : (lenAt z1 (p + 1)).2.2 = false := by simpa using k4
      rw [k5] at K
      generalize (lenAt z1 (p + 1)).1 = x1 at K
      generalize (lenAt z1 (p + 1)).2.1 = x2 at K
      have HK := hide K
      clear K k3 k4 k5
      go_enter Tryz.func96, Tryz.ntmps96
      go_wp2_with fail
      refine HK.out.mono ?_
      rintro e w1 ⟨rfl, rfl⟩
      go_wp2
      exact bodyPost_ret (v := .tuple #[.int .i64 0, .slice none 0 0, .int .i64 0, .bool false]) (by simp [results, Tryz.results96, go_sem]) rfl ⟨_, _, _, rfl, World.ownsRow_nil _ _ _ _, Below.refl _ _⟩

end Go.Proofs.YtamglfhnhjgdjaaGreatDoor
