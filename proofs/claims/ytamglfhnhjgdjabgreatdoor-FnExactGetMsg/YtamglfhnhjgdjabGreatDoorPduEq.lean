/-
  Whether two binds, two lists of binds, two requests are the same: the law file's helpers where they are.
-/
import Derived.Test.YtamglfhnhjgdjabGreatDoorQG
namespace Go.Proofs.YtamglfhnhjgdjabGreatDoor
open Go.RowKit

set_option maxRecDepth 100000 in
set_option maxHeartbeats 1000000 in
theorem eqBind_same (x y : BI) (hd : x.d = y.d) (w : World) (hx : x.In w) (hy : y.In w) :
    Calls Tryz.prog 30 #[.agg #[.slice x.oa x.on x.oc, .int .i64 x.K, .int .i64 x.N, .string x.S, .slice x.za x.zn x.zc], .agg #[.slice y.oa y.on y.oc, .int .i64 y.K, .int .i64 y.N, .string y.S, .slice y.za y.zn y.zc]] w fun e w' =>
      e = .returned (.bool true) ∧ Below w.heap.size w w' := by
  obtain ⟨oa, on, oc, o, K, N, S, za, zn, zc, z⟩ := x
  obtain ⟨oa', on', oc', o', K', N', S', za', zn', zc', z'⟩ := y
  simp only [BI.d, BD.mk.injEq] at hd
  obtain ⟨rfl, rfl, rfl, rfl, rfl⟩ := hd
  obtain ⟨h1, h2, -⟩ := hx
  obtain ⟨h3, h4, -⟩ := hy
  simp only at h1 h2 h3 h4 ⊢
  go_enter Tryz.func30, Tryz.ntmps30
  go_wp2_with fail
  refine (eqI_same oa on oc oa' on' oc' o _ (h1.below (below_two _ _ _)) (h3.below (below_two _ _ _))).mono ?_
  rintro e w1 ⟨rfl, m, rfl⟩
  go_wp2_with fail
  refine (eqVal_same K N S za zn zc za' zn' zc' z _ (h2.below (below_drewN (below_two _ _ _) m)) (h4.below (below_drewN (below_two _ _ _) m))).mono ?_
  rintro e w2 ⟨rfl, hb⟩
  go_wp2
  go_ret
  exact ⟨rfl, (below_drewN (below_two w _ _) m).trans (hb.mono (by have := (below_two w (.cells #[.slice oa on oc, .int .i64 K, .int .i64 N, .string S, .slice za zn zc] 59) (.cells #[.slice oa' on' oc', .int .i64 K, .int .i64 N, .string S, .slice za' zn' zc'] 59)).size; exact this))⟩

theorem map_at {a b : List BI} (h : a.map BI.d = b.map BI.d) {i : Nat} {x y : BI} (hx : a[i]? = some x) (hy : b[i]? = some y) : x.d = y.d := by
  have h1 : (a.map BI.d)[i]? = some x.d := by rw [List.getElem?_map, hx]; rfl
  rw [h, List.getElem?_map, hy] at h1
  exact (Option.some.inj h1).symm

set_option maxRecDepth 100000 in
set_option maxHeartbeats 2000000 in
theorem eqBinds_same (ao : Option Addr) (n c : Nat) (l : List BI) (ao' : Option Addr) (n' c' : Nat) (l' : List BI) (hd : l.map BI.d = l'.map BI.d) (w : World) (hl : BRow w ao n c l) (hl' : BRow w ao' n' c' l') :
    Calls Tryz.prog 18 #[.slice ao n c, .slice ao' n' c'] w fun e w' => e = .returned (.bool true) ∧ Below w.heap.size w w' := by
  have hs := hl.size
  have hs' := hl'.size
  have htop := Nat.le_trans hl.le hl.top
  unfold maxLen at htop
  have hnn : n' = n := by rw [← hs, ← hs']; simpa using (congrArg List.length hd).symm
  subst hnn
  go_enter Tryz.func18, Tryz.ntmps18
  go_wp2
  go_loopw [5] (fun i wr => ∃ k : Nat, k ≤ n' ∧ i = .int .i64 k ∧ Below w.heap.size w wr) (fun i _ => n' - (intOf i).toNat)
  case atStart => exact ⟨0, Nat.zero_le _, rfl, Below.refl _ _⟩
  case round =>
    obtain ⟨k, hk, rfl, hb⟩ := hrel
    by_cases hlt : k < n'
    · obtain ⟨x, b, off, hx, rfl, hat, hin⟩ := (hl.below hb).at k hlt
      obtain ⟨y, b', off', hy, rfl, hat', hin'⟩ := (hl'.below hb).at k hlt
      have hxy := map_at hd hx hy
      have CX : Hid (∀ W, Below wr.heap.size wr W → x.At W b (off + k * 5) ∧ y.At W b' (off' + k * 5)) := fun W h => ⟨hat.below h, hat'.below h⟩
      have HB := hide hb
      clear hx hy hb
      unfold BI.At at CX
      obtain ⟨a0, a1, a2, a3, a4⟩ := hat
      obtain ⟨e0, e1, e2, e3, e4⟩ := hat'
      go_wp2_with fail
      go_region_held3 (fun W => (W.cell? ⟨b, off + k * 5, none⟩ = some (.slice x.oa x.on x.oc) ∧ W.cell? ⟨b, off + k * 5 + 1, none⟩ = some (.int .i64 x.K) ∧ W.cell? ⟨b, off + k * 5 + 2, none⟩ = some (.int .i64 x.N) ∧ W.cell? ⟨b, off + k * 5 + 3, none⟩ = some (.string x.S) ∧ W.cell? ⟨b, off + k * 5 + 4, none⟩ = some (.slice x.za x.zn x.zc)) ∧ (W.cell? ⟨b', off' + k * 5, none⟩ = some (.slice y.oa y.on y.oc) ∧ W.cell? ⟨b', off' + k * 5 + 1, none⟩ = some (.int .i64 y.K) ∧ W.cell? ⟨b', off' + k * 5 + 2, none⟩ = some (.int .i64 y.N) ∧ W.cell? ⟨b', off' + k * 5 + 3, none⟩ = some (.string y.S) ∧ W.cell? ⟨b', off' + k * 5 + 4, none⟩ = some (.slice y.za y.zn y.zc))) (first | exact CX.out _ u1 | go_keep) (first
        | (go_at_call 30; refine (eqBind_same x y hxy _ (hin.below (below_drewN (Below.refl _ _) _)) (hin'.below (below_drewN (Below.refl _ _) _))).mono ?_; rintro e w1 ⟨rfl, hb1⟩; have u1 := undrew hb1))
      have b1 := HB.out.trans (u1.mono HB.out.size)
      clear u1 hb1 a0 a1 a2 a3 a4 e0 e1 e2 e3 e4
      go_wp2
      go_roundw
      case rel => exact ⟨k + 1, by omega, by go_num, b1⟩
      case measure => simp [intOf]; omega
    · have hk' : k = n' := by omega
      subst hk'
      go_wp2
      go_ret
      exact ⟨rfl, hb⟩

set_option maxRecDepth 100000 in
set_option maxHeartbeats 1000000 in
theorem eqPdu_same (K I A B : Int) (ao : Option Addr) (n c : Nat) (l : List BI) (ao' : Option Addr) (n' c' : Nat) (l' : List BI) (hd : l.map BI.d = l'.map BI.d) (w : World) (hl : BRow w ao n c l) (hl' : BRow w ao' n' c' l') :
    Calls Tryz.prog 7 #[.agg #[.int .i64 K, .int .i64 I, .int .i64 A, .int .i64 B, .slice ao n c], .agg #[.int .i64 K, .int .i64 I, .int .i64 A, .int .i64 B, .slice ao' n' c']] w fun e w' => e = .returned (.bool true) ∧ Below w.heap.size w w' := by
  go_enter Tryz.func7, Tryz.ntmps7
  go_wp2_with fail
  refine (eqBinds_same ao n c l ao' n' c' l' hd _ (hl.below (below_two _ _ _)) (hl'.below (below_two _ _ _))).mono ?_
  rintro e w1 ⟨rfl, hb⟩
  go_wp2
  go_ret
  exact ⟨rfl, (below_two w _ _).trans (hb.mono (below_two w _ _).size)⟩

end Go.Proofs.YtamglfhnhjgdjabGreatDoor
