/-
  Whether two lists of binds are the same: the specification's function and the program's by contracts.
-/
import Derived.Test.YtamglfhnhjgdjaaGreatDoorQG
import Derived.Test.YtamglfhnhjgdjaaGreatDoorValSame
import Derived.Test.YtamglfhnhjgdjaaGreatDoorQB
namespace Go.Proofs.YtamglfhnhjgdjaaGreatDoor
open Go.RowKit

def sameB (x y : BD) : Bool := decide (x.o = y.o) && sameV x.K x.N x.S x.z y.K y.N y.S y.z
def sameD : List BD → List BD → Bool
  | [], [] => true
  | x :: a, y :: b => sameB x y && sameD a b
  | _, _ => false

theorem sameD_len : ∀ (a b : List BD), ¬ a.length = b.length → sameD a b = false
  | [], [], h => absurd rfl h
  | [], _ :: _, _ => rfl
  | _ :: _, [], _ => rfl
  | x :: a, y :: b, h => by
    unfold sameD
    rw [sameD_len a b (by simpa using h), Bool.and_false]
theorem sameD_no : ∀ (a b : List BD) (i : Nat) (x y : BD), a[i]? = some x → b[i]? = some y → sameB x y = false → sameD a b = false
  | [], _, i, x, y, h, _, _ => by simp at h
  | _ :: _, [], i, x, y, _, h, _ => by simp at h
  | u :: a, v :: b, 0, x, y, hx, hy, hs => by
    simp at hx hy
    subst hx hy
    unfold sameD
    rw [hs, Bool.false_and]
  | u :: a, v :: b, i + 1, x, y, hx, hy, hs => by
    unfold sameD
    rw [sameD_no a b i x y (by simpa using hx) (by simpa using hy) hs, Bool.and_false]
theorem sameD_yes : ∀ (a b : List BD), a.length = b.length → (∀ (i : Nat) (x y : BD), a[i]? = some x → b[i]? = some y → sameB x y = true) → sameD a b = true
  | [], [], _, _ => rfl
  | [], _ :: _, h, _ => by simp at h
  | _ :: _, [], h, _ => by simp at h
  | u :: a, v :: b, h, hs => by
    unfold sameD
    rw [hs 0 u v rfl rfl, Bool.true_and]
    exact sameD_yes a b (by simpa using h) (fun i x y hx hy => hs (i + 1) x y (by simpa using hx) (by simpa using hy))

/-- The first k are the same. -/
def SameTo (l l' : List BI) (k : Nat) : Prop := ∀ i x y, i < k → l[i]? = some x → l'[i]? = some y → sameB x.d y.d = true

theorem sameTo_zero (l l' : List BI) : SameTo l l' 0 := fun i _ _ h => by omega
theorem sameTo_next {l l' : List BI} {k : Nat} {x y : BI} (h : SameTo l l' k) (hx : l[k]? = some x) (hy : l'[k]? = some y) (hs : sameB x.d y.d = true) : SameTo l l' (k + 1) := by
  intro i u v hi hu hv
  by_cases e : i = k
  · subst e
    rw [hx] at hu
    rw [hy] at hv
    cases hu
    cases hv
    exact hs
  · exact h i u v (by omega) hu hv
theorem sameTo_all {l l' : List BI} {k : Nat} (h : SameTo l l' k) (hl : l.length = k) (hl' : l'.length = k) : sameD (l.map BI.d) (l'.map BI.d) = true := by
  refine sameD_yes _ _ (by simp [hl, hl']) ?_
  intro i x y hx hy
  rw [List.getElem?_map, Option.map_eq_some_iff] at hx hy
  obtain ⟨u, hu, rfl⟩ := hx
  obtain ⟨v, hv, rfl⟩ := hy
  exact h i u v (by have := (List.getElem?_eq_some_iff.1 hu).1; omega) hu hv
theorem same_not {l l' : List BI} {k : Nat} {x y : BI} (hx : l[k]? = some x) (hy : l'[k]? = some y) (hs : sameB x.d y.d = false) : sameD (l.map BI.d) (l'.map BI.d) = false :=
  sameD_no _ _ k x.d y.d (by rw [List.getElem?_map, hx]; rfl) (by rw [List.getElem?_map, hy]; rfl) hs

set_option maxRecDepth 100000 in
set_option maxHeartbeats 1000000 in
theorem sameBind_any (x y : BI) (w : World) (hx : x.In w) (hy : y.In w) :
    Calls Tryz.prog 58 #[.agg #[.slice x.oa x.on x.oc, .int .i64 x.K, .int .i64 x.N, .string x.S, .slice x.za x.zn x.zc], .agg #[.slice y.oa y.on y.oc, .int .i64 y.K, .int .i64 y.N, .string y.S, .slice y.za y.zn y.zc]] w fun e w' =>
      e = .returned (.bool (sameB x.d y.d)) ∧ Below w.heap.size w w' := by
  generalize hP : sameB x.d y.d = P
  have HP := hide hP
  clear hP
  cases ho : decide (x.o = y.o)
  · have HO := hide ho
    clear ho
    go_enter Tryz.func58, Tryz.ntmps58
    go_wp2_with fail
    refine (implSame_any x.oa x.on x.oc x.o y.oa y.on y.oc y.o _ (hx.o.below (below_two _ _ _)) (hy.o.below (below_two _ _ _))).mono ?_
    rintro e w1 ⟨rfl, m, rfl⟩
    rw [HO.out]
    go_wp2
    go_ret
    exact ⟨ret_bool (by rw [← HP.out]; unfold sameB; rw [show decide (x.d.o = y.d.o) = false from HO.out]; rfl), below_drewN (below_two _ _ _) m⟩
  · have HO := hide ho
    clear ho
    go_enter Tryz.func58, Tryz.ntmps58
    go_wp2_with fail
    refine (implSame_any x.oa x.on x.oc x.o y.oa y.on y.oc y.o _ (hx.o.below (below_two _ _ _)) (hy.o.below (below_two _ _ _))).mono ?_
    rintro e w1 ⟨rfl, m, rfl⟩
    rw [HO.out]
    go_wp2_with fail
    refine (implSameVal_any x.K x.N x.S x.za x.zn x.zc x.z y.K y.N y.S y.za y.zn y.zc y.z _ (hx.z.below (below_drewN (below_two _ _ _) m)) (hy.z.below (below_drewN (below_two _ _ _) m))).mono ?_
    rintro e w2 ⟨rfl, hb⟩
    have hsv : sameV x.K x.N x.S x.z y.K y.N y.S y.z = P := by rw [← HP.out]; unfold sameB; rw [show decide (x.d.o = y.d.o) = true from HO.out, Bool.true_and]; rfl
    rw [hsv]
    clear hsv
    go_wp2
    go_ret
    refine ⟨rfl, ?_⟩
    have t := below_drewN (below_two w (.cells #[.slice x.oa x.on x.oc, .int .i64 x.K, .int .i64 x.N, .string x.S, .slice x.za x.zn x.zc] 80) (.cells #[.slice y.oa y.on y.oc, .int .i64 y.K, .int .i64 y.N, .string y.S, .slice y.za y.zn y.zc] 80)) m
    exact t.trans (hb.mono t.size)

set_option maxRecDepth 100000 in
set_option maxHeartbeats 2000000 in
theorem equalFunc_any (ao : Option Addr) (n c : Nat) (l : List BI) (ao' : Option Addr) (n' c' : Nat) (l' : List BI) (w : World) (hl : BRow w ao n c l) (hl' : BRow w ao' n' c' l') :
    Calls Tryz.prog 57 #[.slice ao n c, .slice ao' n' c', .func (.func 58) #[] #[]] w fun e w' =>
      e = .returned (.bool (sameD (l.map BI.d) (l'.map BI.d))) ∧ Below w.heap.size w w' := by
  have hs := hl.size
  have hs' := hl'.size
  have htop := Nat.le_trans hl.le hl.top
  have htop' := Nat.le_trans hl'.le hl'.top
  unfold maxLen at htop htop'
  generalize hP : sameD (l.map BI.d) (l'.map BI.d) = P
  have HP := hide hP
  clear hP
  by_cases hnn : n = n'
  · subst hnn
    go_enter Tryz.func57, Tryz.ntmps57
    go_wp2
    go_loopw [17] (fun i wr => ∃ k : Nat, k ≤ n ∧ i = .int .i64 k ∧ SameTo l l' k ∧ Below w.heap.size w wr) (fun i _ => n - (intOf i).toNat)
    case atStart => exact ⟨0, Nat.zero_le _, rfl, sameTo_zero _ _, Below.refl _ _⟩
    case round =>
      obtain ⟨k, hk, rfl, hto, hb⟩ := hrel
      have HTO := hide hto
      clear hto
      by_cases hlt : k < n
      · obtain ⟨x, b, off, hx, rfl, hat, hin⟩ := (hl.below hb).at k hlt
        obtain ⟨y, b', off', hy, rfl, hat', hin'⟩ := (hl'.below hb).at k hlt
        have HX := hide hx
        have HY := hide hy
        have HB := hide hb
        clear hx hy hb
        have q0 := below_two wr (.cells #[.slice x.oa x.on x.oc, .int .i64 x.K, .int .i64 x.N, .string x.S, .slice x.za x.zn x.zc] 80) (.cells #[.slice y.oa y.on y.oc, .int .i64 y.K, .int .i64 y.N, .string y.S, .slice y.za y.zn y.zc] 80)
        obtain ⟨a0, a1, a2, a3, a4⟩ := hat
        obtain ⟨e0, e1, e2, e3, e4⟩ := hat'
        have bx : b < wr.heap.size := block_lt a0
        have by' : b' < wr.heap.size := block_lt e0
        go_wp2_with fail
        refine (sameBind_any x y _ (hin.below q0) (hin'.below q0)).mono ?_
        rintro e w1 ⟨rfl, hb1⟩
        have b1 := (HB.out.trans (q0.mono HB.out.size))
        have b2 := b1.trans (hb1.mono b1.size)
        clear a0 a1 a2 a3 a4 e0 e1 e2 e3 e4 hb1 b1 q0
        cases ho : sameB x.d y.d
        · have HO := hide ho
          clear ho
          go_wp2
          go_ret
          exact ⟨ret_bool (by rw [← HP.out, same_not HX.out HY.out HO.out]), b2⟩
        · have HO := hide ho
          clear ho
          go_wp2
          go_roundw
          case rel => exact ⟨k + 1, by omega, by go_num, sameTo_next HTO.out HX.out HY.out HO.out, b2⟩
          case measure => simp [intOf]; omega
      · have hk' : k = n := by omega
        subst hk'
        go_wp2
        go_ret
        exact ⟨ret_bool (by rw [← HP.out, sameTo_all HTO.out hs hs']), hb⟩
  · have hne : ((n : Int) != (n' : Int)) = true := by simp; omega
    go_enter Tryz.func57, Tryz.ntmps57
    go_wp2
    go_ret
    exact ⟨ret_bool (by rw [← HP.out, sameD_len _ _ (by simp [hs, hs']; exact hnn)]), Below.refl _ _⟩

set_option maxRecDepth 100000 in
set_option maxHeartbeats 400000 in
theorem implSameBinds_any (ao : Option Addr) (n c : Nat) (l : List BI) (ao' : Option Addr) (n' c' : Nat) (l' : List BI) (w : World) (hl : BRow w ao n c l) (hl' : BRow w ao' n' c' l') :
    Calls Tryz.prog 28 #[.slice ao n c, .slice ao' n' c'] w fun e w' => e = .returned (.bool (sameD (l.map BI.d) (l'.map BI.d))) ∧ Below w.heap.size w w' := by
  go_enter Tryz.func28, Tryz.ntmps28
  go_wp2_with fail
  refine (equalFunc_any ao n c l ao' n' c' l' _ hl hl').mono ?_
  rintro e w1 ⟨rfl, hb⟩
  go_wp2
  go_ret
  exact ⟨rfl, hb⟩

end Go.Proofs.YtamglfhnhjgdjaaGreatDoor
