/-
  The place of the first of both, a copy, an entry that is put in its place: as the specification has them.
-/
import Derived.Test.YtmcikcpkggonfaaFdbOkS
namespace Go.Proofs.Ytmcikcpkggonfaa
open Go.RowKit

theorem atF_found {l : List FE} {t m : Int} {k : Nat} {x : FE} (h : ∀ i y, i < k → l[i]? = some y → both y t m = false) (hx : l[k]? = some x) (hb : both x t m = true) : atF l t m = k := by
  have hk := (List.getElem?_eq_some_iff.1 hx).1
  have : l.findIdx? (fun e => both e t m) = some k := by
    rw [List.findIdx?_eq_some_iff_getElem]
    refine ⟨hk, ?_, fun j hj => ?_⟩
    · rw [List.getElem?_eq_getElem hk] at hx
      cases hx
      exact hb
    · have := h j l[j] hj (List.getElem?_eq_getElem (by omega))
      simp [this]
  unfold atF
  rw [this]

theorem atF_none {l : List FE} {t m : Int} (h : ∀ i y, i < l.length → l[i]? = some y → both y t m = false) : atF l t m = -1 := by
  have : l.findIdx? (fun e => both e t m) = none := by
    rw [List.findIdx?_eq_none_iff]
    intro x hx
    obtain ⟨i, hi, rfl⟩ := List.getElem_of_mem hx
    exact h i _ hi (List.getElem?_eq_getElem hi)
  unfold atF
  rw [this]

theorem no_next {l : List FE} {t m : Int} {k : Nat} {x : FE} (h : ∀ j y, j < k → l[j]? = some y → both y t m = false) (hx : l[k]? = some x) (hb : both x t m = false) : ∀ j y, j < k + 1 → l[j]? = some y → both y t m = false := by
  intro j y hj hy
  by_cases e : j = k
  · subst e
    rw [hx] at hy
    cases hy
    exact hb
  · exact h j y (by omega) hy

set_option maxRecDepth 100000 in
set_option maxHeartbeats 2000000 in
theorem specAt_any (ao : Option Addr) (n cap : Nat) (l : List FE) (t m : Int) (w : World) (h : GRow fentF w ao n cap l) :
    Calls Try.prog 46 #[.slice ao n cap, .int .i64 t, .int .i64 m] w fun r w' => r = .returned (.int .i64 (atF l t m)) ∧ w' = w := by
  have hle := h.le
  have htop := h.top
  unfold maxLen at htop
  have hsz := h.size
  go_enter Try.func46, Try.ntmps46
  go_wp2
  go_loop [7] (fun i => ∃ k : Nat, k ≤ n ∧ i = .int .i64 k ∧ ∀ j y, j < k → l[j]? = some y → both y t m = false) (fun i => n - (intOf i).toNat)
  case atStart => exact ⟨0, Nat.zero_le _, rfl, fun j y hj => by omega⟩
  case round =>
    obtain ⟨k, hk, rfl, hno⟩ := hrel
    by_cases hlt : k < n
    · obtain ⟨x, b, off, hx, rfl, c0, c1, -⟩ := fent_at h k hlt
      cases t1 : (x.t == t)
      · have HO := hide (no_next hno hx (by unfold both; rw [t1]; rfl))
        clear hno
        go_wp2
        go_round
        case rel => exact ⟨k + 1, by omega, by go_num, HO.out⟩
        case measure => simp [intOf]; omega
      · cases t2 : (x.m == m)
        · have HO := hide (no_next hno hx (by unfold both; rw [t1, t2]; rfl))
          clear hno
          go_wp2
          go_round
          case rel => exact ⟨k + 1, by omega, by go_num, HO.out⟩
          case measure => simp [intOf]; omega
        · have HF := hide (atF_found hno hx (by unfold both; rw [t1, t2]; rfl))
          clear hno
          go_wp2
          go_ret
          exact ⟨(by rw [HF.out]; rfl), rfl⟩
    · have hkn : k = n := by omega
      have HF := hide (atF_none (l := l) (t := t) (m := m) (fun i y hi hy => hno i y (by omega) hy))
      clear hno
      subst hkn
      go_wp2
      go_ret
      exact ⟨(by rw [HF.out]; rfl), rfl⟩

theorem fentInfo : (Try.prog.info? 30).map (fun i => (i.zero, i.size, i.bytes)) = some (some (.agg #[.int .i64 0, .int .i64 0, .int .i64 0, .int .i64 0, .bool false]), fentF.k, 40) := by kernel_rfl

/-- 'append' of entries to entries that the call owns. -/
theorem fent_append (w : World) {ops : Array Oper} {rest : List Oper} {o : Oper} {a : Act} {Q : Exit → Act → World → Prop} (hgd : o.guard = none)
    (s x : Operand) (ho : o.op = Op.call { callee := Callee.builtin Builtin.append, args := #[s, x], argTypes := #[24, 24] }) (base : Nat)
    (v : Value) (n : Nat) (xs : List FE) (hs : a.eval s = v) (hown : w.ownsRow base 30 5 v n (fentF.all xs)) (ao : Option Addr) (m c : Nat) (zs : List FE)
    (hx : a.eval x = .slice ao m c) (hrow : GRow fentF w ao m c zs) (hsm : n + m ≤ 137438953472) (hbase : base ≤ w.heap.size)
    (h : ∀ ao' cap' w', w'.ownsRow base 30 5 (.slice ao' (n + m) cap') (n + m) (fentF.all (xs ++ zs)) → GRow fentF w' ao' (n + m) cap' (xs ++ zs) → w.grownBy w' v.ownBlock → Below base w w' → wpList Try.prog ops Q rest (a.put o.dst (.slice ao' (n + m) cap')) w') :
    wpList Try.prog ops Q (o :: rest) a w :=
  wpList_append_flat (F := fentF) w hgd s x 24 30 ho base Try.underlying24 fentInfo rfl (by decide) v n xs hs hown ao m c zs hx hrow hsm hbase h

theorem kept_base {w w' : World} {B i : Nat} {o : Obj} (h : w.heap[i]? = some o) (hb : Below B w w') (hi : i < B) : w'.heap[i]? = some o := by rw [hb.block i hi]; exact h

set_option maxRecDepth 100000 in
set_option maxHeartbeats 1000000 in
theorem specCopyF_any (ao : Option Addr) (n cap : Nat) (l : List FE) (w : World) (h : GRow fentF w ao n cap l) (hn : n ≤ 16777216) :
    Calls Try.prog 48 #[.slice ao n cap] w fun r w' => ∃ ao' cap', r = .returned (.slice ao' n cap') ∧ w'.ownsRow w.heap.size 30 5 (.slice ao' n cap') n (fentF.all l) ∧ GRow fentF w' ao' n cap' l ∧ Below w.heap.size w w' := by
  go_enter Try.func48, Try.ntmps48
  go_wp2_with (at_builtin; refine fent_append _ rfl _ _ rfl w.heap.size _ 0 [] rfl (flat_nil fentF w _ 30 w.heap.size (block_last w _) (Nat.le_refl _)) ao n cap l rfl (h.below (below_one _ _)) (by omega) (by simp) ?_)
  intro ao' cap' w' how hr hgr hb
  have how : w'.ownsRow w.heap.size 30 5 (.slice ao' n cap') n (fentF.all l) := by simpa using how
  have hr : GRow fentF w' ao' n cap' l := by simpa using hr
  have HO := hide how
  have HB := hide ((below_one w _).trans hb)
  clear how hgr hb
  go_wp2
  go_ret
  exact ⟨ao', cap', (by simp), HO.out, hr, HB.out⟩

theorem putGo_yes {e x : FE} {zs r : List FE} (ha : ahead x e.t e.m = false) (hb : both x e.t e.m = false) : (zs ++ [e]) ++ [x] ++ putGo e true r = zs ++ putGo e false (x :: r) := by
  rw [show putGo e false (x :: r) = e :: x :: putGo e true r by simp [putGo, ha, hb]]
  simp
theorem putGo_same {e x : FE} {zs r : List FE} (ha : ahead x e.t e.m = false) (hb : both x e.t e.m = true) : (zs ++ [e]) ++ putGo e true r = zs ++ putGo e false (x :: r) := by
  rw [show putGo e false (x :: r) = e :: putGo e true r by simp [putGo, ha, hb]]
  simp
theorem putGo_keep {e x : FE} {d : Bool} {zs r : List FE} (ha : d = true ∨ ahead x e.t e.m = true) (hb : both x e.t e.m = false) : zs ++ [x] ++ putGo e d r = zs ++ putGo e d (x :: r) := by
  have : (!d && !ahead x e.t e.m) = false := by rcases ha with h | h <;> simp [h]
  rw [show putGo e d (x :: r) = x :: putGo e d r by rw [putGo, this, hb]; rfl]
  simp
theorem putGo_drop {e x : FE} {d : Bool} {zs r : List FE} (ha : d = true ∨ ahead x e.t e.m = true) (hb : both x e.t e.m = true) : zs ++ putGo e d r = zs ++ putGo e d (x :: r) := by
  have : (!d && !ahead x e.t e.m) = false := by rcases ha with h | h <;> simp [h]
  rw [show putGo e d (x :: r) = putGo e d r by rw [putGo, this, hb]; rfl]

theorem drop_at {l : List FE} {k : Nat} {x : FE} (h : l[k]? = some x) : l.drop k = x :: l.drop (k + 1) := by
  have hk := (List.getElem?_eq_some_iff.1 h).1
  rw [List.drop_eq_getElem_cons hk]
  rw [List.getElem?_eq_getElem hk] at h
  cases h
  rfl

end Go.Proofs.Ytmcikcpkggonfaa
