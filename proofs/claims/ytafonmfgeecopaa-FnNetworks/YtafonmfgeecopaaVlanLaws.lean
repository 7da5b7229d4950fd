/-
  What a row that is put and dropped leaves behind.
-/
import Derived.Test.YtafonmfgeecopaaVlanPut
namespace Go.Proofs.Ytafonmfgeecopaa
open Go.RowKit

theorem rise_pair : ∀ (l : List VR), vrises l = true ↔ l.Pairwise (fun a b => a.i < b.i)
  | [] => by simp [vrises]
  | e :: l => by
    constructor
    · intro h
      exact List.pairwise_cons.2 ⟨rise_all e l h, (rise_pair l).1 (rise_tail h)⟩
    · intro h
      obtain ⟨h1, h2⟩ := List.pairwise_cons.1 h
      cases l with
      | nil => rfl
      | cons f r =>
        rw [show vrises (e :: f :: r) = (decide (e.i < f.i) && vrises (f :: r)) from rfl, (rise_pair (f :: r)).2 h2, decide_eq_true (h1 f List.mem_cons_self)]
        rfl

theorem vown_some {w : World} {base : Nat} {a : Option Addr} {n c : Nat} {o : Option Addr} {p q : Nat} {v : VT} (h : VOwn w base a n c o p q v) : a = none ∨ ∃ b off, a = some ⟨b, off, none⟩ := by
  rcases h.rows.2 with ⟨e, -⟩ | ⟨g, cap, cur, e, -⟩
  · cases e
    exact .inl rfl
  · cases e
    exact .inr ⟨g, 0, rfl⟩

theorem put_in (r : VR) : ∀ (l : List VR), r ∈ putRowF l r false
  | [] => by simp [putRowF]
  | x :: t => by
    have ih := put_in r t
    rw [show putRowF (x :: t) r false = (if !false && decide (r.i ≤ x.i) then [r] else []) ++ (if x.i != r.i then [x] else []) ++ putRowF t r (false || decide (r.i ≤ x.i)) by simp [putRowF]]
    cases h : decide (r.i ≤ x.i)
    · rw [Bool.or_false]
      exact List.mem_append_right _ ih
    · simp

/-- Among rows that rise a row is found by its number. -/
theorem rise_found {l : List VR} (h : vrises l = true) {r : VR} (hr : r ∈ l) : ∃ k, rowIdx l r.i = some k ∧ l[k]? = some r := by
  cases hk : rowIdx l r.i with
  | none =>
    have := List.findIdx?_eq_none_iff.1 hk r hr
    simp at this
  | some k =>
    obtain ⟨x, hx, he, -⟩ := rowIdx_some hk
    refine ⟨k, rfl, ?_⟩
    rw [hx]
    obtain ⟨j, hj⟩ := List.mem_iff_getElem?.1 hr
    have hxi : x.i = r.i := by simpa using he
    by_cases e : j = k
    · subst e
      rw [hx] at hj
      exact hj
    · exfalso
      by_cases hlt : j < k
      · obtain ⟨d, rfl⟩ : ∃ d, k = j + (d + 1) := ⟨k - j - 1, by omega⟩
        have := rise_lt h d j r x hj hx
        omega
      · obtain ⟨d, rfl⟩ : ∃ d, j = k + (d + 1) := ⟨j - k - 1, by omega⟩
        have := rise_lt h d k x r hx hj
        omega

theorem put_false {v : VT} {r : VR} (h : (putRow v r).2 = false) : (putRow v r).1 = v := by
  unfold putRow orV at *
  split at h
  · split at h
    · cases h
    · rename_i h1 h2
      rw [if_pos h1, if_neg h2]
  · rename_i h1
    rw [if_neg h1]

theorem put_true {v : VT} {r : VR} (h : (putRow v r).2 = true) : vtabOk (putRow v r).1 v.own.length = true ∧ (putRow v r).1.own = v.own ∧ ∃ k, rowIdx (putRow v r).1.rows r.i = some k ∧ (putRow v r).1.rows[k]? = some r := by
  have hp : (putRow v r).1 = ⟨putRowF v.rows r false, v.own⟩ ∧ vtabOk ⟨putRowF v.rows r false, v.own⟩ v.own.length = true := by
    unfold putRow orV at *
    split at h
    · split at h
      · rename_i h1 h2
        rw [if_pos h1, if_pos h2]
        exact ⟨rfl, h2⟩
      · cases h
    · cases h
  rw [hp.1]
  exact ⟨hp.2, rfl, rise_found (vtab_rises hp.2) (put_in r v.rows)⟩

theorem drop_true {x : VT} {id : Int} {k : Nat} (hk : rowIdx x.rows id = some k) (h : (dropRow x id).2 = true) : rowIdx (dropRow x id).1.rows id = none ∧ vtabOk (dropRow x id).1 x.own.length = true := by
  rw [dropRow_is hk] at h ⊢
  unfold ifRight at *
  split at h
  · rename_i h1
    rw [if_pos h1]
    simp only [Bool.and_eq_true] at h1
    refine ⟨List.findIdx?_eq_none_iff.2 fun y hy => ?_, h1.2⟩
    have := (List.mem_filter.1 hy).2
    simpa using this
  · cases h

theorem drop_false {x : VT} {id : Int} {k : Nat} (hok : vtabOk x x.own.length = true) (hk : rowIdx x.rows id = some k) (h : (dropRow x id).2 = false) : (dropRow x id).1 = x ∧ id ∈ x.own := by
  rw [dropRow_is hk] at h ⊢
  unfold ifRight at *
  split at h
  · cases h
  · rename_i h1
    rw [if_neg h1]
    refine ⟨rfl, ?_⟩
    rw [hok, Bool.true_and] at h1
    false_or_by_contra
    rename_i hno
    apply h1
    have hr := vtab_rises hok
    unfold vtabOk at hok ⊢
    simp only [Bool.and_eq_true] at hok ⊢
    obtain ⟨⟨⟨⟨⟨a1, a2⟩, a3⟩, a4⟩, -⟩, a6⟩ := hok
    refine ⟨⟨⟨⟨⟨a1, a2⟩, ?_⟩, ?_⟩, ?_⟩, ?_⟩
    · rw [decide_eq_true_eq] at a3 ⊢
      exact Nat.le_trans (List.length_filter_le _ _) a3
    · rw [List.all_eq_true] at a4 ⊢
      exact fun y hy => a4 y (List.mem_filter.1 hy).1
    · exact (rise_pair _).2 (List.Pairwise.filter _ ((rise_pair _).1 hr))
    · rw [List.all_eq_true] at a6 ⊢
      intro p hp
      have hpi : p ≠ id := by
        intro e
        subst e
        exact hno hp
      have h6 := a6 p hp
      cases hq : rowIdx x.rows p with
      | none => rw [hq] at h6; cases h6
      | some j =>
        obtain ⟨y, hy, hye, -⟩ := rowIdx_some hq
        have hyp : y.i = p := by simpa using hye
        cases hq2 : rowIdx (x.rows.filter (fun r => r.i != id)) p with
        | some _ => rfl
        | none =>
          have := List.findIdx?_eq_none_iff.1 hq2 y (List.mem_filter.2 ⟨List.mem_of_getElem? hy, by simp; omega⟩)
          rw [hye] at this
          cases this

end Go.Proofs.Ytafonmfgeecopaa
