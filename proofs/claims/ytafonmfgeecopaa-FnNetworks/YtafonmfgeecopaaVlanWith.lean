/-
  A row put among rows, the program's own.
-/
import Derived.Test.YtafonmfgeecopaaVlanFind
import Derived.Test.YtafonmfgeecopaaVlanCat
import Derived.Test.YtafonmfgeecopaaVtabDrop
namespace Go.Proofs.Ytafonmfgeecopaa
open Go.RowKit

theorem grow_blk {α : Type} {F : Flat α} {w : World} {g : Nat} {x : α} {cs : Array Value} {T : TypeId} (h : w.heap[g]? = some (.cells cs T)) (hc : cs.toList = F.cs x) : GRow F w (some ⟨g, 0, none⟩) 1 1 [x] := by
  refine ⟨rfl, Nat.le_refl _, by unfold maxLen; omega, (by intro h; cases h), .inr ⟨g, 0, rfl, fun i y hi j v hv => ?_⟩⟩
  have hi0 : i = 0 := by
    have := (List.getElem?_eq_some_iff.1 hi).1
    simp at this
    exact this
  subst hi0
  simp at hi
  subst hi
  rw [Nat.zero_mul, Nat.zero_add]
  rw [← hc] at hv
  simp only [World.cell?, h]
  simpa using hv

theorem putF_true (r : VR) : ∀ (l : List VR), putRowF l r true = l.filter (fun x => x.i != r.i)
  | [] => rfl
  | x :: t => by
    have ih := putF_true r t
    rw [show putRowF (x :: t) r true = (if !true && decide (r.i ≤ x.i) then [r] else []) ++ (if x.i != r.i then [x] else []) ++ putRowF t r (true || decide (r.i ≤ x.i)) by simp [putRowF]]
    rw [Bool.true_or, ih, List.filter_cons]
    cases h : (x.i != r.i) <;> simp

theorem filter_above {r : VR} {l : List VR} (h : ∀ x ∈ l, r.i < x.i) : l.filter (fun x => x.i != r.i) = l := by
  refine List.filter_eq_self.2 fun x hx => ?_
  have := h x hx
  simp
  omega

/-- Among rows that rise a row that is put stands where its number was looked for. -/
theorem put_found {r : VR} : ∀ (l : List VR) (pos : Nat) (there : Bool), vrises l = true → VFound l r.i pos there → l.take pos ++ ([r] ++ l.drop (if there then pos + 1 else pos)) = putRowF l r false
  | [], pos, there, _, h => by
    have h0 : pos = 0 := by have := h.le; simpa using this
    subst h0
    simp [putRowF]
  | x :: t, 0, there, hr, h => by
    have hle : r.i ≤ x.i := h.high hr 0 x (Nat.le_refl _) rfl
    have hth : there = decide (x.i = r.i) := h.is
    rw [show putRowF (x :: t) r false = (if !false && decide (r.i ≤ x.i) then [r] else []) ++ (if x.i != r.i then [x] else []) ++ putRowF t r (false || decide (r.i ≤ x.i)) by simp [putRowF]]
    rw [decide_eq_true hle, Bool.false_or, putF_true]
    have hall := rise_all x t hr
    rw [filter_above (fun y hy => by have := hall y hy; omega)]
    by_cases e : x.i = r.i
    · rw [hth]
      simp [e]
    · rw [hth]
      simp [e]
  | x :: t, p + 1, there, hr, h => by
    have hlt : x.i < r.i := h.low hr 0 x (by omega) rfl
    have ht : VFound t r.i p there := by
      refine ⟨by have := h.le; simpa using this, fun _ j y hj hy => h.low hr (j + 1) y (by omega) (by simpa using hy), fun _ j y hj hy => h.high hr (j + 1) y (by omega) (by simpa using hy), ?_⟩
      have := h.is
      simpa using this
    have ih := put_found t p there (rise_tail hr) ht
    rw [show putRowF (x :: t) r false = (if !false && decide (r.i ≤ x.i) then [r] else []) ++ (if x.i != r.i then [x] else []) ++ putRowF t r (false || decide (r.i ≤ x.i)) by simp [putRowF]]
    rw [decide_eq_false (show ¬ r.i ≤ x.i by omega), Bool.or_false, ← ih]
    have hne : (x.i != r.i) = true := by simp; omega
    rw [hne]
    cases there <;> simp

theorem put_mem {r : VR} {l : List VR} {p d : Nat} : ∀ x ∈ l.take p ++ ([r] ++ l.drop d), x ∈ l ∨ x = r := by
  intro x hx
  rcases List.mem_append.1 hx with hx | hx
  · exact .inl (List.mem_of_mem_take hx)
  · rcases List.mem_append.1 hx with hx | hx
    · exact .inr (by simpa using hx)
    · exact .inl (List.mem_of_mem_drop hx)

set_option maxRecDepth 100000 in
set_option maxHeartbeats 4000000 in
theorem implWith_made (a : Option Addr) (n c : Nat) (l : List VR) (r : VR) (w : World) (h : GRow vrowF w a n c l) (hA : a = none ∨ ∃ b off, a = some ⟨b, off, none⟩) (hn : n ≤ 16777216) :
    Calls Try.prog 52 #[.slice a n c, .agg #[.int .i64 r.i, .int .i64 r.m, .int .i64 r.b]] w fun e w' => ∃ a' n' c' L, e = .returned (.slice a' n' c') ∧ n' ≤ n + 1 ∧ w'.ownsRow w.heap.size 29 3 (.slice a' n' c') n' (vrowF.all L) ∧ (vrises l = true → L = putRowF l r false) ∧ (∀ x ∈ L, x ∈ l ∨ x = r) ∧ Below w.heap.size w w' := by
  have hle := h.le
  have htop := h.top
  unfold maxLen at htop
  have hsz := hide h.size
  generalize hw1 : w.alloc (Obj.cells #[.int .i64 r.i, .int .i64 r.m, .int .i64 r.b] 29) = w1
  have q0 : Below w.heap.size w w1 := by subst hw1; exact below_one _ _
  have kr : w1.heap[w.heap.size]? = some (.cells #[.int .i64 r.i, .int .i64 r.m, .int .i64 r.b] 29) := by rw [← hw1]; exact block_last _ _
  obtain ⟨⟨x0, x1, x2⟩, -⟩ := cells3 kr
  rcases hA with rfl | ⟨b, off, rfl⟩
  · have hc0 := h.nil rfl
    have hn0 : n = 0 := by omega
    subst hc0 hn0
    have hl : l = [] := List.eq_nil_of_length_eq_zero h.size
    subst hl
    go_enter Try.func52, Try.ntmps52
    go_wp2_with fail
    refine (searchRow_any none 0 0 [] r _ (h.below q0) hn).mono ?_
    rintro e w2 ⟨pos, there, rfl, hf, hb2⟩
    have hp0 : pos = 0 := by have := hf.le; simpa using this
    subst hp0
    have ht : there = false := hf.is
    subst ht
    have hg1 : GRow vrowF w2 none 0 0 [] := grow_nil _ _
    have hg3 : GRow vrowF w2 none 0 0 [] := grow_nil _ _
    have HP : Hid ((vrises ([] : List VR) = true → ([] ++ [r] ++ [] : List VR) = putRowF [] r false) ∧ ∀ x ∈ ([] ++ [r] ++ [] : List VR), x ∈ ([] : List VR) ∨ x = r) := hide ⟨fun _ => by simp [putRowF], by intro x hx; right; simpa using hx⟩
    clear hf x0 x1 x2
    have kr := kept_block kr hb2
    have q2 := gr_trans q0 hb2
    have vv : Below w2.heap.size w2 w2.drew := gr_drew (Below.refl _ _)
    have v2 : Below w2.heap.size w2 w2.drew := vv
    go_wp2_with fail
    refine wp_region_held_drew (S := (fun W => W.cell? ⟨w.heap.size, 0, none⟩ = some (.int .i64 r.i) ∧ W.cell? ⟨w.heap.size, 1, none⟩ = some (.int .i64 r.m) ∧ W.cell? ⟨w.heap.size, 2, none⟩ = some (.int .i64 r.b))) (by kernel_rfl) ((cells3 (kept_block kr vv)).1) (fun hHeld => ?_)
    refine wpAnyH_take (i := 0) (oi := { dst := some 18, op := Op.move (Operand.tmp 0), type := 65, pos := "l09_vlan.go:169", after := #[], guard := none }) (v := ?_) rfl (by kernel_rfl) (by kernel_rfl) (by kernel_rfl) (fun _ _ _ h => h) (Or.inl ⟨by rfl, ?_⟩) (by assumption) ?_
    rotate_left
    · (intro wY hSw; (try dsimp only at hSw); go_simp; try with_reducible rfl)
    simp only [Act.put, List.setIfInBounds_toArray, List.set_cons_zero, List.set_cons_succ]
    refine wpAnyH_take (i := 1) (oi := { dst := some 19, op := Op.move (Operand.tmp 5), type := 3, pos := "l09_vlan.go:169", after := #[], guard := none }) (v := ?_) rfl (by kernel_rfl) (by kernel_rfl) (by kernel_rfl) (fun _ _ _ h => h) (Or.inl ⟨by rfl, ?_⟩) (by assumption) ?_
    rotate_left
    · (intro wY hSw; (try dsimp only at hSw); go_simp; try with_reducible rfl)
    simp only [Act.put, List.setIfInBounds_toArray, List.set_cons_zero, List.set_cons_succ]
    refine wpAnyH_take (i := 2) (oi := { dst := some 20, op := Op.slice 65 (Operand.tmp 18) none (some (Operand.tmp 19)) none, type := 65, pos := "l09_vlan.go:169", after := #[{ on := 0, ground := Ground.data }, { on := 1, ground := Ground.data }], guard := none }) (v := ?_) rfl (by kernel_rfl) (by kernel_rfl) (by kernel_rfl) (fun _ _ _ h => h) (Or.inl ⟨by rfl, ?_⟩) (by assumption) ?_
    rotate_left
    · (intro wY hSw; (try dsimp only at hSw); go_simp; try with_reducible rfl)
    simp only [Act.put, List.setIfInBounds_toArray, List.set_cons_zero, List.set_cons_succ]
    refine wpAnyH_take (i := 3) (oi := { dst := some 21, op := Op.load 29 (Operand.tmp 3), type := 29, pos := "l09_vlan.go:169", after := #[], guard := none }) (v := ?_) rfl (by kernel_rfl) (by kernel_rfl) (by kernel_rfl) (fun _ _ _ h => h) (Or.inl ⟨by rfl, ?_⟩) (by assumption) ?_
    rotate_left
    · (intro wY hSw; (try dsimp only at hSw); go_simp; try with_reducible rfl)
    simp only [Act.put, List.setIfInBounds_toArray, List.set_cons_zero, List.set_cons_succ]
    refine wpAnyH_take (i := 5) (oi := { dst := some 23, op := Op.move (Operand.tmp 0), type := 65, pos := "l09_vlan.go:169", after := #[], guard := none }) (v := ?_) rfl (by kernel_rfl) (by kernel_rfl) (by kernel_rfl) (fun _ _ _ h => h) (Or.inl ⟨by rfl, ?_⟩) (by assumption) ?_
    rotate_left
    · (intro wY hSw; (try dsimp only at hSw); go_simp; try with_reducible rfl)
    simp only [Act.put, List.setIfInBounds_toArray, List.set_cons_zero, List.set_cons_succ]
    refine wpAnyH_take (i := 6) (oi := { dst := some 24, op := Op.move (Operand.tmp 7), type := 3, pos := "l09_vlan.go:169", after := #[], guard := none }) (v := ?_) rfl (by kernel_rfl) (by kernel_rfl) (by kernel_rfl) (fun _ _ _ h => h) (Or.inl ⟨by rfl, ?_⟩) (by assumption) ?_
    rotate_left
    · (intro wY hSw; (try dsimp only at hSw); go_simp; try with_reducible rfl)
    simp only [Act.put, List.setIfInBounds_toArray, List.set_cons_zero, List.set_cons_succ]
    refine wpAnyH_take (i := 7) (oi := { dst := some 25, op := Op.slice 65 (Operand.tmp 23) (some (Operand.tmp 24)) none none, type := 65, pos := "l09_vlan.go:169", after := #[{ on := 5, ground := Ground.data }, { on := 6, ground := Ground.data }], guard := none }) (v := ?_) rfl (by kernel_rfl) (by kernel_rfl) (by kernel_rfl) (fun _ _ _ h => h) (Or.inl ⟨by rfl, ?_⟩) (by assumption) ?_
    rotate_left
    · (intro wY hSw; (try dsimp only at hSw); go_simp; try with_reducible rfl)
    simp only [Act.put, List.setIfInBounds_toArray, List.set_cons_zero, List.set_cons_succ]
    refine wpAnyH_ready (rs := [4]) (by kernel_rfl) (by simp) ?_
    refine AllReadyH.cons (o := { dst := some 22, op := Op.buildSlice 65 1 #[(0, Operand.tmp 21)], type := 65, pos := "l09_vlan.go:169", after := #[{ on := 3, ground := Ground.data }], guard := none }) rfl (fun K hK => ?_) ?_
    · go_simp
      first
      | refine made_new (K := K _) (fun wx hk hbx => ?_)
      | refine made_drew (K := K _) (fun wx hk hbx => ?_)
      have g2 := grow_blk (F := vrowF) (x := r) hk rfl
      have vv := gr_trans vv hbx
      have v2 : Below w2.heap.size w2 wx := gr_trans v2 hbx
      clear hk hbx
      refine hK.out _ _ ((cells3 (kept_block kr vv)).1) (fun hHeld => ?_)
      clear hK K
      try simp only [Act.put, List.setIfInBounds_toArray, List.set_cons_zero, List.set_cons_succ]
      refine wpAnyH_ready (rs := [8]) (by kernel_rfl) (by simp) ?_
      refine AllReadyH.cons (o := { dst := some 26, op := Op.buildSlice 106 3 #[(0, Operand.tmp 20), (1, Operand.tmp 22), (2, Operand.tmp 25)], type := 106, pos := "l09_vlan.go:169", after := #[{ on := 2, ground := Ground.data }, { on := 4, ground := Ground.data }, { on := 7, ground := Ground.data }], guard := none }) rfl (fun K hK => ?_) ?_
      · go_simp
        first
        | refine made_new (K := K _) (fun wx hk hbx => ?_)
        | refine made_drew (K := K _) (fun wx hk hbx => ?_)
        have g2 := g2.below hbx
        have vv := gr_trans vv hbx
        have v2 := gr_trans v2 hbx
        clear hbx
        refine hK.out _ _ ((cells3 (kept_block kr vv)).1) (fun hHeld => ?_)
        clear hK K
        try simp only [Act.put, List.setIfInBounds_toArray, List.set_cons_zero, List.set_cons_succ]
        refine wpAnyH_ready (rs := [9]) (by kernel_rfl) (by simp) ?_
        refine AllReadyH.cons (o := { dst := some 27, op := Op.call { callee := Callee.value (Operand.func 86), args := #[Operand.tmp 26], argTypes := #[106] }, type := 65, pos := "l09_vlan.go:169", after := #[{ on := 8, ground := Ground.data }], guard := none }) rfl (fun K hK => ?_) ?_
        · go_simp
          refine (concat_made _ _ 0 0 _ 1 1 _ 0 0 [] [r] [] _ hk (hg1.below v2) g2 (hg3.below v2) (by omega) (by omega)).mono ?_
          rintro e wx ⟨a', c', rfl, how, hbx⟩
          have HO := hide (gown_lt how (base' := w.heap.size) (Nat.le_trans q2.size v2.size))
          have vv := gr_trans vv hbx
          have HB := hide (gr_trans q2 (gr_trans v2 hbx))
          clear how hbx g2 hk
          go_wp2_with fail
          refine hK.out _ _ ((cells3 (kept_block kr vv)).1) (fun hHeld => ?_)
          clear hK K
          try simp only [Act.put, List.setIfInBounds_toArray, List.set_cons_zero, List.set_cons_succ]
          refine wpAnyH_take (i := 10) (oi := { dst := some 4, op := Op.assign (Operand.tmp 27), type := 65, pos := "l09_vlan.go:169", after := #[{ on := 9, ground := Ground.data }, { on := 9, ground := Ground.chain }, { on := 0, ground := Ground.phase }, { on := 1, ground := Ground.phase }, { on := 2, ground := Ground.phase }, { on := 3, ground := Ground.phase }, { on := 4, ground := Ground.phase }, { on := 5, ground := Ground.phase }, { on := 6, ground := Ground.phase }, { on := 7, ground := Ground.phase }, { on := 8, ground := Ground.phase }, { on := 9, ground := Ground.phase }], guard := none }) (v := ?_) rfl (by kernel_rfl) (by kernel_rfl) (by kernel_rfl) (fun _ _ _ h => h) (Or.inl ⟨by rfl, ?_⟩) (by assumption) ?_
          rotate_left
          · (intro wY hSw; (try dsimp only at hSw); go_simp; try with_reducible rfl)
          simp only [Act.put, List.setIfInBounds_toArray, List.set_cons_zero, List.set_cons_succ]
          refine wpAnyH_done (by kernel_rfl) ?_ _
          go_wp2
          go_ret
          exact ⟨_, _, _, _, rfl, by omega, HO.out, HP.out.1, HP.out.2, HB.out⟩
        exact AllReadyH.nil
      exact AllReadyH.nil
    exact AllReadyH.nil
  · go_enter Try.func52, Try.ntmps52
    go_wp2_with fail
    refine (searchRow_any (some ⟨b, off, none⟩) n c l r _ (h.below q0) hn).mono ?_
    rintro e w2 ⟨pos, there, rfl, hf, hb2⟩
    have hpn : pos ≤ n := by have := hf.le; have := hsz.out; omega
    have i1 : (0 : Int) ≤ (pos : Int) := by omega
    have i2 : (pos : Int) ≤ (c : Int) := by omega
    have hg1 := (h.below (gr_trans q0 hb2)).take hpn
    cases there
    · have HP : Hid ((vrises l = true → l.take pos ++ [r] ++ l.drop pos = putRowF l r false) ∧ ∀ x ∈ l.take pos ++ [r] ++ l.drop pos, x ∈ l ∨ x = r) := hide ⟨fun hr => by have := put_found l pos false hr hf; rw [← this]; simp, by rw [List.append_assoc]; exact put_mem⟩
      have hg3 := (h.below (gr_trans q0 hb2)).drop3 hpn
      have i3 : (pos : Int) ≤ (n : Int) := by omega
      clear hf x0 x1 x2
      have kr := kept_block kr hb2
      have q2 := gr_trans q0 hb2
      have vv : Below w2.heap.size w2 w2.drew := gr_drew (Below.refl _ _)
      have v2 : Below w2.heap.size w2 w2.drew := vv
      go_wp2_with fail
      refine wp_region_held_drew (S := (fun W => W.cell? ⟨w.heap.size, 0, none⟩ = some (.int .i64 r.i) ∧ W.cell? ⟨w.heap.size, 1, none⟩ = some (.int .i64 r.m) ∧ W.cell? ⟨w.heap.size, 2, none⟩ = some (.int .i64 r.b))) (by kernel_rfl) ((cells3 (kept_block kr vv)).1) (fun hHeld => ?_)
      refine wpAnyH_take (i := 0) (oi := { dst := some 18, op := Op.move (Operand.tmp 0), type := 65, pos := "l09_vlan.go:169", after := #[], guard := none }) (v := ?_) rfl (by kernel_rfl) (by kernel_rfl) (by kernel_rfl) (fun _ _ _ h => h) (Or.inl ⟨by rfl, ?_⟩) (by assumption) ?_
      rotate_left
      · (intro wY hSw; (try dsimp only at hSw); go_simp; try with_reducible rfl)
      simp only [Act.put, List.setIfInBounds_toArray, List.set_cons_zero, List.set_cons_succ]
      refine wpAnyH_take (i := 1) (oi := { dst := some 19, op := Op.move (Operand.tmp 5), type := 3, pos := "l09_vlan.go:169", after := #[], guard := none }) (v := ?_) rfl (by kernel_rfl) (by kernel_rfl) (by kernel_rfl) (fun _ _ _ h => h) (Or.inl ⟨by rfl, ?_⟩) (by assumption) ?_
      rotate_left
      · (intro wY hSw; (try dsimp only at hSw); go_simp; try with_reducible rfl)
      simp only [Act.put, List.setIfInBounds_toArray, List.set_cons_zero, List.set_cons_succ]
      refine wpAnyH_take (i := 2) (oi := { dst := some 20, op := Op.slice 65 (Operand.tmp 18) none (some (Operand.tmp 19)) none, type := 65, pos := "l09_vlan.go:169", after := #[{ on := 0, ground := Ground.data }, { on := 1, ground := Ground.data }], guard := none }) (v := ?_) rfl (by kernel_rfl) (by kernel_rfl) (by kernel_rfl) (fun _ _ _ h => h) (Or.inl ⟨by rfl, ?_⟩) (by assumption) ?_
      rotate_left
      · (intro wY hSw; (try dsimp only at hSw); go_simp; try with_reducible rfl)
      simp only [Act.put, List.setIfInBounds_toArray, List.set_cons_zero, List.set_cons_succ]
      refine wpAnyH_take (i := 3) (oi := { dst := some 21, op := Op.load 29 (Operand.tmp 3), type := 29, pos := "l09_vlan.go:169", after := #[], guard := none }) (v := ?_) rfl (by kernel_rfl) (by kernel_rfl) (by kernel_rfl) (fun _ _ _ h => h) (Or.inl ⟨by rfl, ?_⟩) (by assumption) ?_
      rotate_left
      · (intro wY hSw; (try dsimp only at hSw); go_simp; try with_reducible rfl)
      simp only [Act.put, List.setIfInBounds_toArray, List.set_cons_zero, List.set_cons_succ]
      refine wpAnyH_take (i := 5) (oi := { dst := some 23, op := Op.move (Operand.tmp 0), type := 65, pos := "l09_vlan.go:169", after := #[], guard := none }) (v := ?_) rfl (by kernel_rfl) (by kernel_rfl) (by kernel_rfl) (fun _ _ _ h => h) (Or.inl ⟨by rfl, ?_⟩) (by assumption) ?_
      rotate_left
      · (intro wY hSw; (try dsimp only at hSw); go_simp; try with_reducible rfl)
      simp only [Act.put, List.setIfInBounds_toArray, List.set_cons_zero, List.set_cons_succ]
      refine wpAnyH_take (i := 6) (oi := { dst := some 24, op := Op.move (Operand.tmp 7), type := 3, pos := "l09_vlan.go:169", after := #[], guard := none }) (v := ?_) rfl (by kernel_rfl) (by kernel_rfl) (by kernel_rfl) (fun _ _ _ h => h) (Or.inl ⟨by rfl, ?_⟩) (by assumption) ?_
      rotate_left
      · (intro wY hSw; (try dsimp only at hSw); go_simp; try with_reducible rfl)
      simp only [Act.put, List.setIfInBounds_toArray, List.set_cons_zero, List.set_cons_succ]
      refine wpAnyH_take (i := 7) (oi := { dst := some 25, op := Op.slice 65 (Operand.tmp 23) (some (Operand.tmp 24)) none none, type := 65, pos := "l09_vlan.go:169", after := #[{ on := 5, ground := Ground.data }, { on := 6, ground := Ground.data }], guard := none }) (v := ?_) rfl (by kernel_rfl) (by kernel_rfl) (by kernel_rfl) (fun _ _ _ h => h) (Or.inl ⟨by rfl, ?_⟩) (by assumption) ?_
      rotate_left
      · (intro wY hSw; (try dsimp only at hSw); go_simp; try with_reducible rfl)
      simp only [Act.put, List.setIfInBounds_toArray, List.set_cons_zero, List.set_cons_succ]
      refine wpAnyH_ready (rs := [4]) (by kernel_rfl) (by simp) ?_
      refine AllReadyH.cons (o := { dst := some 22, op := Op.buildSlice 65 1 #[(0, Operand.tmp 21)], type := 65, pos := "l09_vlan.go:169", after := #[{ on := 3, ground := Ground.data }], guard := none }) rfl (fun K hK => ?_) ?_
      · go_simp
        first
        | refine made_new (K := K _) (fun wx hk hbx => ?_)
        | refine made_drew (K := K _) (fun wx hk hbx => ?_)
        have g2 := grow_blk (F := vrowF) (x := r) hk rfl
        have vv := gr_trans vv hbx
        have v2 : Below w2.heap.size w2 wx := gr_trans v2 hbx
        clear hk hbx
        refine hK.out _ _ ((cells3 (kept_block kr vv)).1) (fun hHeld => ?_)
        clear hK K
        try simp only [Act.put, List.setIfInBounds_toArray, List.set_cons_zero, List.set_cons_succ]
        refine wpAnyH_ready (rs := [8]) (by kernel_rfl) (by simp) ?_
        refine AllReadyH.cons (o := { dst := some 26, op := Op.buildSlice 106 3 #[(0, Operand.tmp 20), (1, Operand.tmp 22), (2, Operand.tmp 25)], type := 106, pos := "l09_vlan.go:169", after := #[{ on := 2, ground := Ground.data }, { on := 4, ground := Ground.data }, { on := 7, ground := Ground.data }], guard := none }) rfl (fun K hK => ?_) ?_
        · go_simp
          first
          | refine made_new (K := K _) (fun wx hk hbx => ?_)
          | refine made_drew (K := K _) (fun wx hk hbx => ?_)
          have g2 := g2.below hbx
          have vv := gr_trans vv hbx
          have v2 := gr_trans v2 hbx
          clear hbx
          refine hK.out _ _ ((cells3 (kept_block kr vv)).1) (fun hHeld => ?_)
          clear hK K
          try simp only [Act.put, List.setIfInBounds_toArray, List.set_cons_zero, List.set_cons_succ]
          refine wpAnyH_ready (rs := [9]) (by kernel_rfl) (by simp) ?_
          refine AllReadyH.cons (o := { dst := some 27, op := Op.call { callee := Callee.value (Operand.func 86), args := #[Operand.tmp 26], argTypes := #[106] }, type := 65, pos := "l09_vlan.go:169", after := #[{ on := 8, ground := Ground.data }], guard := none }) rfl (fun K hK => ?_) ?_
          · go_simp
            refine (concat_made _ _ pos c _ 1 1 _ (n - pos) (c - pos) (l.take pos) [r] (l.drop pos) _ hk (hg1.below v2) g2 (hg3.below v2) (by omega) (by omega)).mono ?_
            rintro e wx ⟨a', c', rfl, how, hbx⟩
            have HO := hide (gown_lt how (base' := w.heap.size) (Nat.le_trans q2.size v2.size))
            have vv := gr_trans vv hbx
            have HB := hide (gr_trans q2 (gr_trans v2 hbx))
            clear how hbx g2 hk
            generalize (if c = pos then some (⟨b, off, none⟩ : Addr) else some ⟨b, off + pos * 3, none⟩) = ad
            go_wp2_with fail
            refine hK.out _ _ ((cells3 (kept_block kr vv)).1) (fun hHeld => ?_)
            clear hK K
            try simp only [Act.put, List.setIfInBounds_toArray, List.set_cons_zero, List.set_cons_succ]
            refine wpAnyH_take (i := 10) (oi := { dst := some 4, op := Op.assign (Operand.tmp 27), type := 65, pos := "l09_vlan.go:169", after := #[{ on := 9, ground := Ground.data }, { on := 9, ground := Ground.chain }, { on := 0, ground := Ground.phase }, { on := 1, ground := Ground.phase }, { on := 2, ground := Ground.phase }, { on := 3, ground := Ground.phase }, { on := 4, ground := Ground.phase }, { on := 5, ground := Ground.phase }, { on := 6, ground := Ground.phase }, { on := 7, ground := Ground.phase }, { on := 8, ground := Ground.phase }, { on := 9, ground := Ground.phase }], guard := none }) (v := ?_) rfl (by kernel_rfl) (by kernel_rfl) (by kernel_rfl) (fun _ _ _ h => h) (Or.inl ⟨by rfl, ?_⟩) (by assumption) ?_
            rotate_left
            · (intro wY hSw; (try dsimp only at hSw); go_simp; try with_reducible rfl)
            simp only [Act.put, List.setIfInBounds_toArray, List.set_cons_zero, List.set_cons_succ]
            refine wpAnyH_done (by kernel_rfl) ?_ _
            go_wp2
            go_ret
            exact ⟨_, _, _, _, rfl, by omega, HO.out, HP.out.1, HP.out.2, HB.out⟩
          exact AllReadyH.nil
        exact AllReadyH.nil
      exact AllReadyH.nil
    · have hpl : pos < n := by
        have := hf.is
        cases hx : l[pos]? with
        | none => rw [hx] at this; cases this
        | some x => have := (List.getElem?_eq_some_iff.1 hx).1; have := hsz.out; omega
      have HP : Hid ((vrises l = true → l.take pos ++ [r] ++ l.drop (pos + 1) = putRowF l r false) ∧ ∀ x ∈ l.take pos ++ [r] ++ l.drop (pos + 1), x ∈ l ∨ x = r) := hide ⟨fun hr => by have := put_found l pos true hr hf; rw [← this]; simp, by rw [List.append_assoc]; exact put_mem⟩
      have hg3 := (h.below (gr_trans q0 hb2)).drop3 (k := pos + 1) (by omega)
      have i3 : (pos : Int) + 1 ≤ (n : Int) := by omega
      have i4 : (0 : Int) ≤ (pos : Int) + 1 := by omega
      have i5 : IntKind.i64.wrap ((pos : Int) + 1) = (pos : Int) + 1 := by rw [IntKind.wrap_i64]; omega
      have i6 : ((pos : Int) + 1).toNat = pos + 1 := by omega
      clear hf x0 x1 x2
      have kr := kept_block kr hb2
      have q2 := gr_trans q0 hb2
      have vv : Below w2.heap.size w2 w2.drew := gr_drew (Below.refl _ _)
      have v2 : Below w2.heap.size w2 w2.drew := vv
      go_wp2_with fail
      refine wp_region_held_drew (S := (fun W => W.cell? ⟨w.heap.size, 0, none⟩ = some (.int .i64 r.i) ∧ W.cell? ⟨w.heap.size, 1, none⟩ = some (.int .i64 r.m) ∧ W.cell? ⟨w.heap.size, 2, none⟩ = some (.int .i64 r.b))) (by kernel_rfl) ((cells3 (kept_block kr vv)).1) (fun hHeld => ?_)
      refine wpAnyH_take (i := 0) (oi := { dst := some 18, op := Op.move (Operand.tmp 0), type := 65, pos := "l09_vlan.go:169", after := #[], guard := none }) (v := ?_) rfl (by kernel_rfl) (by kernel_rfl) (by kernel_rfl) (fun _ _ _ h => h) (Or.inl ⟨by rfl, ?_⟩) (by assumption) ?_
      rotate_left
      · (intro wY hSw; (try dsimp only at hSw); go_simp; try with_reducible rfl)
      simp only [Act.put, List.setIfInBounds_toArray, List.set_cons_zero, List.set_cons_succ]
      refine wpAnyH_take (i := 1) (oi := { dst := some 19, op := Op.move (Operand.tmp 5), type := 3, pos := "l09_vlan.go:169", after := #[], guard := none }) (v := ?_) rfl (by kernel_rfl) (by kernel_rfl) (by kernel_rfl) (fun _ _ _ h => h) (Or.inl ⟨by rfl, ?_⟩) (by assumption) ?_
      rotate_left
      · (intro wY hSw; (try dsimp only at hSw); go_simp; try with_reducible rfl)
      simp only [Act.put, List.setIfInBounds_toArray, List.set_cons_zero, List.set_cons_succ]
      refine wpAnyH_take (i := 2) (oi := { dst := some 20, op := Op.slice 65 (Operand.tmp 18) none (some (Operand.tmp 19)) none, type := 65, pos := "l09_vlan.go:169", after := #[{ on := 0, ground := Ground.data }, { on := 1, ground := Ground.data }], guard := none }) (v := ?_) rfl (by kernel_rfl) (by kernel_rfl) (by kernel_rfl) (fun _ _ _ h => h) (Or.inl ⟨by rfl, ?_⟩) (by assumption) ?_
      rotate_left
      · (intro wY hSw; (try dsimp only at hSw); go_simp; try with_reducible rfl)
      simp only [Act.put, List.setIfInBounds_toArray, List.set_cons_zero, List.set_cons_succ]
      refine wpAnyH_take (i := 3) (oi := { dst := some 21, op := Op.load 29 (Operand.tmp 3), type := 29, pos := "l09_vlan.go:169", after := #[], guard := none }) (v := ?_) rfl (by kernel_rfl) (by kernel_rfl) (by kernel_rfl) (fun _ _ _ h => h) (Or.inl ⟨by rfl, ?_⟩) (by assumption) ?_
      rotate_left
      · (intro wY hSw; (try dsimp only at hSw); go_simp; try with_reducible rfl)
      simp only [Act.put, List.setIfInBounds_toArray, List.set_cons_zero, List.set_cons_succ]
      refine wpAnyH_take (i := 5) (oi := { dst := some 23, op := Op.move (Operand.tmp 0), type := 65, pos := "l09_vlan.go:169", after := #[], guard := none }) (v := ?_) rfl (by kernel_rfl) (by kernel_rfl) (by kernel_rfl) (fun _ _ _ h => h) (Or.inl ⟨by rfl, ?_⟩) (by assumption) ?_
      rotate_left
      · (intro wY hSw; (try dsimp only at hSw); go_simp; try with_reducible rfl)
      simp only [Act.put, List.setIfInBounds_toArray, List.set_cons_zero, List.set_cons_succ]
      refine wpAnyH_take (i := 6) (oi := { dst := some 24, op := Op.move (Operand.tmp 7), type := 3, pos := "l09_vlan.go:169", after := #[], guard := none }) (v := ?_) rfl (by kernel_rfl) (by kernel_rfl) (by kernel_rfl) (fun _ _ _ h => h) (Or.inl ⟨by rfl, ?_⟩) (by assumption) ?_
      rotate_left
      · (intro wY hSw; (try dsimp only at hSw); go_simp; try with_reducible rfl)
      simp only [Act.put, List.setIfInBounds_toArray, List.set_cons_zero, List.set_cons_succ]
      refine wpAnyH_take (i := 7) (oi := { dst := some 25, op := Op.slice 65 (Operand.tmp 23) (some (Operand.tmp 24)) none none, type := 65, pos := "l09_vlan.go:169", after := #[{ on := 5, ground := Ground.data }, { on := 6, ground := Ground.data }], guard := none }) (v := ?_) rfl (by kernel_rfl) (by kernel_rfl) (by kernel_rfl) (fun _ _ _ h => h) (Or.inl ⟨by rfl, ?_⟩) (by assumption) ?_
      rotate_left
      · (intro wY hSw; (try dsimp only at hSw); go_simp; try with_reducible rfl)
      simp only [Act.put, List.setIfInBounds_toArray, List.set_cons_zero, List.set_cons_succ]
      refine wpAnyH_ready (rs := [4]) (by kernel_rfl) (by simp) ?_
      refine AllReadyH.cons (o := { dst := some 22, op := Op.buildSlice 65 1 #[(0, Operand.tmp 21)], type := 65, pos := "l09_vlan.go:169", after := #[{ on := 3, ground := Ground.data }], guard := none }) rfl (fun K hK => ?_) ?_
      · go_simp
        first
        | refine made_new (K := K _) (fun wx hk hbx => ?_)
        | refine made_drew (K := K _) (fun wx hk hbx => ?_)
        have g2 := grow_blk (F := vrowF) (x := r) hk rfl
        have vv := gr_trans vv hbx
        have v2 : Below w2.heap.size w2 wx := gr_trans v2 hbx
        clear hk hbx
        refine hK.out _ _ ((cells3 (kept_block kr vv)).1) (fun hHeld => ?_)
        clear hK K
        try simp only [Act.put, List.setIfInBounds_toArray, List.set_cons_zero, List.set_cons_succ]
        refine wpAnyH_ready (rs := [8]) (by kernel_rfl) (by simp) ?_
        refine AllReadyH.cons (o := { dst := some 26, op := Op.buildSlice 106 3 #[(0, Operand.tmp 20), (1, Operand.tmp 22), (2, Operand.tmp 25)], type := 106, pos := "l09_vlan.go:169", after := #[{ on := 2, ground := Ground.data }, { on := 4, ground := Ground.data }, { on := 7, ground := Ground.data }], guard := none }) rfl (fun K hK => ?_) ?_
        · go_simp
          first
          | refine made_new (K := K _) (fun wx hk hbx => ?_)
          | refine made_drew (K := K _) (fun wx hk hbx => ?_)
          have g2 := g2.below hbx
          have vv := gr_trans vv hbx
          have v2 := gr_trans v2 hbx
          clear hbx
          refine hK.out _ _ ((cells3 (kept_block kr vv)).1) (fun hHeld => ?_)
          clear hK K
          try simp only [Act.put, List.setIfInBounds_toArray, List.set_cons_zero, List.set_cons_succ]
          refine wpAnyH_ready (rs := [9]) (by kernel_rfl) (by simp) ?_
          refine AllReadyH.cons (o := { dst := some 27, op := Op.call { callee := Callee.value (Operand.func 86), args := #[Operand.tmp 26], argTypes := #[106] }, type := 65, pos := "l09_vlan.go:169", after := #[{ on := 8, ground := Ground.data }], guard := none }) rfl (fun K hK => ?_) ?_
          · go_simp
            refine (concat_made _ _ pos c _ 1 1 _ (n - (pos + 1)) (c - (pos + 1)) (l.take pos) [r] (l.drop (pos + 1)) _ hk (hg1.below v2) g2 (hg3.below v2) (by omega) (by omega)).mono ?_
            rintro e wx ⟨a', c', rfl, how, hbx⟩
            have HO := hide (gown_lt how (base' := w.heap.size) (Nat.le_trans q2.size v2.size))
            have vv := gr_trans vv hbx
            have HB := hide (gr_trans q2 (gr_trans v2 hbx))
            clear how hbx g2 hk
            generalize (if c = pos + 1 then some (⟨b, off, none⟩ : Addr) else some ⟨b, off + (pos + 1) * 3, none⟩) = ad
            go_wp2_with fail
            refine hK.out _ _ ((cells3 (kept_block kr vv)).1) (fun hHeld => ?_)
            clear hK K
            try simp only [Act.put, List.setIfInBounds_toArray, List.set_cons_zero, List.set_cons_succ]
            refine wpAnyH_take (i := 10) (oi := { dst := some 4, op := Op.assign (Operand.tmp 27), type := 65, pos := "l09_vlan.go:169", after := #[{ on := 9, ground := Ground.data }, { on := 9, ground := Ground.chain }, { on := 0, ground := Ground.phase }, { on := 1, ground := Ground.phase }, { on := 2, ground := Ground.phase }, { on := 3, ground := Ground.phase }, { on := 4, ground := Ground.phase }, { on := 5, ground := Ground.phase }, { on := 6, ground := Ground.phase }, { on := 7, ground := Ground.phase }, { on := 8, ground := Ground.phase }, { on := 9, ground := Ground.phase }], guard := none }) (v := ?_) rfl (by kernel_rfl) (by kernel_rfl) (by kernel_rfl) (fun _ _ _ h => h) (Or.inl ⟨by rfl, ?_⟩) (by assumption) ?_
            rotate_left
            · (intro wY hSw; (try dsimp only at hSw); go_simp; try with_reducible rfl)
            simp only [Act.put, List.setIfInBounds_toArray, List.set_cons_zero, List.set_cons_succ]
            refine wpAnyH_done (by kernel_rfl) ?_ _
            go_wp2
            go_ret
            exact ⟨_, _, _, _, rfl, by omega, HO.out, HP.out.1, HP.out.2, HB.out⟩
          exact AllReadyH.nil
        exact AllReadyH.nil
      exact AllReadyH.nil

end Go.Proofs.Ytafonmfgeecopaa
