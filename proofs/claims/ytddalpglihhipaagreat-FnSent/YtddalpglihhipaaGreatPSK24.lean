/-
  Packed: FdbPutM FdbInsert.
-/
import Derived.Test.YtddalpglihhipaaGreatPSKW
import Derived.Test.YtddalpglihhipaaGreatPSK01
import Derived.Test.YtddalpglihhipaaGreatPSK07
import Derived.Test.YtddalpglihhipaaGreatPSK23
namespace Go.Proofs.YtddalpglihhipaaGreat
open Go.RowKit

def key0 (e : FE) : FK := (e.t, e.m, 0)

theorem keysGo_rise : ∀ (l pre : List FE), (∀ x ∈ l, ∀ z ∈ pre, both z x.t x.m = false) → l.Pairwise (fun e f => ahead e f.t f.m = true) → keysGo pre l = l.map key0
 | [], _, _, _ => rfl
 | x :: r, pre, h1, h2 => by
  obtain ⟨h3, h4⟩ := List.pairwise_cons.1 h2
  rw [keysGo, List.map_cons, keysGo_rise r (pre ++ [x]) ?_ h4]
  ·have : cnt pre x.t x.m = 0 := by
    unfold cnt
    rw [List.filter_eq_nil_iff.2]
    ·rfl
    ·intro z hz hb
     rw [h1 x (by simp) z hz] at hb
     cases hb
   show keyIn pre x :: _ = _
   unfold keyIn key0
   rw [this]
  ·intro y hy z hz
   rcases List.mem_append.1 hz with hz | hz
   ·exact h1 y (List.mem_cons_of_mem _ hy) z hz
   ·simp at hz
    subst hz
    have := h3 y hy
    rw [ahead_iff] at this
    exact both_not.2 (by omega)

theorem keys_rise {l : List FE} (h : Sorted l) : keysOf l = l.map key0 := keysGo_rise l [] (by simp) h.2

theorem cmp_key (x e : FE) : cmpK (key0 x) (key0 e) < 0 ↔ ahead x e.t e.m = true := by
 rw [cmpK_less, ahead_iff]
 rfl
theorem cmp_key0 (x e : FE) : cmpK (key0 x) (key0 e) = 0 ↔ both x e.t e.m = true := by
 rw [cmpK_same, both_iff]
 rfl

theorem rise_mono {l : List FE} (h : Sorted l) (e : FE) : ∀ (a b : Nat) (x z : FK), a ≤ b → (keysOf l)[a]? = some x → (keysOf l)[b]? = some z → cmpK z (key0 e) < 0 → cmpK x (key0 e) < 0 := by
 intro a b x z hab hx hz hc
 rw [keys_rise h, List.getElem?_map] at hx hz
 obtain ⟨u, hu, rfl⟩ := Option.map_eq_some_iff.1 hx
 obtain ⟨v, hv, rfl⟩ := Option.map_eq_some_iff.1 hz
 rw [cmp_key] at *
 by_cases e1 : a = b
 ·subst e1
  rw [hu] at hv
  cases hv
  exact hc
 ·have ha := (List.getElem?_eq_some_iff.1 hu).1
  have hb := (List.getElem?_eq_some_iff.1 hv).1
  have := List.pairwise_iff_getElem.1 h.2 a b ha hb (by omega)
  rw [List.getElem?_eq_getElem ha] at hu
  rw [List.getElem?_eq_getElem hb] at hv
  cases hu
  cases hv
  exact ahead_trans this (by rw [ahead_iff] at *; exact hc)

theorem ins_at {e : FE} : ∀ {l : List FE} {pos : Nat}, pos ≤ l.length → (∀ j x, j < pos → l[j]? = some x → ahead x e.t e.m = true) → (∀ x, l[pos]? = some x → ahead x e.t e.m = false) →
  insF e l = l.take pos ++ e :: (match l[pos]? with | some x => if both x e.t e.m = true then l.drop (pos + 1) else l.drop pos | none => [])
 | [], pos, hp, _, _ => by
  have : pos = 0 := by simpa using hp
  subst this
  simp [insF]
 | x :: r, 0, _, _, h2 => by
  have ha := h2 x rfl
  unfold insF
  rw [ha]
  simp only [Bool.false_eq_true, if_false, List.take_zero, List.nil_append, List.getElem?_cons_zero]
  split <;> simp
 | x :: r, pos + 1, hp, h1, h2 => by
  have ha := h1 0 x (by omega) rfl
  have ih := ins_at (e := e) (l := r) (pos := pos) (by simpa using hp) (fun j z hj hz => h1 (j + 1) z (by omega) (by simpa using hz)) (fun z hz => h2 z (by simpa using hz))
  unfold insF
  rw [ha, if_pos rfl, ih]
  simp

theorem look_at {l : List FE} (h : Sorted l) {e : FE} {pos : Nat} (h1 : ∀ j x, j < pos → l[j]? = some x → ahead x e.t e.m = true) (h2 : ∀ j x, pos ≤ j → l[j]? = some x → ahead x e.t e.m = false) :
  (lookE l e.t e.m).isSome = (match l[pos]? with | some x => both x e.t e.m | none => false) := by
 cases hk : l[pos]? with
 | none =>
  have : lookE l e.t e.m = none := look_none.2 (by
   intro x hx hb
   obtain ⟨j, hj⟩ := List.getElem?_of_mem hx
   have hjl := (List.getElem?_eq_some_iff.1 hj).1
   have hpl := List.getElem?_eq_none_iff.1 hk
   have := h1 j x (by omega) hj
   rw [ahead_iff] at this
   omega)
  rw [this]
  rfl
 | some x =>
  cases hb : both x e.t e.m
  ·have : lookE l e.t e.m = none := look_none.2 (by
    intro z hz hbz
    obtain ⟨j, hj⟩ := List.getElem?_of_mem hz
    have hjl := (List.getElem?_eq_some_iff.1 hj).1
    have hpl := (List.getElem?_eq_some_iff.1 hk).1
    rcases Nat.lt_trichotomy j pos with hlt | heq | hgt
    ·have := h1 j z hlt hj
     rw [ahead_iff] at this
     omega
    ·subst heq
     rw [hk] at hj
     cases hj
     rw [both_not] at hb
     exact hb hbz
    ·have h3 := List.pairwise_iff_getElem.1 h.2 pos j hpl hjl hgt
     rw [List.getElem?_eq_getElem hpl] at hk
     rw [List.getElem?_eq_getElem hjl] at hj
     cases hk
     cases hj
     have h4 := h2 pos _ (Nat.le_refl _) (List.getElem?_eq_getElem hpl)
     rw [ahead_iff] at h3
     rw [ahead_not] at h4
     rw [both_not] at hb
     omega)
   rw [this]
   simp [hb]
  ·have hm := List.mem_of_getElem? hk
   have := look_mem h hm
   obtain ⟨e1, e2⟩ := both_iff.1 hb
   rw [e1, e2] at this
   rw [this]
   simp [hb]

theorem out_set {l : List FE} {i : Nat} {e' : FE} {k : FK} (hk : (keysOf l)[i]? = some k) : (keysOf l).filterMap (upd (entsOf l) k (some e')) = l.take i ++ e' :: l.drop (i + 1) := by
 have hik := (List.getElem?_eq_some_iff.1 hk).1
 have hkk : (keysOf l)[i] = k := by rw [List.getElem?_eq_getElem hik] at hk; exact Option.some.inj hk
 have hsp : keysOf l = (keysOf l).take i ++ k :: (keysOf l).drop (i + 1) := by
  rw [← hkk, ← List.drop_eq_getElem_cons hik, List.take_append_drop]
 have hnd := keys_nodup l
 rw [hsp] at hnd
 have hn1 : k ∉ (keysOf l).take i := by
  intro h
  exact (List.nodup_append.1 hnd).2.2 k h k (by simp) rfl
 have hn2 : k ∉ (keysOf l).drop (i + 1) := (List.nodup_cons.1 (List.nodup_append.1 hnd).2.1).1
 have hm := ents_map l
 have hm1 : ((keysOf l).take i).map (entsOf l) = (l.take i).map some := by rw [List.map_take, hm, List.map_take]
 have hm2 : ((keysOf l).drop (i + 1)).map (entsOf l) = (l.drop (i + 1)).map some := by rw [List.map_drop, hm, List.map_drop]
 rw [hsp, List.filterMap_append, List.filterMap_cons, upd_same]
 have e1 : ((keysOf l).take i).filterMap (upd (entsOf l) k (some e')) = l.take i := by
  rw [map_out (g := entsOf l) (fun x hx => upd_other (entsOf l) (a := k) (some e') (fun e => hn1 (by rw [← e]; exact hx)))]
  exact out_all hm1
 have e2 : ((keysOf l).drop (i + 1)).filterMap (upd (entsOf l) k (some e')) = l.drop (i + 1) := by
  rw [map_out (g := entsOf l) (fun x hx => upd_other (entsOf l) (a := k) (some e') (fun e => hn2 (by rw [← e]; exact hx)))]
  exact out_all hm2
 rw [e1]
 simp only
 rw [e2]

theorem out_new {l : List FE} {i : Nat} {e' : FE} {k : FK} (hk : k ∉ keysOf l) : ((keysOf l).take i ++ k :: (keysOf l).drop i).filterMap (upd (entsOf l) k (some e')) = l.take i ++ e' :: l.drop i := by
 have hm := ents_map l
 have hm1 : ((keysOf l).take i).map (entsOf l) = (l.take i).map some := by rw [List.map_take, hm, List.map_take]
 have hm2 : ((keysOf l).drop i).map (entsOf l) = (l.drop i).map some := by rw [List.map_drop, hm, List.map_drop]
 rw [List.filterMap_append, List.filterMap_cons, upd_same]
 have e1 : ((keysOf l).take i).filterMap (upd (entsOf l) k (some e')) = l.take i := by
  rw [map_out (g := entsOf l) (fun x hx => upd_other (entsOf l) (a := k) (some e') (fun e => hk (by rw [← e]; exact List.mem_of_mem_take hx)))]
  exact out_all hm1
 have e2 : ((keysOf l).drop i).filterMap (upd (entsOf l) k (some e')) = l.drop i := by
  rw [map_out (g := entsOf l) (fun x hx => upd_other (entsOf l) (a := k) (some e') (fun e => hk (by rw [← e]; exact List.mem_of_mem_drop hx)))]
  exact out_all hm2
 rw [e1]
 simp only
 rw [e2]

theorem found_says {l : List FE} (h : Sorted l) {e : FE} {pos : Nat} {there : Bool} (F : Found (keysOf l) (key0 e) pos there) :
  pos ≤ l.length ∧ (lookE l e.t e.m).isSome = there ∧
  (there = true → ∃ x, l[pos]? = some x ∧ (keysOf l)[pos]? = some (key0 e) ∧ insF e l = l.take pos ++ e :: l.drop (pos + 1)) ∧
  (there = false → key0 e ∉ keysOf l ∧ insF e l = l.take pos ++ e :: l.drop pos) := by
 have hlen := keys_length l
 have hkr := keys_rise h
 have h1 : ∀ j x, j < pos → l[j]? = some x → ahead x e.t e.m = true := fun j x hj hx => (cmp_key x e).1 (F.low j (key0 x) hj (by rw [hkr, List.getElem?_map, hx]; rfl))
 have h2 : ∀ j x, pos ≤ j → l[j]? = some x → ahead x e.t e.m = false := fun j x hj hx => by
  have := F.high j (key0 x) hj (by rw [hkr, List.getElem?_map, hx]; rfl)
  cases ha : ahead x e.t e.m
  ·rfl
  ·have := (cmp_key x e).2 ha
   omega
 have hle : pos ≤ l.length := by have := F.le; omega
 have hla := look_at h h1 h2
 have hth : there = (match l[pos]? with | some x => both x e.t e.m | none => false) := by
  rw [F.is, hkr, List.getElem?_map]
  cases l[pos]? with
  | none => rfl
  | some x =>
   simp only [Option.map_some]
   rw [Bool.eq_iff_iff, decide_eq_true_eq, cmp_key0]
 have hin := ins_at (e := e) hle h1 (fun x hx => h2 pos x (Nat.le_refl _) hx)
 refine ⟨hle, hla.trans hth.symm, ?_, ?_⟩
 ·intro ht
  rw [ht] at hth
  cases hx : l[pos]? with
  | none => rw [hx] at hth; cases hth
  | some x =>
   rw [hx] at hth hin
   have hb : both x e.t e.m = true := hth.symm
   simp only [hb, if_true] at hin
   refine ⟨x, rfl, ?_, hin⟩
   rw [hkr, List.getElem?_map, hx]
   obtain ⟨e1, e2⟩ := both_iff.1 hb
   show some (key0 x) = _
   unfold key0
   rw [e1, e2]
 ·intro ht
  rw [ht] at hth
  refine ⟨?_, ?_⟩
  ·intro hm
   rw [hkr] at hm
   obtain ⟨x, hx, hxe⟩ := List.mem_map.1 hm
   have hxe : x.t = e.t ∧ x.m = e.m := by
    unfold key0 at hxe
    simp at hxe
    exact hxe
   have hl := look_mem h hx
   rw [hxe.1, hxe.2] at hl
   rw [hl, ← hth] at hla
   cases hla
  ·cases hx : l[pos]? with
   | none =>
    rw [hx] at hin
    rw [hin, List.drop_eq_nil_of_le (List.getElem?_eq_none_iff.1 hx)]
   | some x =>
    rw [hx] at hth hin
    have hb : both x e.t e.m = false := hth.symm
    simp only [hb, Bool.false_eq_true, if_false] at hin
    exact hin

theorem fk_appendL (w : World) {ops : Array Oper} {rest : List Oper} {o : Oper} {a : Act} {Q : Exit → Act → World → Prop} (hgd : o.guard = none)
  (s x : Operand) (ho : o.op = Op.call { callee := Callee.builtin Builtin.append, args := #[s, x], argTypes := #[144, 144] }) (base : Nat)
  (v : Value) (n : Nat) (xs : List FK) (hs : a.eval s = v) (hown : w.ownsRow base 149 3 v n (fkF.all xs)) (ao : Option Addr) (m c : Nat) (zs : List FK)
  (hx : a.eval x = .slice ao m c) (hrow : GRow fkF w ao m c zs) (hsm : n + m ≤ 137438953472) (hbase : base ≤ w.heap.size)
  (h : ∀ ao' cap' w', w'.ownsRow base 149 3 (.slice ao' (n + m) cap') (n + m) (fkF.all (xs ++ zs)) → w.grownBy w' v.ownBlock → wpList Tryz.prog ops Q rest (a.put o.dst (.slice ao' (n + m) cap')) w') :
  wpList Tryz.prog ops Q (o :: rest) a w :=
 wpList_append_flat (F := fkF) w hgd s x 144 149 ho base Tryz.underlying144 fkInfo rfl (by decide) v n xs hs hown ao m c zs hx hrow hsm hbase (fun ao' cap' w' h1 _ h3 _ => h ao' cap' w' h1 h3)

theorem fk_one {w : World} {vb : Nat} {y : FK} (hv : w.heap[vb]? = some (.cells #[.int .i64 y.1, .int .i64 y.2.1, .int .i64 y.2.2] 149)) : GRow fkF w (some ⟨vb, 0, none⟩) 1 1 [y] := by
 obtain ⟨⟨c0, c1, c2⟩, -⟩ := cells3 hv
 refine ⟨rfl, Nat.le_refl _, by unfold maxLen; omega, (by intro h; cases h), .inr ⟨vb, 0, rfl, fun i x hi j v hj => ?_⟩⟩
 have hi0 : i = 0 := by
  have := (List.getElem?_eq_some_iff.1 hi).1
  simp at this
  exact this
 subst hi0
 simp at hi
 subst hi
 have hjl := (List.getElem?_eq_some_iff.1 hj).1
 rw [fkF.len] at hjl
 have hj3 : j = 0 ∨ j = 1 ∨ j = 2 := by have : fkF.k = 3 := rfl; omega
 rcases hj3 with rfl | rfl | rfl
 ·cases hj; simpa using c0
 ·cases hj; simpa using c1
 ·cases hj; simpa using c2

theorem fk_size : (Tryz.prog.info? 149).map (·.size) = some 3 := by kernel_rfl

theorem ins_end {ks : List FK} {n : Nat} (h : ks.length = n) (y : FK) : ks ++ [y] = ks.take n ++ y :: ks.drop n := by
 rw [List.take_of_length_le (by omega), List.drop_eq_nil_of_le (by omega)]

theorem all_ins (ks : List FK) (i : Nat) (y : FK) : fkF.all (ks.take i ++ y :: ks.drop i) = (fkF.all ks).take (i * 3) ++ fkF.cs y ++ (fkF.all ks).drop (i * 3) := by
 have h : ∀ (l : List FK) (j : Nat), (fkF.all l).take (j * 3) = fkF.all (l.take j) ∧ (fkF.all l).drop (j * 3) = fkF.all (l.drop j) := by
  intro l
  induction l with
  | nil => intro j; simp [Flat.all]
  | cons x r ih =>
   intro j
   cases j with
   | zero => simp [Flat.all]
   | succ j =>
    have hx : (fkF.cs x).length = 3 := rfl
    have hj : (j + 1) * 3 = 3 + j * 3 := by omega
    rw [fkF.all_cons, hj, List.take_append, List.drop_append, hx]
    rw [List.take_of_length_le (by omega), List.drop_eq_nil_of_le (by omega), Nat.add_sub_cancel_left, (ih j).1, (ih j).2, List.take_succ_cons, List.drop_succ_cons, fkF.all_cons, List.nil_append]
    exact ⟨rfl, rfl⟩
 rw [fkF.all_append, fkF.all_cons, (h ks i).1, (h ks i).2, List.append_assoc]

set_option maxRecDepth 100000 in
set_option maxHeartbeats 4000000 in
theorem insert_end (base : Nat) (aq : Option Addr) (n cq : Nat) (ks : List FK) (i : Nat) (y : FK) (vb : Nat) (w : World) (hown : w.ownsRow base 149 3 (.slice aq n cq) n (fkF.all ks)) (hv : w.heap[vb]? = some (.cells #[.int .i64 y.1, .int .i64 y.2.1, .int .i64 y.2.2] 149)) (hn : n ≤ 16777216) (hbase : base ≤ w.heap.size) (hi : i = n) :
  Calls Tryz.prog 162 #[.slice aq n cq, .int .i64 i, .slice (some ⟨vb, 0, none⟩) 1 1] w fun r w' => ∃ aq' cq', r = .returned (.slice aq' (n + 1) cq') ∧ w'.ownsRow base 149 3 (.slice aq' (n + 1) cq') (n + 1) (fkF.all (ks.take i ++ y :: ks.drop i)) ∧ w.grownBy w' (Value.slice aq n cq).ownBlock := by
 subst hi
 have hr := grow_own (F := fkF) hown
 have hv1 := fk_one hv
 have HI := hide (ins_end hr.size y)
 have hle := hr.le
 have htop := hr.top
 unfold maxLen at htop
 rcases hown.2 with ⟨e, h0⟩ | ⟨g, cap', cur, e, -⟩
 ·cases e
  go_enter Tryz.func162, Tryz.ntmps162
  go_wp2_with (at_builtin; refine fk_appendL _ rfl _ _ rfl base _ 0 ks rfl hown _ 1 1 [y] rfl hv1 (by omega) hbase ?_)
  intro ao9 cap9 w9 how9 hg9
  rw [HI.out] at how9
  have HO := hide how9
  have HG := hide hg9
  clear how9 hg9
  go_wp2
  go_ret
  exact ⟨_, _, rfl, HO.out, HG.out⟩
 ·cases e
  by_cases hc : cq = i
  ·subst hc
   go_enter Tryz.func162, Tryz.ntmps162
   go_wp2_with (at_builtin; refine fk_appendL _ rfl _ _ rfl base _ cq ks rfl hown _ 1 1 [y] rfl hv1 (by omega) hbase ?_)
   intro ao9 cap9 w9 how9 hg9
   rw [HI.out] at how9
   have HO := hide how9
   have HG := hide hg9
   clear how9 hg9
   go_wp2
   go_ret
   exact ⟨_, _, rfl, HO.out, HG.out⟩
  ·go_enter Tryz.func162, Tryz.ntmps162
   go_wp2_with (at_builtin; refine fk_appendL _ rfl _ _ rfl base _ i ks rfl hown _ 1 1 [y] rfl hv1 (by omega) hbase ?_)
   intro ao9 cap9 w9 how9 hg9
   rw [HI.out] at how9
   have HO := hide how9
   have HG := hide hg9
   clear how9 hg9
   go_wp2
   go_ret
   exact ⟨_, _, rfl, HO.out, HG.out⟩

set_option maxRecDepth 100000 in
set_option maxHeartbeats 4000000 in
theorem insert_room (base g n cq : Nat) (ks : List FK) (i : Nat) (y : FK) (vb : Nat) (w : World) (hown : w.ownsRow base 149 3 (.slice (some ⟨g, 0, none⟩) n cq) n (fkF.all ks)) (hv : w.heap[vb]? = some (.cells #[.int .i64 y.1, .int .i64 y.2.1, .int .i64 y.2.2] 149)) (hne : vb ≠ g) (hn : n ≤ 16777216) (hi : i < n) (hroom : n + 1 ≤ cq) :
  Calls Tryz.prog 162 #[.slice (some ⟨g, 0, none⟩) n cq, .int .i64 i, .slice (some ⟨vb, 0, none⟩) 1 1] w fun r w' => ∃ aq' cq', r = .returned (.slice aq' (n + 1) cq') ∧ w'.ownsRow base 149 3 (.slice aq' (n + 1) cq') (n + 1) (fkF.all (ks.take i ++ y :: ks.drop i)) ∧ w.grownBy w' (Value.slice (some ⟨g, 0, none⟩) n cq).ownBlock := by
 have hlen := hown.1
 obtain ⟨cur, hbg, hcur, hcm, hcs, htake⟩ : ∃ cur : Array Value, base ≤ g ∧ w.heap[g]? = some (.cells cur 149 (0, 0)) ∧ cq ≤ maxLen ∧ cur.size = cq * 3 ∧ cur.toList.take (n * 3) = fkF.all ks := by
  rcases hown.2 with ⟨e, _⟩ | ⟨g', cap', cur, e, h1, h2, _, h3, h4, h5⟩
  ·cases e
  ·cases e
   exact ⟨cur, h1, h2, h3, h4, h5⟩
 have hcm2 : cq ≤ 9223372036854775807 := by unfold maxLen at hcm; exact hcm
 have hov : ∀ lb cb, (callFunc 186 #[.slice (some ⟨vb, 0, none⟩) 1 1, .slice (some ⟨g, (i + 1) * 3, none⟩) lb cb]).run Tryz.prog w = .ok (.value (.bool false)) w := fun lb cb => by
  rw [run_callFunc_extern Tryz.func186 (by kernel_rfl) (by kernel_rfl) (by kernel_rfl) (e := Extern.SlicesOverlaps.overlaps #[144, 144] #[4]) (by kernel_rfl),
   Lib.run_overlaps_apart w 144 4 149 Tryz.underlying144 3 (fun _ => by kernel_rfl) ⟨vb, 0, none⟩ ⟨g, (i + 1) * 3, none⟩ 1 1 lb cb hne 149 149 3 (cq * 3) (by simp [World.shape?, hv]) (by simp [World.shape?, hcur, hcs]) (by omega) (by simp [World.frozen?, hv]) (by simp [World.frozen?, hv])]
  rfl
 have hdl : ((fkF.all ks).drop (i * 3)).length = (n - i) * 3 := by rw [List.length_drop, hlen]; omega
 have hsrc1 : ∀ j v, ((fkF.all ks).drop (i * 3))[j]? = some v → w.cell? ((⟨g, i * 3, none⟩ : Addr).add j) = some v := by
  intro j v hj
  have hjl := (List.getElem?_eq_some_iff.1 hj).1
  rw [hdl] at hjl
  rw [List.getElem?_drop] at hj
  rw [add_none, hown.cellAt _ (by omega)]
  exact hj
 have hmin1 : Nat.min (n + 1 - i) (n - i) = n - i := Nat.min_eq_right (by omega)
 have hmin2 : Nat.min 1 (n + 1 - i) = 1 := Nat.min_eq_left (by omega)
 have hcp1 : ∀ ty dc sc, (Builtin.copy_ #[144, 144] ty #[.slice (some ⟨g, (i + 1) * 3, none⟩) (n - i) dc, .slice (some ⟨g, i * 3, none⟩) (n + 1 - i) sc]).run Tryz.prog w.drew = .ok (goInt (n - i : Nat)) (w.drew.setRow g (spl cur.toList ((i + 1) * 3) ((fkF.all ks).drop (i * 3))).toArray) := fun ty dc sc => by
  have := run_copy_flat (P := Tryz.prog) w.drew 144 144 ty 149 g ((i + 1) * 3) (n - i) dc ⟨g, i * 3, none⟩ (n + 1 - i) sc cur 149 ((fkF.all ks).drop (i * 3)) 3 Tryz.underlying144 fk_size hcur (by rw [hdl, hmin1]) hsrc1 (by rw [hdl, hcs]; omega) (fun v hv => fkF.all_oneCell ks v (List.mem_of_mem_drop hv))
  rw [hmin1] at this
  exact this
 have hl1 : (spl cur.toList ((i + 1) * 3) ((fkF.all ks).drop (i * 3))).length = cq * 3 := by rw [spl_length (by rw [hdl]; simp [hcs]; omega)]; simpa using hcs
 obtain ⟨W1, hW1⟩ : ∃ W1, W1 = w.drew.setRow g (spl cur.toList ((i + 1) * 3) ((fkF.all ks).drop (i * 3))).toArray := ⟨_, rfl⟩
 have hW1g : W1.heap[g]? = some (.cells (spl cur.toList ((i + 1) * 3) ((fkF.all ks).drop (i * 3))).toArray 149 (0, 0)) := by rw [hW1]; exact setRow_heap w.drew g cur _ 149 _ hcur
 have hW1v : W1.heap[vb]? = some (.cells #[.int .i64 y.1, .int .i64 y.2.1, .int .i64 y.2.2] 149) := by rw [hW1, setRow_other _ _ _ _ hne]; exact hv
 have hcp2 : ∀ ty dc, (Builtin.copy_ #[144, 144] ty #[.slice (some ⟨g, i * 3, none⟩) (n + 1 - i) dc, .slice (some ⟨vb, 0, none⟩) 1 1]).run Tryz.prog W1 = .ok (goInt 1) (W1.setRow g (spl (spl cur.toList ((i + 1) * 3) ((fkF.all ks).drop (i * 3))) (i * 3) (fkF.cs y)).toArray) := fun ty dc => by
  have := run_copy_flat (P := Tryz.prog) W1 144 144 ty 149 g (i * 3) (n + 1 - i) dc ⟨vb, 0, none⟩ 1 1 _ 149 (fkF.cs y) 3 Tryz.underlying144 fk_size hW1g (by rw [hmin2]; rfl) (fun j v hj => by have := (fk_one hW1v).news j v (by rw [fkF.all_one]; exact hj); exact this) (by simp only [List.size_toArray, hl1, fkF.len]; have : fkF.k = 3 := rfl; omega) (fkF.one y)
  rw [hmin2] at this
  exact this
 have hend : (spl (spl cur.toList ((i + 1) * 3) ((fkF.all ks).drop (i * 3))) (i * 3) (fkF.cs y)).take ((n + 1) * 3) = fkF.all (ks.take i ++ y :: ks.drop i) := by
  have := spl_shift (cur := cur.toList) (A := fkF.all ks) (C := fkF.cs y) (a := i * 3) (k := 3) (n := n * 3) rfl hlen (by omega) (by simp [hcs]; omega) htake
  rw [show (i + 1) * 3 = i * 3 + 3 by omega, show (n + 1) * 3 = n * 3 + 3 by omega, this, all_ins]
 have hl2 : (spl (spl cur.toList ((i + 1) * 3) ((fkF.all ks).drop (i * 3))) (i * 3) (fkF.cs y)).length = cq * 3 := by rw [spl_length (by rw [hl1, fkF.len]; have : fkF.k = 3 := rfl; omega)]; exact hl1
 have HO : Hid ((W1.setRow g (spl (spl cur.toList ((i + 1) * 3) ((fkF.all ks).drop (i * 3))) (i * 3) (fkF.cs y)).toArray).ownsRow base 149 3 (.slice (some ⟨g, 0, none⟩) (n + 1) cq) (n + 1) (fkF.all (ks.take i ++ y :: ks.drop i))) :=
  ⟨by rw [fkF.all_length]; have h1 : ks.length = n := (grow_own (F := fkF) hown).size; have h2 : fkF.k = 3 := rfl; rw [h2]; simp; omega, .inr ⟨g, cq, _, rfl, hbg, setRow_heap W1 g _ _ 149 _ hW1g, hroom, hcm, by simpa using hl2, by simpa using hend⟩⟩
 have HG : Hid (w.grownBy (W1.setRow g (spl (spl cur.toList ((i + 1) * 3) ((fkF.all ks).drop (i * 3))) (i * 3) (fkF.cs y)).toArray) (some g)) := by
  refine ⟨?_, ?_, ?_, ?_, ?_⟩
  ·rw [hW1]; rfl
  ·rw [hW1]; rfl
  ·rw [hW1]; rfl
  ·rw [hW1]; simp [World.setRow]
  ·intro k hk hkg
   rw [setRow_other _ _ _ _ (fun e => hkg (by rw [e])), hW1, setRow_other _ _ _ _ (fun e => hkg (by rw [e]))]
   rfl
 rw [← hW1] at hcp1
 have hi1 : (i : Int) < (n : Int) := by omega
 have hw1 : IntKind.i64.wrap ((i : Int) + 1) = ((i + 1 : Nat) : Int) := by rw [IntKind.wrap_i64]; omega
 have hw2 : IntKind.i64.wrap ((n : Int) + 1) = ((n + 1 : Nat) : Int) := by rw [IntKind.wrap_i64]; omega
 have hx1 : (0 : Int) ≤ (i : Int) + 1 := by omega
 have hx2 : i ≤ n := by omega
 have hx3 : (i : Int) ≤ (n : Int) + 1 := by omega
 have hb2 : ¬ (cq = i + 1) := by omega
 have hb4 : ¬ (cq = i) := by omega
 clear hmin1 hmin2 hl1 hl2 hend hW1 hW1g hW1v hsrc1 hdl htake hcs hcur hown hlen hbg hcm
 go_enter Tryz.func162, Tryz.ntmps162
 go_wp2_with (simp only [hov])
 refine wp_region_held_drew (S := (fun _ => True)) (by kernel_rfl) (trivial) (fun hHeld => ?_)
 refine kK 0 ⟨some 69, .move (.tmp 0), 144, "slices.go:178", #[], none⟩ ?_
 refine kK 1 ⟨some 70, .move (.tmp 1), 3, "slices.go:178", #[], none⟩ ?_
 refine kK 2 ⟨some 71, .move (.tmp 7), 3, "slices.go:178", #[], none⟩ ?_
 refine kK 3 ⟨some 72, .binOp .add 3 (.tmp 70) (.tmp 71) 3, 3, "slices.go:178", #[⟨1, .data⟩, ⟨2, .data⟩], none⟩ ?_
 refine kK 4 ⟨some 73, .slice 144 (.tmp 69) (some (.tmp 72)) none none, 144, "slices.go:178", #[⟨0, .data⟩, ⟨3, .data⟩], none⟩ ?_
 refine kK 5 ⟨some 74, .move (.tmp 0), 144, "slices.go:178", #[], none⟩ ?_
 refine kK 6 ⟨some 75, .move (.tmp 1), 3, "slices.go:178", #[], none⟩ ?_
 refine kK 7 ⟨some 76, .slice 144 (.tmp 74) (some (.tmp 75)) none none, 144, "slices.go:178", #[⟨5, .data⟩, ⟨6, .data⟩], none⟩ ?_
 refine tR [8] ?_
 refine AllReadyH.cons (o := ⟨some 77, .call ⟨.builtin .copy, #[.tmp 73, .tmp 76], #[144, 144]⟩, 3, "slices.go:178", #[⟨4, .data⟩, ⟨7, .data⟩], none⟩) rfl (fun K hK => ?_) ?_
 ·refine step_copy_eq rfl _ _ 144 144 rfl _ _ rfl rfl (hcp1 _ _ _) ?_
  refine hK.out _ _ (trivial) (fun hHeld => ?_)
  clear hK K
  try simp only [Act.put, lA, lB, lC]
  refine wpAnyH_done (by kernel_rfl) ?_ _
  clear hHeld
  go_wp2_with (at_builtin; refine wpList_copy_eq _ rfl _ _ 144 144 rfl _ _ rfl rfl (hcp2 _ _) ?_)
  go_wp2
  go_ret
  exact ⟨_, _, rfl, HO.out, HG.out⟩
 exact AllReadyH.nil

set_option maxRecDepth 100000 in
set_option maxHeartbeats 4000000 in
theorem insert_grow (base g n cq : Nat) (ks : List FK) (i : Nat) (y : FK) (vb : Nat) (w : World) (hown : w.ownsRow base 149 3 (.slice (some ⟨g, 0, none⟩) n cq) n (fkF.all ks)) (hv : w.heap[vb]? = some (.cells #[.int .i64 y.1, .int .i64 y.2.1, .int .i64 y.2.2] 149)) (hbase : base ≤ w.heap.size) (hn : n ≤ 16777216) (hi : i < n) (hroom : cq < n + 1) :
  Calls Tryz.prog 162 #[.slice (some ⟨g, 0, none⟩) n cq, .int .i64 i, .slice (some ⟨vb, 0, none⟩) 1 1] w fun r w' => ∃ aq' cq', r = .returned (.slice aq' (n + 1) cq') ∧ w'.ownsRow base 149 3 (.slice aq' (n + 1) cq') (n + 1) (fkF.all (ks.take i ++ y :: ks.drop i)) ∧ w.grownBy w' (Value.slice (some ⟨g, 0, none⟩) n cq).ownBlock := by
 obtain ⟨i0, hi0, hz0, hz1, hz2⟩ := finfo_parts fkInfo
 have hk3 : fkF.k = 3 := rfl
 rw [hk3] at hz1
 have hlen := hown.1
 have hglt : g < w.heap.size := (hown.lt g rfl).2
 have hvlt : vb < w.heap.size := (Array.getElem?_eq_some_iff.1 hv).1
 have hcq : n ≤ cq := (grow_own (F := fkF) hown).le
 obtain ⟨NC, hNC⟩ : ∃ NC, NC = grownCap w (n + 1) cq 149 := ⟨_, rfl⟩
 have hge : n + 1 ≤ NC := by rw [hNC]; exact grownCap_ge w (n + 1) cq 149
 have hcm : NC ≤ maxLen := by rw [hNC]; exact grownCap_le_maxLen w (n + 1) cq 149 (by unfold maxLen; omega)
 have hla : ((fkF.all ks).take (i * 3)).length = i * 3 := by rw [List.length_take, hlen]; omega
 have hdl : ((fkF.all ks).drop (i * 3)).length = (n - i) * 3 := by rw [List.length_drop, hlen]; omega
 have holds : ∀ j v, ((fkF.all ks).take (i * 3))[j]? = some v → w.cell? ((⟨g, 0, none⟩ : Addr).add j) = some v := by
  intro j v hj
  have hjl := (List.getElem?_eq_some_iff.1 hj).1
  rw [hla] at hjl
  rw [List.getElem?_take_of_lt hjl] at hj
  rw [add_none, Nat.zero_add, hown.cellAt _ (by omega)]
  exact hj
 have hzi : ((n : Int) + 1 - (i : Int)) = ((n + 1 - i : Nat) : Int) := by omega
 obtain ⟨C0, hC0⟩ : ∃ C0 : Array Value, C0 = ((fkF.all ks).take (i * 3)).toArray ++ Builtin.zeroCells #[.int .i64 0, .int .i64 0, .int .i64 0] (n + 1 - i) ++ Builtin.zeroCells #[.int .i64 0, .int .i64 0, .int .i64 0] (grownCap w (n + 1) cq 149 - (n + 1)) := ⟨_, rfl⟩
 have hap : ∀ ty, (Builtin.append_ #[144, 3] ty #[.slice (some ⟨g, 0, none⟩) i cq, .int .i64 ((n : Int) + 1 - (i : Int))]).run Tryz.prog w = .ok (.slice (some ⟨w.heap.size, 0, none⟩) (n + 1) NC) (w.drew.alloc (.cells C0 149)) := fun ty => by
  have := run_append_zeros (P := Tryz.prog) w 144 3 ty 149 i0 (.agg #[.int .i64 0, .int .i64 0, .int .i64 0]) .i64 .i64 Tryz.underlying144 Tryz.underlying3 hi0 hz0 ⟨g, 0, none⟩ i cq ((fkF.all ks).take (i * 3)) (by rw [hz1]; exact hla) holds (n + 1 - i) (by omega) (by omega) (by omega) (by omega) (by rw [hz2]; omega)
  rw [show i + (n + 1 - i) = n + 1 by omega] at this
  rw [hzi, hC0, hNC]
  exact this
 have hC0s : C0.size = NC * 3 := by
  rw [hC0, ← hNC]
  simp only [Array.size_append, List.size_toArray, hla, size_zeroCells]
  simp
  omega
 have hC0l : C0.toList = (fkF.all ks).take (i * 3) ++ (Builtin.zeroCells #[.int .i64 0, .int .i64 0, .int .i64 0] (n + 1 - i) ++ Builtin.zeroCells #[.int .i64 0, .int .i64 0, .int .i64 0] (grownCap w (n + 1) cq 149 - (n + 1))).toList := by
  rw [hC0]
  simp
 obtain ⟨W0, hW0⟩ : ∃ W0, W0 = w.drew.alloc (.cells C0 149) := ⟨_, rfl⟩
 have hW0g : W0.heap[w.heap.size]? = some (.cells C0 149 (0, 0)) := by rw [hW0]; exact block_last w.drew _
 have hW0o : ∀ j, j < w.heap.size → W0.heap[j]? = w.heap[j]? := fun j hj => by rw [hW0]; exact (below_one w.drew (.cells C0 149)).block j hj
 have hmin1 : Nat.min (n - i) (n - i) = n - i := Nat.min_eq_right (Nat.le_refl _)
 have hmin2 : Nat.min 1 (n + 1 - i) = 1 := Nat.min_eq_left (by omega)
 have hcy : (fkF.cs y).length = 3 := rfl
 have hcp1 : ∀ ty dc, (Builtin.copy_ #[144, 144] ty #[.slice (some ⟨w.heap.size, i * 3, none⟩) (n + 1 - i) dc, .slice (some ⟨vb, 0, none⟩) 1 1]).run Tryz.prog W0 = .ok (goInt 1) (W0.setRow w.heap.size (spl C0.toList (i * 3) (fkF.cs y)).toArray) := fun ty dc => by
  have := run_copy_flat (P := Tryz.prog) W0 144 144 ty 149 w.heap.size (i * 3) (n + 1 - i) dc ⟨vb, 0, none⟩ 1 1 C0 149 (fkF.cs y) 3 Tryz.underlying144 fk_size hW0g (by rw [hmin2]; rfl) (fun j v hj => (fk_one (w := W0) (by rw [hW0o vb hvlt]; exact hv)).news j v (by rw [fkF.all_one]; exact hj)) (by rw [hC0s, hcy]; omega) (fkF.one y)
  rw [hmin2] at this
  exact this
 have hl1 : (spl C0.toList (i * 3) (fkF.cs y)).length = NC * 3 := by rw [spl_length (by rw [hcy]; simp [hC0s]; omega)]; simpa using hC0s
 obtain ⟨W1, hW1⟩ : ∃ W1, W1 = W0.setRow w.heap.size (spl C0.toList (i * 3) (fkF.cs y)).toArray := ⟨_, rfl⟩
 have hW1g : W1.heap[w.heap.size]? = some (.cells (spl C0.toList (i * 3) (fkF.cs y)).toArray 149 (0, 0)) := by rw [hW1]; exact setRow_heap W0 w.heap.size _ _ 149 _ hW0g
 have hW1o : ∀ j, j < w.heap.size → W1.heap[j]? = w.heap[j]? := fun j hj => by rw [hW1, setRow_other _ _ _ _ (by omega)]; exact hW0o j hj
 have hsrc1 : ∀ j v, ((fkF.all ks).drop (i * 3))[j]? = some v → W1.drew.cell? ((⟨g, i * 3, none⟩ : Addr).add j) = some v := by
  intro j v hj
  have hjl := (List.getElem?_eq_some_iff.1 hj).1
  rw [hdl] at hjl
  rw [List.getElem?_drop] at hj
  rw [add_none, World.cell?_of_block (w := w) (by exact hW1o g hglt), hown.cellAt _ (by omega)]
  exact hj
 have hcp2 : ∀ ty dc sc, (Builtin.copy_ #[144, 144] ty #[.slice (some ⟨w.heap.size, (i + 1) * 3, none⟩) (n - i) dc, .slice (some ⟨g, i * 3, none⟩) (n - i) sc]).run Tryz.prog W1.drew = .ok (goInt (n - i : Nat)) (W1.drew.setRow w.heap.size (spl (spl C0.toList (i * 3) (fkF.cs y)) ((i + 1) * 3) ((fkF.all ks).drop (i * 3))).toArray) := fun ty dc sc => by
  have := run_copy_flat (P := Tryz.prog) W1.drew 144 144 ty 149 w.heap.size ((i + 1) * 3) (n - i) dc ⟨g, i * 3, none⟩ (n - i) sc _ 149 ((fkF.all ks).drop (i * 3)) 3 Tryz.underlying144 fk_size hW1g (by rw [hdl, hmin1]) hsrc1 (by rw [hdl]; simp only [List.size_toArray, hl1]; omega) (fun v hv => fkF.all_oneCell ks v (List.mem_of_mem_drop hv))
  rw [hmin1] at this
  exact this
 have hl2 : (spl (spl C0.toList (i * 3) (fkF.cs y)) ((i + 1) * 3) ((fkF.all ks).drop (i * 3))).length = NC * 3 := by rw [spl_length (by rw [hl1, hdl]; omega)]; exact hl1
 have hend : (spl (spl C0.toList (i * 3) (fkF.cs y)) ((i + 1) * 3) ((fkF.all ks).drop (i * 3))).take ((n + 1) * 3) = fkF.all (ks.take i ++ y :: ks.drop i) := by
  rw [hC0l, show (i + 1) * 3 = i * 3 + 3 by omega, show (n + 1) * 3 = n * 3 + 3 by omega, spl_new (A := fkF.all ks) (C := fkF.cs y) (a := i * 3) (k := 3) (n := n * 3) rfl hlen (by omega), all_ins]
 obtain ⟨W2, hW2⟩ : ∃ W2, W2 = W1.drew.setRow w.heap.size (spl (spl C0.toList (i * 3) (fkF.cs y)) ((i + 1) * 3) ((fkF.all ks).drop (i * 3))).toArray := ⟨_, rfl⟩
 have HO : Hid (W2.ownsRow base 149 3 (.slice (some ⟨w.heap.size, 0, none⟩) (n + 1) NC) (n + 1) (fkF.all (ks.take i ++ y :: ks.drop i))) := by
  refine ⟨?_, .inr ⟨w.heap.size, NC, _, rfl, hbase, by rw [hW2]; exact setRow_heap W1.drew w.heap.size _ _ 149 _ hW1g, hge, hcm, by simpa using hl2, by simpa using hend⟩⟩
  rw [fkF.all_length]
  have h1 : ks.length = n := (grow_own (F := fkF) hown).size
  rw [hk3]; simp; omega
 have HG : Hid (w.grownBy W2 (some g)) := by
  refine ⟨?_, ?_, ?_, ?_, ?_⟩
  ·rw [hW2, hW1, hW0]; rfl
  ·rw [hW2, hW1, hW0]; rfl
  ·rw [hW2, hW1, hW0]; rfl
  ·rw [hW2, hW1, hW0]; simp [World.setRow]
  ·intro k hk hkg
   rw [hW2, setRow_other _ _ _ _ (by omega)]
   exact hW1o k hk
 rw [← hW0] at hap
 rw [← hW1] at hcp1
 rw [← hW2] at hcp2
 have hi1 : (i : Int) < (n : Int) := by omega
 have hw1 : IntKind.i64.wrap ((i : Int) + 1) = ((i + 1 : Nat) : Int) := by rw [IntKind.wrap_i64]; omega
 have hx1 : (0 : Int) ≤ (i : Int) + 1 := by omega
 have hx2 : i ≤ n := by omega
 have hx3 : (i : Int) ≤ (n : Int) + 1 := by omega
 have hx4 : (cq : Int) < (n : Int) + 1 := by omega
 have hcm2 : NC ≤ 9223372036854775807 := by unfold maxLen at hcm; exact hcm
 have hb2 : ¬ (NC = i + 1) := by omega
 have hb3 : ¬ (NC = i) := by omega
 have hb4 : ¬ (cq = i) := by omega
 clear hmin1 hmin2 hl1 hl2 hend hW1 hW1g hW1o hW2 hW0 hW0g hW0o hsrc1 hdl hla holds hC0 hC0l hC0s hown hlen hcm hzi hi0 hz0 hz1 hz2 hNC hcy hk3 hbase
 go_enter Tryz.func162, Tryz.ntmps162
 go_wp2_with (at_builtin; refine Lib.wpList_append_run _ rfl _ _ _ _ rfl _ _ rfl rfl _ _ (hap _) ?_)
 go_wp2_with (at_builtin; refine wpList_copy_eq _ rfl _ _ 144 144 rfl _ _ rfl rfl (hcp1 _ _) ?_)
 refine wp_region_held_drew (S := (fun _ => True)) (by kernel_rfl) (trivial) (fun hHeld => ?_)
 refine kK 0 ⟨some 46, .move (.tmp 9), 144, "slices.go:154", #[], none⟩ ?_
 refine kK 1 ⟨some 47, .move (.tmp 1), 3, "slices.go:154", #[], none⟩ ?_
 refine kK 2 ⟨some 48, .move (.tmp 7), 3, "slices.go:154", #[], none⟩ ?_
 refine kK 3 ⟨some 49, .binOp .add 3 (.tmp 47) (.tmp 48) 3, 3, "slices.go:154", #[⟨1, .data⟩, ⟨2, .data⟩], none⟩ ?_
 refine kK 4 ⟨some 50, .slice 144 (.tmp 46) (some (.tmp 49)) none none, 144, "slices.go:154", #[⟨0, .data⟩, ⟨3, .data⟩], none⟩ ?_
 refine kK 5 ⟨some 51, .move (.tmp 0), 144, "slices.go:154", #[], none⟩ ?_
 refine kK 6 ⟨some 52, .move (.tmp 1), 3, "slices.go:154", #[], none⟩ ?_
 refine kK 7 ⟨some 53, .slice 144 (.tmp 51) (some (.tmp 52)) none none, 144, "slices.go:154", #[⟨5, .data⟩, ⟨6, .data⟩], none⟩ ?_
 refine tR [8] ?_
 refine AllReadyH.cons (o := ⟨some 54, .call ⟨.builtin .copy, #[.tmp 50, .tmp 53], #[144, 144]⟩, 3, "slices.go:154", #[⟨4, .data⟩, ⟨7, .data⟩], none⟩) rfl (fun K hK => ?_) ?_
 ·refine step_copy_eq rfl _ _ 144 144 rfl _ _ rfl rfl (hcp2 _ _ _) ?_
  refine hK.out _ _ (trivial) (fun hHeld => ?_)
  clear hK K
  try simp only [Act.put, lA, lB, lC]
  refine wpAnyH_done (by kernel_rfl) ?_ _
  clear hHeld
  go_wp2
  go_ret
  exact ⟨_, _, rfl, HO.out, HG.out⟩
 exact AllReadyH.nil

theorem insert_any (base : Nat) (aq : Option Addr) (n cq : Nat) (ks : List FK) (i : Nat) (y : FK) (vb : Nat) (w : World) (hown : w.ownsRow base 149 3 (.slice aq n cq) n (fkF.all ks)) (hv : w.heap[vb]? = some (.cells #[.int .i64 y.1, .int .i64 y.2.1, .int .i64 y.2.2] 149)) (hne : ∀ b, (Value.slice aq n cq).ownBlock = some b → b ≠ vb) (hn : n ≤ 16777216) (hbase : base ≤ w.heap.size) (hi : i ≤ n) :
  Calls Tryz.prog 162 #[.slice aq n cq, .int .i64 i, .slice (some ⟨vb, 0, none⟩) 1 1] w fun r w' => ∃ aq' cq', r = .returned (.slice aq' (n + 1) cq') ∧ w'.ownsRow base 149 3 (.slice aq' (n + 1) cq') (n + 1) (fkF.all (ks.take i ++ y :: ks.drop i)) ∧ w.grownBy w' (Value.slice aq n cq).ownBlock := by
 by_cases he : i = n
 ·exact insert_end base aq n cq ks i y vb w hown hv hn hbase he
 ·have hlt : i < n := by omega
  rcases hown.2 with ⟨e, h0⟩ | ⟨g, cap', cur, e, -⟩
  ·omega
  ·cases e
   by_cases hr : n + 1 ≤ cq
   ·exact insert_room base g n cq ks i y vb w hown hv (fun e => hne g rfl e.symm) hn hlt hr
   ·exact insert_grow base g n cq ks i y vb w hown hv hbase hn hlt (by omega)

end Go.Proofs.YtddalpglihhipaaGreat
