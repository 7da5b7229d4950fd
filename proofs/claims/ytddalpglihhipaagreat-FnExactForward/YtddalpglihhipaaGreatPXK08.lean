/-
  Packed: FdbKeys FlatCopy FdbEnt VtabOpen PtOpen BrOpen.
-/
import Derived.Test.YtddalpglihhipaaGreatPXK01
import Derived.Test.YtddalpglihhipaaGreatPXK02
import Derived.Test.YtddalpglihhipaaGreatPXK03
import Derived.Test.YtddalpglihhipaaGreatPXK04
import Derived.Test.YtddalpglihhipaaGreatPXK07
import Derived.Laws.CopyRow
import Derived.Lib.AppendZeros
import Derived.Lib.Overlaps
import Derived.WalkKit
import Derived.ProofKit
import Derived.OpenShut
import Derived.ShutString
import Derived.ChangeOld
import Derived.Below
import Derived.Lib.SmallJoins
namespace Go.Proofs.YtddalpglihhipaaGreat
open Go.RowKit

abbrev FK := Int × Int × Int

def cnt (l : List FE) (t m : Int) : Int := ((l.filter (fun e => both e t m)).length : Int)

theorem cnt_nil (t m : Int) : cnt [] t m = 0 := rfl
theorem cnt_append (a b : List FE) (t m : Int) : cnt (a ++ b) t m = cnt a t m + cnt b t m := by simp [cnt]
theorem cnt_one (x : FE) (t m : Int) : cnt [x] t m = if both x t m = true then 1 else 0 := by
 unfold cnt
 cases h : both x t m <;> simp [h]
theorem cnt_self (x : FE) : cnt [x] x.t x.m = 1 := by rw [cnt_one, if_pos (both_iff.2 ⟨rfl, rfl⟩)]
theorem cnt_pos (l : List FE) (t m : Int) : 0 ≤ cnt l t m := by unfold cnt; omega
theorem cnt_le (l : List FE) (t m : Int) : cnt l t m ≤ l.length := by
 unfold cnt
 have := List.length_filter_le (fun e => both e t m) l
 omega

def keyIn (pre : List FE) (x : FE) : FK := (x.t, x.m, cnt pre x.t x.m)

def keysGo : List FE → List FE → List FK
 | _, [] => []
 | pre, x :: r => keyIn pre x :: keysGo (pre ++ [x]) r

def entsGo (g : FK → Option FE) : List FE → List FE → FK → Option FE
 | _, [] => g
 | pre, x :: r => entsGo (upd g (keyIn pre x) (some x)) (pre ++ [x]) r

def keysOf (l : List FE) : List FK := keysGo [] l
def entsOf (l : List FE) : FK → Option FE := entsGo (fun _ => none) [] l

theorem keysGo_snoc (x : FE) : ∀ (l pre : List FE), keysGo pre (l ++ [x]) = keysGo pre l ++ [keyIn (pre ++ l) x]
 | [], pre => by simp [keysGo]
 | y :: l, pre => by
  rw [List.cons_append, keysGo, keysGo_snoc x l (pre ++ [y]), keysGo, List.cons_append, List.append_assoc]
  rfl

theorem entsGo_snoc (x : FE) : ∀ (l pre : List FE) (g : FK → Option FE), entsGo g pre (l ++ [x]) = upd (entsGo g pre l) (keyIn (pre ++ l) x) (some x)
 | [], pre, g => by simp [entsGo]
 | y :: l, pre, g => by
  rw [List.cons_append, entsGo, entsGo_snoc x l (pre ++ [y]), entsGo, List.append_assoc]
  rfl

theorem keys_snoc (l : List FE) (x : FE) : keysOf (l ++ [x]) = keysOf l ++ [keyIn l x] := by
 unfold keysOf
 rw [keysGo_snoc, List.nil_append]
theorem ents_snoc (l : List FE) (x : FE) : entsOf (l ++ [x]) = upd (entsOf l) (keyIn l x) (some x) := by
 unfold entsOf
 rw [entsGo_snoc, List.nil_append]

theorem keysGo_length : ∀ (l pre : List FE), (keysGo pre l).length = l.length
 | [], _ => rfl
 | x :: r, pre => by rw [keysGo, List.length_cons, keysGo_length r, List.length_cons]
theorem keys_length (l : List FE) : (keysOf l).length = l.length := keysGo_length l []

theorem keysGo_least : ∀ (l pre : List FE) (k : FK), k ∈ keysGo pre l → cnt pre k.1 k.2.1 ≤ k.2.2
 | [], _, _, h => by cases h
 | x :: r, pre, k, h => by
  rw [keysGo] at h
  rcases List.mem_cons.1 h with rfl | h
  ·exact Int.le_refl _
  ·have := keysGo_least r (pre ++ [x]) k h
   rw [cnt_append] at this
   have := cnt_pos [x] k.1 k.2.1
   omega

theorem keysGo_new (l pre : List FE) (x : FE) : keyIn pre x ∉ keysGo (pre ++ [x]) l := by
 intro h
 have := keysGo_least _ _ _ h
 unfold keyIn at this
 simp only at this
 rw [cnt_append, cnt_self] at this
 omega

theorem keysGo_nodup : ∀ (l pre : List FE), (keysGo pre l).Nodup
 | [], _ => List.nodup_nil
 | x :: r, pre => by
  rw [keysGo]
  exact List.nodup_cons.2 ⟨keysGo_new r pre x, keysGo_nodup r _⟩
theorem keys_nodup (l : List FE) : (keysOf l).Nodup := keysGo_nodup l []

theorem entsGo_other : ∀ (l pre : List FE) (g : FK → Option FE) (k : FK), k ∉ keysGo pre l → entsGo g pre l k = g k
 | [], _, _, _, _ => rfl
 | x :: r, pre, g, k, h => by
  rw [keysGo] at h
  have h1 : k ≠ keyIn pre x := fun e => h (by rw [e]; exact List.mem_cons_self)
  rw [entsGo, entsGo_other r (pre ++ [x]) _ k (fun hk => h (List.mem_cons_of_mem _ hk)), upd_other g _ h1]

theorem entsGo_map : ∀ (l pre : List FE) (g : FK → Option FE), (keysGo pre l).map (entsGo g pre l) = l.map some
 | [], _, _ => rfl
 | x :: r, pre, g => by
  rw [keysGo, entsGo, List.map_cons, List.map_cons, entsGo_map r (pre ++ [x])]
  rw [entsGo_other r (pre ++ [x]) _ _ (keysGo_new r pre x), upd_same]
theorem ents_map (l : List FE) : (keysOf l).map (entsOf l) = l.map some := entsGo_map l [] _

theorem ents_none (l : List FE) {k : FK} (h : k ∉ keysOf l) : entsOf l k = none := entsGo_other l [] _ k h

theorem out_bind {ks : List FK} {g : FK → Option FE} {l : List FE} (h : ks.map g = l.map some) (f : FE → Option FE) : ks.filterMap (fun k => (g k).bind f) = l.filterMap f := by
 induction ks generalizing l with
 | nil =>
  cases l with
  | nil => rfl
  | cons y r => simp at h
 | cons k r ih =>
  cases l with
  | nil => simp at h
  | cons y r' =>
   simp only [List.map_cons, List.cons.injEq] at h
   rw [List.filterMap_cons, List.filterMap_cons, h.1, ih h.2]
   rfl

theorem out_all {ks : List FK} {g : FK → Option FE} {l : List FE} (h : ks.map g = l.map some) : ks.filterMap g = l := by
 have := out_bind h some
 have e : (fun k => (g k).bind some) = g := by funext k; cases g k <;> rfl
 rw [e] at this
 rw [this]
 exact List.filterMap_some

def FKok (k : FK) : Prop := (-9223372036854775808 ≤ k.1 ∧ k.1 ≤ 9223372036854775807) ∧ (-9223372036854775808 ≤ k.2.1 ∧ k.2.1 ≤ 9223372036854775807) ∧ (-9223372036854775808 ≤ k.2.2 ∧ k.2.2 ≤ 9223372036854775807)

theorem key_ok {pre : List FE} {x : FE} (hx : x.Rng) (hp : pre.length ≤ 16777216) : FKok (keyIn pre x) := by
 have h1 := cnt_pos pre x.t x.m
 have h2 := cnt_le pre x.t x.m
 exact ⟨hx.1, hx.2.1, by unfold keyIn; simp only; omega⟩

theorem keysGo_ok : ∀ (l pre : List FE), (∀ x ∈ l, x.Rng) → pre.length + l.length ≤ 16777216 → ∀ k ∈ keysGo pre l, FKok k
 | [], _, _, _, _, h => by cases h
 | x :: r, pre, hR, hl, k, h => by
  rw [keysGo] at h
  simp only [List.length_cons] at hl
  rcases List.mem_cons.1 h with rfl | h
  ·exact key_ok (hR x (by simp)) (by omega)
  ·exact keysGo_ok r (pre ++ [x]) (fun y hy => hR y (List.mem_cons_of_mem _ hy)) (by simp; omega) k h
theorem keys_ok {l : List FE} (hR : ∀ x ∈ l, x.Rng) (hl : l.length ≤ 16777216) : ∀ k ∈ keysOf l, FKok k := keysGo_ok l [] hR (by simpa using hl)

def cntF (l : List FE) : FK → Option Int := fun k => if k.2.2 = 0 ∧ 0 < cnt l k.1 k.2.1 then some (cnt l k.1 k.2.1) else none

theorem cntF_nil : cntF [] = fun _ => none := by
 funext k
 unfold cntF
 rw [if_neg]
 rw [cnt_nil]
 omega

theorem cntF_get (l : List FE) (t m : Int) : (cntF l (t, m, 0)).getD 0 = cnt l t m := by
 unfold cntF
 have := cnt_pos l t m
 simp only
 split
 ·rfl
 ·rename_i h
  simp only [true_and] at h
  show (0 : Int) = _
  omega

theorem cntF_snoc (l : List FE) (x : FE) : cntF (l ++ [x]) = upd (cntF l) (x.t, x.m, 0) (some (cnt l x.t x.m + 1)) := by
 funext k
 obtain ⟨t, m, c⟩ := k
 by_cases e : ((t, m, c) : FK) = (x.t, x.m, 0)
 ·cases e
  rw [upd_same]
  unfold cntF
  simp only
  have := cnt_pos l x.t x.m
  rw [cnt_append, cnt_self, if_pos ⟨trivial, by omega⟩]
 ·rw [upd_other _ _ e]
  unfold cntF
  simp only
  rw [cnt_append, cnt_one]
  by_cases hc : c = 0
  ·have hb : both x t m = false := by
    rw [both_not]
    rintro ⟨rfl, rfl⟩
    exact e (by rw [hc])
   rw [hb]
   simp
  ·simp [hc]

theorem map_out {ks : List FK} {g g' : FK → Option FE} (h : ∀ k ∈ ks, g' k = g k) : ks.filterMap g' = ks.filterMap g := by
 induction ks with
 | nil => rfl
 | cons k r ih =>
  rw [List.filterMap_cons, List.filterMap_cons, h k (by simp), ih (fun x hx => h x (List.mem_cons_of_mem _ hx))]

theorem keys_at {l : List FE} {i : Nat} {k : FK} (hk : (keysOf l)[i]? = some k) : ∃ e, l[i]? = some e ∧ entsOf l k = some e := by
 have hm := ents_map l
 have h1 : ((keysOf l).map (entsOf l))[i]? = some (entsOf l k) := by rw [List.getElem?_map, hk]; rfl
 rw [hm, List.getElem?_map] at h1
 cases he : l[i]? with
 | none => rw [he] at h1; cases h1
 | some e =>
  rw [he] at h1
  simp at h1
  exact ⟨e, rfl, h1.symm⟩

theorem run_copy_flat {P : Program} (w : World) (dT sT ty elem : TypeId) (g o dLen dCap : Nat) (a : Addr) (sLen sCap : Nat) (cur : Array Value) (t : TypeId) (cs : List Value) (K : Nat)
  (hu : P.underlying dT = some (.slice elem)) (hs : (P.info? elem).map (·.size) = some K)
  (hg : w.heap[g]? = some (.cells cur t (0, 0))) (hn : cs.length = Nat.min sLen dLen * K)
  (hsrc : ∀ j v, cs[j]? = some v → w.cell? (a.add j) = some v) (hfit : o + cs.length ≤ cur.size) (h1 : ∀ v ∈ cs, v.oneCell' = true) :
  (Builtin.copy_ #[dT, sT] ty #[.slice (some ⟨g, o, none⟩) dLen dCap, .slice (some a) sLen sCap]).run P w =
   .ok (goInt (Nat.min sLen dLen)) (w.setRow g (cur.toList.take o ++ cs ++ cur.toList.drop (o + cs.length)).toArray) := by
 have hl := run_loadCells_list (P := P) w a cs hsrc
 have hst := run_storeCells_at P g o t cs 0 cur w hg (by simpa using hfit) h1
 cases hq : P.info? elem with
 | none => simp [hq] at hs
 | some i =>
  have hi : i.size = K := by simpa [hq] using hs
  simp [Builtin.copy_, run_underlying hu, Builtin.lenOf, Builtin.firstCells, sizeOf, typeInfo, hq, hi, ← hn, hl, hst]

theorem run_append_zeros {P : Program} (w : World) (t tn ty e : TypeId) (i : TypeInfo) (z : Value) (k kn : IntKind) (ht : P.underlying t = some (.slice e)) (htn : P.underlying tn = some (.int kn)) (hi : P.info? e = some i) (hz : i.zero = some z)
  (b : Addr) (sLen sCap : Nat) (olds : List Value) (hlo : olds.length = sLen * i.size) (holds : ∀ j v, olds[j]? = some v → w.cell? (b.add j) = some v)
  (n : Nat) (h0 : 0 < n) (hs : 0 < i.size) (hg : sCap < sLen + n) (h63 : ((sLen + n : Nat) : Int) ≤ 9223372036854775807) (h48 : (sLen + n) * i.bytes ≤ 140737488355328) :
  (Builtin.append_ #[t, tn] ty #[.slice (some b) sLen sCap, .int k n]).run P w =
   .ok (.slice (some ⟨w.heap.size, 0, none⟩) (sLen + n) (grownCap w (sLen + n) sCap e))
    (w.drew.alloc (.cells (olds.toArray ++ Builtin.zeroCells z.cells n ++ Builtin.zeroCells z.cells (grownCap w (sLen + n) sCap e - (sLen + n))) e)) := by
 have hn : ¬ (sLen + n ≤ sCap) := by omega
 have hw : IntKind.i64.wrap (n : Int) = n := by rw [IntKind.wrap_i64]; omega
 have h63' : ¬ (9223372036854775807 < ((sLen : Int) + (n : Int))) := by omega
 have h48' : ¬ (281474976710656 < Builtin.nextslicecap (sLen + n) sCap * i.bytes) := by
  have := growslice_fits (need := sLen + n) (old := sCap) (bytes := i.bytes) hg h48
  omega
 have h48i : ¬ (281474976710656 < (n : Int) * (i.bytes : Int)) := by
  rw [← Int.natCast_mul]
  have : n * i.bytes ≤ (sLen + n) * i.bytes := Nat.mul_le_mul_right _ (by omega)
  omega
 have hneg : ¬ ((n : Int) < 0) := by omega
 have hns : ¬ (n * i.size = 0) := Nat.mul_ne_zero (by omega) (by omega)
 have hfo := run_firstCells_some (P := P) w.drew i.size sLen b sLen sCap olds hlo (by simpa using holds)
 simp [Builtin.append_, run_underlying ht, run_underlying htn, sizeOf, typeInfo, zeroValue, hi, hz, asInt, asIntOf, hw, hn, hneg, hns, h63', h48', h48i, Question.forced, hfo, newRow, grownCap]

theorem wp_copy_eq {P : Program} (w : World) {o : Oper} {a : Act} {K : Act → World → Prop} {Q : Exit → Act → World → Prop} (d s : Operand) (t t' : TypeId)
  (ho : o.op = .call { callee := .builtin .copy, args := #[d, s], argTypes := #[t, t'] }) (v u : Value) (hd : a.eval d = v) (hs : a.eval s = u) {v' : Value} {w' : World}
  (hr : (Builtin.copy_ #[t, t'] o.type #[v, u]).run P w = .ok v' w') (h : K (a.put o.dst v') w') : o.wp P a w K Q := by
 unfold Oper.wp execOp
 simp only [ho, resolve, invoke, builtin, Sem.run_bind, Sem.run_pure, Result.andThen_ok, List.map_toArray, List.map_cons, List.map_nil, hd, hs, hr]
 exact h

theorem wpList_copy_eq {P : Program} (w : World) {ops : Array Oper} {rest : List Oper} {o : Oper} {a : Act} {Q : Exit → Act → World → Prop} (hgd : o.guard = none) (d s : Operand) (t t' : TypeId)
  (ho : o.op = .call { callee := .builtin .copy, args := #[d, s], argTypes := #[t, t'] }) (v u : Value) (hd : a.eval d = v) (hs : a.eval s = u) {v' : Value} {w' : World}
  (hr : (Builtin.copy_ #[t, t'] o.type #[v, u]).run P w = .ok v' w') (h : wpList P ops Q rest (a.put o.dst v') w') : wpList P ops Q (o :: rest) a w :=
 wpList_plain hgd fun _ hK => wp_copy_eq w d s t t' ho v u hd hs hr (hK _ _ h)

theorem step_copy_eq {P : Program} {ops : Array Oper} {o : Oper} {a : Act} {w : World} {K : Act → World → Prop} {Q : Exit → Act → World → Prop} {E : Prop}
  (hg : o.guard = none) (d x : Operand) (dT sT : TypeId) (hop : o.op = Op.call { callee := Callee.builtin Builtin.copy, args := #[d, x], argTypes := #[dT, sT] })
  (v u : Value) (hd : a.eval d = v) (hx : a.eval x = u) {v' : Value} {w' : World} (hr : (Builtin.copy_ #[dT, sT] o.type #[v, u]).run P w = .ok v' w') (hK : K (a.put o.dst v') w') :
  if Region.wanted o (yielded ops a.tmps) = true then Oper.wp P o a w K Q else E := by
 have hw : Region.wanted o (yielded ops a.tmps) = true := by simp [Region.wanted, hg]
 rw [if_pos hw]
 unfold Oper.wp
 simp [execOp, hop, resolve, invoke, builtin, hd, hx, hr, Result.andThen]
 exact hK

def spl (L : List Value) (o : Nat) (cs : List Value) : List Value := L.take o ++ cs ++ L.drop (o + cs.length)

theorem spl_length {L : List Value} {o : Nat} {cs : List Value} (h : o + cs.length ≤ L.length) : (spl L o cs).length = L.length := by
 unfold spl
 simp
 omega

theorem spl_shift {cur A C : List Value} {a k n : Nat} (hC : C.length = k) (hA : A.length = n) (ha : a ≤ n) (hcur : n + k ≤ cur.length) (ht : cur.take n = A) :
  (spl (spl cur (a + k) (A.drop a)) a C).take (n + k) = A.take a ++ C ++ A.drop a := by
 have hd : (A.drop a).length = n - a := by rw [List.length_drop, hA]
 have hl1 : (cur.take (a + k)).length = a + k := by rw [List.length_take]; omega
 have h1 : (spl cur (a + k) (A.drop a)).take a = A.take a := by
  unfold spl
  rw [List.append_assoc, List.take_append_of_le_length (by omega), List.take_take, Nat.min_eq_left (by omega), ← ht, List.take_take, Nat.min_eq_left ha]
 have h2 : (spl cur (a + k) (A.drop a)).drop (a + k) = A.drop a ++ cur.drop (a + k + (A.drop a).length) := by
  unfold spl
  rw [List.append_assoc, List.drop_append_of_le_length (by omega), List.drop_eq_nil_of_le (by omega), List.nil_append]
 have h3 : spl (spl cur (a + k) (A.drop a)) a C = A.take a ++ C ++ A.drop a ++ cur.drop (a + k + (A.drop a).length) := by
  show (spl cur (a + k) (A.drop a)).take a ++ C ++ (spl cur (a + k) (A.drop a)).drop (a + C.length) = _
  rw [h1, hC, h2]
  simp
 rw [h3, List.take_append_of_le_length (by simp; omega), List.take_of_length_le (by simp; omega)]

theorem spl_new {Z A C : List Value} {a k n : Nat} (hC : C.length = k) (hA : A.length = n) (ha : a ≤ n) :
  (spl (spl (A.take a ++ Z) a C) (a + k) (A.drop a)).take (n + k) = A.take a ++ C ++ A.drop a := by
 have hd : (A.drop a).length = n - a := by rw [List.length_drop, hA]
 have hta : (A.take a).length = a := by rw [List.length_take]; omega
 have h1 : spl (A.take a ++ Z) a C = A.take a ++ C ++ Z.drop k := by
  unfold spl
  rw [List.take_append_of_le_length (by omega), List.take_of_length_le (by omega), hC, List.drop_append, hta]
  rw [List.drop_eq_nil_of_le (by omega), List.nil_append, Nat.add_sub_cancel_left]
 have h2 : spl (A.take a ++ C ++ Z.drop k) (a + k) (A.drop a) = A.take a ++ C ++ A.drop a ++ (A.take a ++ C ++ Z.drop k).drop (a + k + (A.drop a).length) := by
  show (A.take a ++ C ++ Z.drop k).take (a + k) ++ _ ++ _ = _
  rw [List.take_append_of_le_length (by simp; omega), List.take_of_length_le (by simp; omega)]
 rw [h1, h2, List.take_append_of_le_length (by simp; omega), List.take_of_length_le (by simp; omega)]

theorem ent_rng {e : FE} (h : entOk e = true) : e.Rng := by
 rw [entOk_iff] at h
 exact ⟨by omega, by omega, by omega, by omega⟩

section
open Go.RowKit

section
open Go.ChangeShapes Go.WideShapes Go.ChangeAt
variable {H : Type} {enc : TypeId × Value → H} {P : Program} {w : World}

theorem wf_64 {n : Int} (h : (Lit.int .i64 n).wf = true) : I64 n := by
 unfold I64
 simp [Lit.wf, IntKind.min, IntKind.max, IntKind.bits, IntKind.signed] at h
 omega

theorem vrow_trod {tp ti : TypeId} {g0 g1 g2 : Field} (hs : P.underlying tp = some (.struct #[g0, g1, g2])) (hi : P.underlying ti = some (.int .i64))
  (e0 : g0.type = ti ∧ g0.offset = 0) (e1 : g1.type = ti ∧ g1.offset = 1) (e2 : g2.type = ti ∧ g2.offset = 2) (hC : P.cellsOf tp = 3) (hti : P.cellsOf ti = 1)
  {fuel : Nat} {cs : List Value} {x : DataW H × List MemPlace} (h : DataW.trod enc P w 0 (fun _ => true) true fuel tp cs = some x) : ∃ y, cs = vrowF.cs y ∧ y.Rng := by
 obtain ⟨xs, n, _, _, hlen, hxl, hq⟩ := DataW.trod_struct hs h
 rw [hC] at hlen
 match xs, hxl, cs, hlen with
 | [y0, y1, y2], _, [v0, v1, v2], _ =>
  have k0 := hq 0 g0 rfl
  have k1 := hq 1 g1 rfl
  have k2 := hq 2 g2 rfl
  rw [e0.1, e0.2, hti] at k0
  rw [e1.1, e1.2, hti] at k1
  rw [e2.1, e2.2, hti] at k2
  simp at k0 k1 k2
  obtain ⟨T, i0, -, r0⟩ := DataW.trod_int hi k0
  obtain ⟨M, i1, -, r1⟩ := DataW.trod_int hi k1
  obtain ⟨B, i2, -, r2⟩ := DataW.trod_int hi k2
  simp only [List.cons.injEq, and_true] at i0 i1 i2
  subst i0 i1 i2
  exact ⟨⟨T, M, B⟩, rfl, wf_64 r0, wf_64 r1, wf_64 r2⟩

end

end

section
open Go.RowKit

def PT.Rng (x : PT) : Prop := I64 x.k ∧ I64 x.v.r ∧ I64 x.v.c ∧ I64 x.v.h ∧ I64 x.v.b ∧ I64 x.v.p

section
open Go.ChangeShapes Go.WideShapes Go.ChangeAt
variable {H : Type} {enc : TypeId × Value → H} {P : Program} {w : World}

theorem vec_trod {tp ti : TypeId} {g0 g1 g2 g3 g4 : Field} (hs : P.underlying tp = some (.struct #[g0, g1, g2, g3, g4])) (hi : P.underlying ti = some (.int .i64))
  (e0 : g0.type = ti ∧ g0.offset = 0) (e1 : g1.type = ti ∧ g1.offset = 1) (e2 : g2.type = ti ∧ g2.offset = 2) (e3 : g3.type = ti ∧ g3.offset = 3) (e4 : g4.type = ti ∧ g4.offset = 4) (hC : P.cellsOf tp = 5) (hti : P.cellsOf ti = 1)
  {fuel : Nat} {cs : List Value} {x : DataW H × List MemPlace} (h : DataW.trod enc P w 0 (fun _ => true) true fuel tp cs = some x) : ∃ y : VD, cs = [.int .i64 y.r, .int .i64 y.c, .int .i64 y.h, .int .i64 y.b, .int .i64 y.p] ∧ I64 y.r ∧ I64 y.c ∧ I64 y.h ∧ I64 y.b ∧ I64 y.p := by
 obtain ⟨xs, n, _, _, hlen, hxl, hq⟩ := DataW.trod_struct hs h
 rw [hC] at hlen
 match xs, hxl, cs, hlen with
 | [y0, y1, y2, y3, y4], _, [v0, v1, v2, v3, v4], _ =>
  have k0 := hq 0 g0 rfl
  have k1 := hq 1 g1 rfl
  have k2 := hq 2 g2 rfl
  have k3 := hq 3 g3 rfl
  have k4 := hq 4 g4 rfl
  rw [e0.1, e0.2, hti] at k0
  rw [e1.1, e1.2, hti] at k1
  rw [e2.1, e2.2, hti] at k2
  rw [e3.1, e3.2, hti] at k3
  rw [e4.1, e4.2, hti] at k4
  simp at k0 k1 k2 k3 k4
  obtain ⟨A, i0, -, r0⟩ := DataW.trod_int hi k0
  obtain ⟨B, i1, -, r1⟩ := DataW.trod_int hi k1
  obtain ⟨C, i2, -, r2⟩ := DataW.trod_int hi k2
  obtain ⟨D, i3, -, r3⟩ := DataW.trod_int hi k3
  obtain ⟨E, i4, -, r4⟩ := DataW.trod_int hi k4
  simp only [List.cons.injEq, and_true] at i0 i1 i2 i3 i4
  subst i0 i1 i2 i3 i4
  exact ⟨⟨A, B, C, D, E⟩, rfl, wf_64 r0, wf_64 r1, wf_64 r2, wf_64 r3, wf_64 r4⟩

theorem pt_trod {tp tv ti tb : TypeId} {f0 f1 f2 f3 g0 g1 g2 g3 g4 : Field} (hp : P.underlying tp = some (.struct #[f0, f1, f2, f3])) (hs : P.underlying tv = some (.struct #[g0, g1, g2, g3, g4])) (hi : P.underlying ti = some (.int .i64)) (hb : P.underlying tb = some .bool)
  (e0 : g0.type = ti ∧ g0.offset = 0) (e1 : g1.type = ti ∧ g1.offset = 1) (e2 : g2.type = ti ∧ g2.offset = 2) (e3 : g3.type = ti ∧ g3.offset = 3) (e4 : g4.type = ti ∧ g4.offset = 4)
  (d0 : f0.type = tb ∧ f0.offset = 0) (d1 : f1.type = ti ∧ f1.offset = 1) (d2 : f2.type = tb ∧ f2.offset = 2) (d3 : f3.type = tv ∧ f3.offset = 3)
  (hC : P.cellsOf tp = 8) (hCv : P.cellsOf tv = 5) (hti : P.cellsOf ti = 1) (htb : P.cellsOf tb = 1)
  {fuel : Nat} {cs : List Value} {x : DataW H × List MemPlace} (h : DataW.trod enc P w 0 (fun _ => true) true fuel tp cs = some x) : ∃ y, cs = ptF.cs y ∧ y.Rng := by
 obtain ⟨xs, n, _, _, hlen, hxl, hq⟩ := DataW.trod_struct hp h
 rw [hC] at hlen
 match xs, hxl, cs, hlen with
 | [y0, y1, y2, y3], _, [v0, v1, v2, v3, v4, v5, v6, v7], _ =>
  have k0 := hq 0 f0 rfl
  have k1 := hq 1 f1 rfl
  have k2 := hq 2 f2 rfl
  have k3 := hq 3 f3 rfl
  rw [d0.1, d0.2, htb] at k0
  rw [d1.1, d1.2, hti] at k1
  rw [d2.1, d2.2, htb] at k2
  rw [d3.1, d3.2, hCv] at k3
  simp at k0 k1 k2 k3
  obtain ⟨U, i0, -⟩ := DataW.trod_bool hb k0
  obtain ⟨K, i1, -, r1⟩ := DataW.trod_int hi k1
  obtain ⟨A, i2, -⟩ := DataW.trod_bool hb k2
  obtain ⟨V, i3, s0, s1, s2, s3, s4⟩ := vec_trod hs hi e0 e1 e2 e3 e4 hCv hti k3
  simp only [List.cons.injEq, and_true] at i0 i1 i2 i3
  obtain ⟨j0, j1, j2, j3, j4⟩ := i3
  subst i0 i1 i2 j0 j1 j2 j3 j4
  exact ⟨⟨U, K, A, V⟩, rfl, wf_64 r1, s0, s1, s2, s3, s4⟩

theorem open_pts {ts tp tv ti tb : TypeId} {f0 f1 f2 f3 g0 g1 g2 g3 g4 : Field} (hts : P.underlying ts = some (.slice tp)) (hp : P.underlying tp = some (.struct #[f0, f1, f2, f3])) (hs : P.underlying tv = some (.struct #[g0, g1, g2, g3, g4])) (hi : P.underlying ti = some (.int .i64)) (hb : P.underlying tb = some .bool)
  (e0 : g0.type = ti ∧ g0.offset = 0) (e1 : g1.type = ti ∧ g1.offset = 1) (e2 : g2.type = ti ∧ g2.offset = 2) (e3 : g3.type = ti ∧ g3.offset = 3) (e4 : g4.type = ti ∧ g4.offset = 4)
  (d0 : f0.type = tb ∧ f0.offset = 0) (d1 : f1.type = ti ∧ f1.offset = 1) (d2 : f2.type = tb ∧ f2.offset = 2) (d3 : f3.type = tv ∧ f3.offset = 3)
  (hC : P.cellsOf tp = 8) (hCv : P.cellsOf tv = 5) (hti : P.cellsOf ti = 1) (htb : P.cellsOf tb = 1)
  {fuel : Nat} {v : Value} {x : DataW H × List MemPlace} (h : DataW.trod enc P w 0 (fun _ => true) true fuel ts [v] = some x) :
  ∃ a n c l, v = .slice a n c ∧ GRow ptF w a n c l ∧ ∀ x ∈ l, x.Rng :=
 open_flat ⟨false, 0, false, ⟨0, 0, 0, 0, 0⟩⟩ ptF PT.Rng hts hC (fun h => pt_trod hp hs hi hb e0 e1 e2 e3 e4 d0 d1 d2 d3 hC hCv hti htb h) h
end

end

section
open Go.RowKit

structure BR.Rng (b : BR) : Prop where
 id : I64 b.id
 name : b.name.size ≤ maxLen
 ports : ∀ x ∈ b.ports, x.Rng
 f : ∀ x ∈ b.f, x.Rng
 v : ∀ x ∈ b.v.rows, x.Rng
 ticks : I64 b.ticks
 parse : I64 b.parse
 word : I64 b.word
 drops : I64 b.drops
 vers : I64 b.vers

structure BrTypes (P : Program) (tB ts tpS tp tv tfS tf tV trS tr tiS ti tb : TypeId) (f0 f1 f2 f3 f4 f5 f6 f7 f8 f9 p0 p1 p2 p3 v0 v1 v2 v3 v4 e0 e1 e2 e3 e4 t0 t1 r0 r1 r2 : Field) : Prop where
 uB : P.underlying tB = some (.struct #[f0, f1, f2, f3, f4, f5, f6, f7, f8, f9])
 us : P.underlying ts = some .string
 upS : P.underlying tpS = some (.slice tp)
 up : P.underlying tp = some (.struct #[p0, p1, p2, p3])
 uv : P.underlying tv = some (.struct #[v0, v1, v2, v3, v4])
 ufS : P.underlying tfS = some (.slice tf)
 uf : P.underlying tf = some (.struct #[e0, e1, e2, e3, e4])
 uV : P.underlying tV = some (.struct #[t0, t1])
 urS : P.underlying trS = some (.slice tr)
 ur : P.underlying tr = some (.struct #[r0, r1, r2])
 uiS : P.underlying tiS = some (.slice ti)
 ui : P.underlying ti = some (.int .i64)
 ub : P.underlying tb = some .bool
 f0 : f0.type = ti ∧ f0.offset = 0
 f1 : f1.type = ts ∧ f1.offset = 1
 f2 : f2.type = tpS ∧ f2.offset = 2
 f3 : f3.type = tfS ∧ f3.offset = 3
 f4 : f4.type = tV ∧ f4.offset = 4
 f5 : f5.type = ti ∧ f5.offset = 6
 f6 : f6.type = ti ∧ f6.offset = 7
 f7 : f7.type = ti ∧ f7.offset = 8
 f8 : f8.type = ti ∧ f8.offset = 9
 f9 : f9.type = ti ∧ f9.offset = 10
 p0 : p0.type = tb ∧ p0.offset = 0
 p1 : p1.type = ti ∧ p1.offset = 1
 p2 : p2.type = tb ∧ p2.offset = 2
 p3 : p3.type = tv ∧ p3.offset = 3
 v0 : v0.type = ti ∧ v0.offset = 0
 v1 : v1.type = ti ∧ v1.offset = 1
 v2 : v2.type = ti ∧ v2.offset = 2
 v3 : v3.type = ti ∧ v3.offset = 3
 v4 : v4.type = ti ∧ v4.offset = 4
 e0 : e0.type = ti ∧ e0.offset = 0
 e1 : e1.type = ti ∧ e1.offset = 1
 e2 : e2.type = ti ∧ e2.offset = 2
 e3 : e3.type = ti ∧ e3.offset = 3
 e4 : e4.type = tb ∧ e4.offset = 4
 t0 : t0.type = trS ∧ t0.offset = 0
 t1 : t1.type = tiS ∧ t1.offset = 1
 r0 : r0.type = ti ∧ r0.offset = 0
 r1 : r1.type = ti ∧ r1.offset = 1
 r2 : r2.type = ti ∧ r2.offset = 2
 cB : P.cellsOf tB = 11
 cs : P.cellsOf ts = 1
 cpS : P.cellsOf tpS = 1
 cp : P.cellsOf tp = 8
 cv : P.cellsOf tv = 5
 cfS : P.cellsOf tfS = 1
 cf : P.cellsOf tf = 5
 cV : P.cellsOf tV = 2
 crS : P.cellsOf trS = 1
 cr : P.cellsOf tr = 3
 ciS : P.cellsOf tiS = 1
 ci : P.cellsOf ti = 1
 cb : P.cellsOf tb = 1

section
open Go.ChangeShapes Go.WideShapes Go.ChangeAt
variable {H : Type} {enc : TypeId × Value → H} {P : Program} {w : World}

theorem vtab_trod {tp ts tb tis ti : TypeId} {f0 f1 g0 g1 g2 : Field} (hs : P.underlying tp = some (.struct #[f0, f1])) (hC : P.cellsOf tp = 2) (ef0 : f0.type = ts ∧ f0.offset = 0) (ef1 : f1.type = tis ∧ f1.offset = 1) (cts : P.cellsOf ts = 1) (ctis : P.cellsOf tis = 1)
  (hts : P.underlying ts = some (.slice tb)) (htis : P.underlying tis = some (.slice ti)) (htb : P.underlying tb = some (.struct #[g0, g1, g2])) (hi : P.underlying ti = some (.int .i64))
  (e0 : g0.type = ti ∧ g0.offset = 0) (e1 : g1.type = ti ∧ g1.offset = 1) (e2 : g2.type = ti ∧ g2.offset = 2) (hCb : P.cellsOf tb = 3) (hti : P.cellsOf ti = 1)
  {fuel : Nat} {cs : List Value} {x : DataW H × List MemPlace} (h : DataW.trod enc P w 0 (fun _ => true) true fuel tp cs = some x) :
  ∃ a n c o p q t, cs = [.slice a n c, .slice o p q] ∧ VTab w a n c o p q t ∧ ∀ x ∈ t.rows, x.Rng := by
 obtain ⟨xs, n, _, _, hlen, hxl, hq⟩ := DataW.trod_struct hs h
 rw [hC] at hlen
 match xs, hxl, cs, hlen with
 | [y0, y1], _, [v0, v1], _ =>
  have k0 := hq 0 f0 rfl
  have k1 := hq 1 f1 rfl
  rw [ef0.1, ef0.2, cts] at k0
  rw [ef1.1, ef1.2, ctis] at k1
  simp at k0 k1
  obtain ⟨a, n, c, l, rfl, hl, hr⟩ := open_flat ⟨0, 0, 0⟩ vrowF VR.Rng hts hCb (fun h => vrow_trod htb hi e0 e1 e2 hCb hti h) k0
  rcases open_ints htis hi hti k1 with ⟨hcs, _⟩ | ⟨x, l', c', zs, hcs, _, hl', hm, hz, _, hcell, hwz⟩
  ·simp only [List.cons.injEq, and_true] at hcs
   subst hcs
   exact ⟨a, n, c, none, 0, 0, ⟨l, []⟩, rfl, ⟨hl, irow_nil w⟩, hr⟩
  ·simp only [List.cons.injEq, and_true] at hcs
   subst hcs
   exact ⟨a, n, c, some x, l', c', ⟨l, zs.take l'⟩, rfl, ⟨hl, irow_open hl' hm (by simpa using hz) hcell hwz⟩, hr⟩

theorem open_bridge {tB ts tpS tp tv tfS tf tV trS tr tiS ti tb : TypeId} {f0 f1 f2 f3 f4 f5 f6 f7 f8 f9 p0 p1 p2 p3 v0 v1 v2 v3 v4 e0 e1 e2 e3 e4 t0 t1 r0 r1 r2 : Field} (T : BrTypes P tB ts tpS tp tv tfS tf tV trS tr tiS ti tb f0 f1 f2 f3 f4 f5 f6 f7 f8 f9 p0 p1 p2 p3 v0 v1 v2 v3 v4 e0 e1 e2 e3 e4 t0 t1 r0 r1 r2)
  {r : Reach} {b0 : Nat} {v : Value} {d : DataW H} {p : List MemPlace} (hv : Value.okWide P w r b0 tB v) (h : DataW.Trod enc P w 0 (fun _ => true) true tB v d p) :
  ∃ (a : Option Addr) (n c : Nat) (fa : Option Addr) (fn fc : Nat) (ra : Option Addr) (rn rc : Nat) (oa : Option Addr) (on oc : Nat) (B : BR), v = .agg #[.int .i64 B.id, .string B.name, .slice a n c, .slice fa fn fc, .slice ra rn rc, .slice oa on oc, .int .i64 B.ticks, .int .i64 B.parse, .int .i64 B.word, .int .i64 B.drops, .int .i64 B.vers] ∧ BrRow w a n c fa fn fc ra rn rc oa on oc B ∧ B.Rng := by
 obtain ⟨cs, rfl, hsz⟩ := okWide_struct T.uB hv
 obtain ⟨fuel, hf⟩ := h
 obtain ⟨xs, m, _, _, hlen, hxl, hq⟩ := DataW.trod_struct T.uB hf
 rw [T.cB] at hlen
 obtain ⟨cl⟩ := cs
 have hlen : cl.length = 11 := hlen
 have hq : ∀ (i : Nat) (fd : Field), #[f0, f1, f2, f3, f4, f5, f6, f7, f8, f9][i]? = some fd → _ := hq
 match xs, hxl, cl, hlen with
 | [y0, y1, y2, y3, y4, y5, y6, y7, y8, y9], _, [u0, u1, u2, u3, u4, u5, u6, u7, u8, u9, u10], _ =>
  have k0 := hq 0 f0 rfl
  have k1 := hq 1 f1 rfl
  have k2 := hq 2 f2 rfl
  have k3 := hq 3 f3 rfl
  have k4 := hq 4 f4 rfl
  have k5 := hq 5 f5 rfl
  have k6 := hq 6 f6 rfl
  have k7 := hq 7 f7 rfl
  have k8 := hq 8 f8 rfl
  have k9 := hq 9 f9 rfl
  rw [T.f0.1, T.f0.2, T.ci] at k0
  rw [T.f1.1, T.f1.2, T.cs] at k1
  rw [T.f2.1, T.f2.2, T.cpS] at k2
  rw [T.f3.1, T.f3.2, T.cfS] at k3
  rw [T.f4.1, T.f4.2, T.cV] at k4
  rw [T.f5.1, T.f5.2, T.ci] at k5
  rw [T.f6.1, T.f6.2, T.ci] at k6
  rw [T.f7.1, T.f7.2, T.ci] at k7
  rw [T.f8.1, T.f8.2, T.ci] at k8
  rw [T.f9.1, T.f9.2, T.ci] at k9
  simp [Value.cells] at k0 k1 k2 k3 k4 k5 k6 k7 k8 k9
  obtain ⟨Id, i0, -, r0⟩ := DataW.trod_int T.ui k0
  obtain ⟨Nm, i1, -, r1⟩ := DataW.trod_string T.us k1
  obtain ⟨a, n, c, lp, rfl, hp, rp⟩ := open_pts T.upS T.up T.uv T.ui T.ub T.v0 T.v1 T.v2 T.v3 T.v4 T.p0 T.p1 T.p2 T.p3 T.cp T.cv T.ci T.cb k2
  obtain ⟨fa, fn, fc, lf, rfl, hf', rf⟩ := open_flat ⟨0, 0, 0, 0, false⟩ fentF FE.Rng T.ufS T.cf (fun h => fent_trod T.uf T.ui T.ub T.e0 T.e1 T.e2 T.e3 T.e4 T.cf T.ci T.cb h) k3
  obtain ⟨ra, rn, rc, oa, on, oc, vt, i4, hvt, rv⟩ := vtab_trod T.uV T.cV T.t0 T.t1 T.crS T.ciS T.urS T.uiS T.ur T.ui T.r0 T.r1 T.r2 T.cr T.ci k4
  obtain ⟨Ti, i5, -, r5⟩ := DataW.trod_int T.ui k5
  obtain ⟨Pa, i6, -, r6⟩ := DataW.trod_int T.ui k6
  obtain ⟨Wo, i7, -, r7⟩ := DataW.trod_int T.ui k7
  obtain ⟨Dr, i8, -, r8⟩ := DataW.trod_int T.ui k8
  obtain ⟨Ve, i9, -, r9⟩ := DataW.trod_int T.ui k9
  simp only [List.cons.injEq, and_true] at i0 i1 i4 i5 i6 i7 i8 i9
  obtain ⟨j0, j1⟩ := i4
  subst i0 i1 j0 j1 i5 i6 i7 i8 i9
  exact ⟨a, n, c, fa, fn, fc, ra, rn, rc, oa, on, oc, ⟨Id, Nm, lp, lf, vt, Ti, Pa, Wo, Dr, Ve⟩, rfl, ⟨hp, hf', hvt⟩, wf_64 r0, r1, rp, rf, rv, wf_64 r5, wf_64 r6, wf_64 r7, wf_64 r8, wf_64 r9⟩
end

end

end Go.Proofs.YtddalpglihhipaaGreat
