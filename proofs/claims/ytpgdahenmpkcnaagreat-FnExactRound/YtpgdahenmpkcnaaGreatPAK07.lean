/-
  Packed: FdbKeys PtRole PtSends BrList0 GTake BrLess NetMarkL TextRow MarkText.
-/
import Derived.Test.YtpgdahenmpkcnaaGreatPAKW
import Derived.Test.YtpgdahenmpkcnaaGreatPAK01
import Derived.Test.YtpgdahenmpkcnaaGreatPAK02
import Derived.Test.YtpgdahenmpkcnaaGreatPAK04
import Derived.Test.YtpgdahenmpkcnaaGreatPAK05
import Derived.Test.YtpgdahenmpkcnaaGreatPAK06
import Derived.Laws.IdiomStrings
namespace Go.Proofs.YtpgdahenmpkcnaaGreat
open Go.RowKit

abbrev FK := Int × Int × Int

def cnt (l : List FE) (t m : Int) : Int := ((l.filter (fun e => both e t m)).length : Int)

theorem cnt_nil (t m : Int) : cnt [] t m = 0 := rfl
theorem cnt_append (a b : List FE) (t m : Int) : cnt (a ++ b) t m = cnt a t m + cnt b t m := by simp [cnt]
theorem cnt_one (x : FE) (t m : Int) : cnt [x] t m = if both x t m = true then 1 else 0 := by
 unfold cnt
 cases h : both x t m <;> simp [h]
theorem cnt_self (x : FE) : cnt [x] x.t x.m = 1 := by rw [cnt_one, if_pos (both_iff.2 ⟨rfl, rfl⟩)]
theorem cnt_pos (l : List FE) (t m : Int) : 0 ≤ cnt l t m := by unfold cnt; omega
theorem cnt_le (l : List FE) (t m : Int) : cnt l t m ≤ l.length := by
 unfold cnt
 have := List.length_filter_le (fun e => both e t m) l
 omega

def keyIn (pre : List FE) (x : FE) : FK := (x.t, x.m, cnt pre x.t x.m)

def keysGo : List FE → List FE → List FK
 | _, [] => []
 | pre, x :: r => keyIn pre x :: keysGo (pre ++ [x]) r

def entsGo (g : FK → Option FE) : List FE → List FE → FK → Option FE
 | _, [] => g
 | pre, x :: r => entsGo (upd g (keyIn pre x) (some x)) (pre ++ [x]) r

def keysOf (l : List FE) : List FK := keysGo [] l
def entsOf (l : List FE) : FK → Option FE := entsGo (fun _ => none) [] l

theorem keysGo_snoc (x : FE) : ∀ (l pre : List FE), keysGo pre (l ++ [x]) = keysGo pre l ++ [keyIn (pre ++ l) x]
 | [], pre => by simp [keysGo]
 | y :: l, pre => by
  rw [List.cons_append, keysGo, keysGo_snoc x l (pre ++ [y]), keysGo, List.cons_append, List.append_assoc]
  rfl

theorem entsGo_snoc (x : FE) : ∀ (l pre : List FE) (g : FK → Option FE), entsGo g pre (l ++ [x]) = upd (entsGo g pre l) (keyIn (pre ++ l) x) (some x)
 | [], pre, g => by simp [entsGo]
 | y :: l, pre, g => by
  rw [List.cons_append, entsGo, entsGo_snoc x l (pre ++ [y]), entsGo, List.append_assoc]
  rfl

theorem keys_snoc (l : List FE) (x : FE) : keysOf (l ++ [x]) = keysOf l ++ [keyIn l x] := by
 unfold keysOf
 rw [keysGo_snoc, List.nil_append]
theorem ents_snoc (l : List FE) (x : FE) : entsOf (l ++ [x]) = upd (entsOf l) (keyIn l x) (some x) := by
 unfold entsOf
 rw [entsGo_snoc, List.nil_append]

theorem keysGo_length : ∀ (l pre : List FE), (keysGo pre l).length = l.length
 | [], _ => rfl
 | x :: r, pre => by rw [keysGo, List.length_cons, keysGo_length r, List.length_cons]
theorem keys_length (l : List FE) : (keysOf l).length = l.length := keysGo_length l []

theorem keysGo_least : ∀ (l pre : List FE) (k : FK), k ∈ keysGo pre l → cnt pre k.1 k.2.1 ≤ k.2.2
 | [], _, _, h => by cases h
 | x :: r, pre, k, h => by
  rw [keysGo] at h
  rcases List.mem_cons.1 h with rfl | h
  ·exact Int.le_refl _
  ·have := keysGo_least r (pre ++ [x]) k h
   rw [cnt_append] at this
   have := cnt_pos [x] k.1 k.2.1
   omega

theorem keysGo_new (l pre : List FE) (x : FE) : keyIn pre x ∉ keysGo (pre ++ [x]) l := by
 intro h
 have := keysGo_least _ _ _ h
 unfold keyIn at this
 simp only at this
 rw [cnt_append, cnt_self] at this
 omega

theorem entsGo_other : ∀ (l pre : List FE) (g : FK → Option FE) (k : FK), k ∉ keysGo pre l → entsGo g pre l k = g k
 | [], _, _, _, _ => rfl
 | x :: r, pre, g, k, h => by
  rw [keysGo] at h
  have h1 : k ≠ keyIn pre x := fun e => h (by rw [e]; exact List.mem_cons_self)
  rw [entsGo, entsGo_other r (pre ++ [x]) _ k (fun hk => h (List.mem_cons_of_mem _ hk)), upd_other g _ h1]

theorem entsGo_map : ∀ (l pre : List FE) (g : FK → Option FE), (keysGo pre l).map (entsGo g pre l) = l.map some
 | [], _, _ => rfl
 | x :: r, pre, g => by
  rw [keysGo, entsGo, List.map_cons, List.map_cons, entsGo_map r (pre ++ [x])]
  rw [entsGo_other r (pre ++ [x]) _ _ (keysGo_new r pre x), upd_same]
theorem ents_map (l : List FE) : (keysOf l).map (entsOf l) = l.map some := entsGo_map l [] _

theorem ents_none (l : List FE) {k : FK} (h : k ∉ keysOf l) : entsOf l k = none := entsGo_other l [] _ k h

theorem out_bind {ks : List FK} {g : FK → Option FE} {l : List FE} (h : ks.map g = l.map some) (f : FE → Option FE) : ks.filterMap (fun k => (g k).bind f) = l.filterMap f := by
 induction ks generalizing l with
 | nil =>
  cases l with
  | nil => rfl
  | cons y r => simp at h
 | cons k r ih =>
  cases l with
  | nil => simp at h
  | cons y r' =>
   simp only [List.map_cons, List.cons.injEq] at h
   rw [List.filterMap_cons, List.filterMap_cons, h.1, ih h.2]
   rfl

def FKok (k : FK) : Prop := (-9223372036854775808 ≤ k.1 ∧ k.1 ≤ 9223372036854775807) ∧ (-9223372036854775808 ≤ k.2.1 ∧ k.2.1 ≤ 9223372036854775807) ∧ (-9223372036854775808 ≤ k.2.2 ∧ k.2.2 ≤ 9223372036854775807)

theorem key_ok {pre : List FE} {x : FE} (hx : x.Rng) (hp : pre.length ≤ 16777216) : FKok (keyIn pre x) := by
 have h1 := cnt_pos pre x.t x.m
 have h2 := cnt_le pre x.t x.m
 exact ⟨hx.1, hx.2.1, by unfold keyIn; simp only; omega⟩

theorem keysGo_ok : ∀ (l pre : List FE), (∀ x ∈ l, x.Rng) → pre.length + l.length ≤ 16777216 → ∀ k ∈ keysGo pre l, FKok k
 | [], _, _, _, _, h => by cases h
 | x :: r, pre, hR, hl, k, h => by
  rw [keysGo] at h
  simp only [List.length_cons] at hl
  rcases List.mem_cons.1 h with rfl | h
  ·exact key_ok (hR x (by simp)) (by omega)
  ·exact keysGo_ok r (pre ++ [x]) (fun y hy => hR y (List.mem_cons_of_mem _ hy)) (by simp; omega) k h
theorem keys_ok {l : List FE} (hR : ∀ x ∈ l, x.Rng) (hl : l.length ≤ 16777216) : ∀ k ∈ keysOf l, FKok k := keysGo_ok l [] hR (by simpa using hl)

def cntF (l : List FE) : FK → Option Int := fun k => if k.2.2 = 0 ∧ 0 < cnt l k.1 k.2.1 then some (cnt l k.1 k.2.1) else none

theorem cntF_nil : cntF [] = fun _ => none := by
 funext k
 unfold cntF
 rw [if_neg]
 rw [cnt_nil]
 omega

theorem cntF_get (l : List FE) (t m : Int) : (cntF l (t, m, 0)).getD 0 = cnt l t m := by
 unfold cntF
 have := cnt_pos l t m
 simp only
 split
 ·rfl
 ·rename_i h
  simp only [true_and] at h
  show (0 : Int) = _
  omega

theorem cntF_snoc (l : List FE) (x : FE) : cntF (l ++ [x]) = upd (cntF l) (x.t, x.m, 0) (some (cnt l x.t x.m + 1)) := by
 funext k
 obtain ⟨t, m, c⟩ := k
 by_cases e : ((t, m, c) : FK) = (x.t, x.m, 0)
 ·cases e
  rw [upd_same]
  unfold cntF
  simp only
  have := cnt_pos l x.t x.m
  rw [cnt_append, cnt_self, if_pos ⟨trivial, by omega⟩]
 ·rw [upd_other _ _ e]
  unfold cntF
  simp only
  rw [cnt_append, cnt_one]
  by_cases hc : c = 0
  ·have hb : both x t m = false := by
    rw [both_not]
    rintro ⟨rfl, rfl⟩
    exact e (by rw [hc])
   rw [hb]
   simp
  ·simp [hc]

theorem keys_at {l : List FE} {i : Nat} {k : FK} (hk : (keysOf l)[i]? = some k) : ∃ e, l[i]? = some e ∧ entsOf l k = some e := by
 have hm := ents_map l
 have h1 : ((keysOf l).map (entsOf l))[i]? = some (entsOf l k) := by rw [List.getElem?_map, hk]; rfl
 rw [hm, List.getElem?_map] at h1
 cases he : l[i]? with
 | none => rw [he] at h1; cases h1
 | some e =>
  rw [he] at h1
  simp at h1
  exact ⟨e, rfl, h1.symm⟩

abbrev q318 : Oper := ⟨some 34, .move (.tmp 1), 60, "l10_role.go:47", #[], none⟩
abbrev q319 : Oper := ⟨some 35, .move (.tmp 2), 3, "l10_role.go:47", #[], none⟩
abbrev q320 : Oper := ⟨some 36, .indexAddr 60 (.tmp 34) (.tmp 35), 0, "l10_role.go:47", #[⟨0, .data⟩, ⟨1, .data⟩], none⟩
abbrev q321 : Oper := ⟨some 37, .fieldAddr 113 (.tmp 36) 2, 0, "l10_role.go:47", #[⟨2, .data⟩], none⟩
abbrev q322 : Oper := ⟨some 38, .load 4 (.tmp 37), 4, "l10_role.go:47", #[⟨3, .data⟩], none⟩
abbrev q323 : Oper := ⟨some 39, .unOp .not 4 (.tmp 38), 4, "l10_role.go:47", #[⟨4, .data⟩], none⟩
abbrev q324 : Oper := ⟨some 40, .move (.tmp 39), 4, "l10_role.go:47", #[⟨5, .data⟩], none⟩
abbrev q325 : Oper := ⟨some 41, .move (.tmp 0), 3, "l10_role.go:47", #[⟨6, .guard⟩], some (6, false)⟩
abbrev q326 : Oper := ⟨some 42, .move (.tmp 1), 60, "l10_role.go:47", #[⟨6, .guard⟩], some (6, false)⟩
abbrev q327 : Oper := ⟨some 43, .move (.tmp 2), 3, "l10_role.go:47", #[⟨6, .guard⟩], some (6, false)⟩
abbrev q328 : Oper := ⟨some 44, .call ⟨.value (.func 101), #[.tmp 41, .tmp 42, .tmp 43], #[3, 60, 3]⟩, 95, "l10_role.go:47", #[⟨7, .data⟩, ⟨8, .data⟩, ⟨9, .data⟩, ⟨6, .chain⟩, ⟨6, .guard⟩], some (6, false)⟩
abbrev q329 : Oper := ⟨some 45, .move (.tmp 1), 60, "l10_role.go:47", #[⟨6, .guard⟩], some (6, false)⟩
abbrev q330 : Oper := ⟨some 46, .move (.tmp 2), 3, "l10_role.go:47", #[⟨6, .guard⟩], some (6, false)⟩
abbrev q331 : Oper := ⟨some 47, .indexAddr 60 (.tmp 45) (.tmp 46), 0, "l10_role.go:47", #[⟨11, .data⟩, ⟨12, .data⟩, ⟨6, .guard⟩], some (6, false)⟩
abbrev q332 : Oper := ⟨some 48, .fieldAddr 113 (.tmp 47) 3, 0, "l10_role.go:47", #[⟨13, .data⟩, ⟨6, .guard⟩], some (6, false)⟩
abbrev q333 : Oper := ⟨some 49, .load 95 (.tmp 48), 95, "l10_role.go:47", #[⟨14, .data⟩, ⟨6, .guard⟩], some (6, false)⟩
abbrev q334 : Oper := ⟨some 50, .call ⟨.value (.func 177), #[.tmp 44, .tmp 49], #[95, 95]⟩, 4, "l10_role.go:47", #[⟨10, .data⟩, ⟨15, .data⟩, ⟨10, .chain⟩, ⟨6, .guard⟩], some (6, false)⟩
abbrev q335 : Oper := ⟨some 51, .pick (.tmp 40) (.const (.bool true)) (.tmp 50), 4, "l10_role.go:47", #[⟨6, .data⟩, ⟨16, .data⟩], none⟩
abbrev q336 : Oper := ⟨some 33, .assign (.tmp 51), 4, "l10_role.go:47", #[⟨17, .data⟩, ⟨16, .chain⟩], none⟩

set_option maxRecDepth 100000 in
set_option maxHeartbeats 2000000 in
theorem specSayVec_any (id : Int) (a : Option Addr) (n c : Nat) (l : List PT) (port : Int) (w : World) (h : GRow ptF w a n c l) :
  Calls Tryz.prog 101 #[.int .i64 id, .slice a n c, .int .i64 port] w fun e w' => e = .returned (.agg #[.int .i64 (sayV id l port).r, .int .i64 (sayV id l port).c, .int .i64 (sayV id l port).h, .int .i64 (sayV id l port).b, .int .i64 (sayV id l port).p]) ∧ Below w.heap.size w w' := by
 generalize hw1 : w.alloc (Obj.cells #[.int .i64 0, .int .i64 0, .int .i64 0, .int .i64 0, .int .i64 0] 95) = w1
 have q1 : Below w.heap.size w w1 := by rw [← hw1]; exact below_one _ _
 have k1 : w1.heap[w.heap.size]? = some (.cells #[.int .i64 0, .int .i64 0, .int .i64 0, .int .i64 0, .int .i64 0] 95) := by rw [← hw1]; exact block_last _ _
 have hsb : (sayV id l port) = ⟨(bestV id (bestOf id l)).r, (bestV id (bestOf id l)).c, (bestV id (bestOf id l)).h, (bestV id (bestOf id l)).b, port⟩ := by
  unfold sayV
  cases bestOf id l <;> rfl
 rw [hsb]
 clear hsb
 go_enter Tryz.func101, Tryz.ntmps101
 go_wp2_with fail
 refine (specBestVec_any id a n c l _ (h.below q1)).mono ?_
 rintro e w2 ⟨rfl, hb2⟩
 generalize hv : bestV id (bestOf id l) = v
 have HV := hide hv
 clear hv
 generalize hw3 : w2.alloc (Obj.cells #[.int .i64 v.r, .int .i64 v.c, .int .i64 v.h, .int .i64 v.b, .int .i64 v.p] 95) = w3
 have hb3 : Below w2.heap.size w2 w3 := by rw [← hw3]; exact below_one _ _
 have k3 : w3.heap[w2.heap.size]? = some (.cells #[.int .i64 v.r, .int .i64 v.c, .int .i64 v.h, .int .i64 v.b, .int .i64 v.p] 95) := by rw [← hw3]; exact block_last _ _
 have k1 := kept_block (kept_block k1 hb2) hb3
 have lt1 := (Array.getElem?_eq_some_iff.1 (kept_block (by rw [← hw1]; exact block_last _ _ : w1.heap[w.heap.size]? = some (.cells #[.int .i64 0, .int .i64 0, .int .i64 0, .int .i64 0, .int .i64 0] 95)) hb2)).1
 have ne1 : ¬ w2.heap.size = w.heap.size := by omega
 have ne2 : ¬ w.heap.size = w2.heap.size := by omega
 have HB := hide (below_set5 (below_set (gr_trans (gr_trans q1 hb2) hb3) (g := w2.heap.size) (by omega) 4 (.int .i64 port)) (Nat.le_refl w.heap.size) (.int .i64 v.r) (.int .i64 v.c) (.int .i64 v.h) (.int .i64 v.b) (.int .i64 port))
 obtain ⟨⟨x0, x1, x2, x3, x4⟩, y0, y1, y2, y3, y4⟩ := cells5 k3
 obtain ⟨⟨r0, r1, r2, r3, r4⟩, z0, z1, z2, z3, z4⟩ := cells5 k1
 clear hb2 hb3 k1 k3 q1 lt1
 go_wp2
 exact bodyPost_ret (v := .agg #[.int .i64 v.r, .int .i64 v.c, .int .i64 v.h, .int .i64 v.b, .int .i64 port]) (by simp [results, Tryz.results101, go_sem, *]) rfl ⟨(by rw [HV.out]), HB.out⟩

set_option maxRecDepth 100000 in
set_option maxHeartbeats 4000000 in
theorem specRole_any (id : Int) (a : Option Addr) (n c : Nat) (l : List PT) (port : Int) (w : World) (h : GRow ptF w a n c l) :
  Calls Tryz.prog 154 #[.int .i64 id, .slice a n c, .int .i64 port] w fun e w' => e = .returned (.int .i64 (roleOf id l port)) ∧ Below w.heap.size w w' := by
 have hle := h.le
 have htop := h.top
 unfold maxLen at htop
 have hsz := hide h.size
 cases hin : (decide (0 ≤ port) && decide (port ≤ (n : Int) - 1))
 ·have HIN := hide hin
  have HR : Hid (roleOf id l port = 4) := hide (by unfold roleOf; rw [hsz.out, hin]; rfl)
  clear hin
  go_enter Tryz.func154, Tryz.ntmps154
  go_wp2_with fail
  refine (within_any port 0 ((n : Int) - 1) _).mono ?_
  rintro e w1 ⟨rfl, ew⟩
  obtain rfl := ew.symm
  rw [HIN.out]
  go_wp2
  go_ret
  exact ⟨(by rw [HR.out]; rfl), Below.refl _ _⟩
 obtain ⟨k, rfl⟩ : ∃ k : Nat, port = (k : Int) := ⟨port.toNat, by simp at hin; omega⟩
 have hlt : k < n := by simp at hin; omega
 have HIN := hide hin
 have i1 : (0 : Int) ≤ (k : Int) := by omega
 have i2 : (k : Int) < (n : Int) := by omega
 obtain ⟨x, b, off, hx, rfl, c0, c1, c2, c3, c4, c5, c6, c7⟩ := pt_at h k hlt
 have hro : roleOf id l (k : Int) = roleAt id l k x := by
  unfold roleOf
  rw [hsz.out, hin]
  simp [hx]
 have HRO := hide hro
 clear hin hro
 cases hu : x.up
 ·rw [hu] at c0
  have HR : Hid (roleOf id l (k : Int) = 4) := hide (by rw [HRO.out]; unfold roleAt; rw [if_pos hu])
  clear hu c1 c2 c3 c4 c5 c6 c7 hx
  go_enter Tryz.func154, Tryz.ntmps154
  go_wp2_with fail
  refine (within_any (k : Int) 0 ((n : Int) - 1) _).mono ?_
  rintro e w1 ⟨rfl, ew⟩
  obtain rfl := ew.symm
  rw [HIN.out]
  go_wp2
  go_ret
  exact ⟨(by rw [HR.out]; rfl), Below.refl _ _⟩
 rw [hu] at c0
 have HU := hide hu
 clear hu
 by_cases hp : bestP (bestOf id l) = (k : Int)
 ·have HR : Hid (roleOf id l (k : Int) = 1) := hide (by rw [HRO.out]; unfold roleAt; rw [if_neg (by rw [HU.out]; decide), if_pos hp])
  have HP := hide hp
  clear c1 c2 c3 c4 c5 c6 c7 hx hp
  go_enter Tryz.func154, Tryz.ntmps154
  go_wp2_with fail
  refine (within_any (k : Int) 0 ((n : Int) - 1) _).mono ?_
  rintro e w1 ⟨rfl, ew⟩
  obtain rfl := ew.symm
  rw [HIN.out]
  go_wp2_with fail
  refine (specBestVec_any id (some ⟨b, off, none⟩) n c l _ h).mono ?_
  rintro e w2 ⟨rfl, hb2⟩
  rw [HP.out]
  have HB := hide (gr_trans hb2 (below_one _ (Obj.cells #[.int .i64 (bestV id (bestOf id l)).r, .int .i64 (bestV id (bestOf id l)).c, .int .i64 (bestV id (bestOf id l)).h, .int .i64 (bestV id (bestOf id l)).b, .int .i64 (bestV id (bestOf id l)).p] 95)))
  clear hb2 c0
  go_wp2
  go_ret
  exact ⟨(by rw [HR.out]; rfl), HB.out⟩
 go_enter Tryz.func154, Tryz.ntmps154
 go_wp2_with fail
 refine (within_any (k : Int) 0 ((n : Int) - 1) _).mono ?_
 rintro e w1 ⟨rfl, ew⟩
 obtain rfl := ew.symm
 rw [HIN.out]
 go_wp2_with fail
 refine (specBestVec_any id (some ⟨b, off, none⟩) n c l _ h).mono ?_
 rintro e w2 ⟨rfl, hb2⟩
 generalize hw3 : w2.alloc (Obj.cells #[.int .i64 (bestV id (bestOf id l)).r, .int .i64 (bestV id (bestOf id l)).c, .int .i64 (bestV id (bestOf id l)).h, .int .i64 (bestV id (bestOf id l)).b, .int .i64 (bestV id (bestOf id l)).p] 95) = w3
 have HB : Hid (Below w.heap.size w w3) := hide (gr_trans hb2 (by rw [← hw3]; exact below_one _ _))
 clear hb2 c0 c1 c2 c3 c4 c5 c6 c7
 obtain ⟨x', b', off', hx', ha', c0, c1, c2, c3, c4, c5, c6, c7⟩ := pt_at (h.below HB.out) k hlt
 rw [hx] at hx'
 cases hx'
 cases ha'
 generalize hP : bestP (bestOf id l) = P at *
 have hPne : (P == (k : Int)) = false := by simp [hp]
 have HX := hide hx
 have vv : Below w3.heap.size w3 w3.drew := gr_drew (Below.refl _ _)
 have HR0 : Hid (roleOf id l (k : Int) = (if (!x.has || lessV (sayV id l (k : Int)) x.v) = true then 2 else 3)) := hide (by rw [HRO.out]; unfold roleAt; rw [if_neg (by rw [HU.out]; decide), hP, if_neg hp])
 clear c0 c1 hx hP
 cases hh : x.has
 ·rw [hh] at c2
  have HR : Hid (roleOf id l (k : Int) = 2) := hide (by rw [HR0.out, hh]; rfl)
  have HSS : Hid (∀ W', Below w3.heap.size w3 W' → W'.cell? ⟨b, off + k * 8 + 2, none⟩ = some (.bool false) ∧ W'.cell? ⟨b, off + k * 8 + 3, none⟩ = some (.int .i64 x.v.r) ∧ W'.cell? ⟨b, off + k * 8 + 4, none⟩ = some (.int .i64 x.v.c) ∧ W'.cell? ⟨b, off + k * 8 + 5, none⟩ = some (.int .i64 x.v.h) ∧ W'.cell? ⟨b, off + k * 8 + 6, none⟩ = some (.int .i64 x.v.b) ∧ W'.cell? ⟨b, off + k * 8 + 7, none⟩ = some (.int .i64 x.v.p)) := hide (fun W' hb => ⟨(hb.cell (block_lt c2)).trans c2, (hb.cell (block_lt c3)).trans c3, (hb.cell (block_lt c4)).trans c4, (hb.cell (block_lt c5)).trans c5, (hb.cell (block_lt c6)).trans c6, (hb.cell (block_lt c7)).trans c7⟩)
  clear c2 c3 c4 c5 c6 c7 hh
  go_wp2_with fail
  refine wp_region_held_drew (S := (fun W => W.cell? ⟨b, off + k * 8 + 2, none⟩ = some (.bool false) ∧ W.cell? ⟨b, off + k * 8 + 3, none⟩ = some (.int .i64 x.v.r) ∧ W.cell? ⟨b, off + k * 8 + 4, none⟩ = some (.int .i64 x.v.c) ∧ W.cell? ⟨b, off + k * 8 + 5, none⟩ = some (.int .i64 x.v.h) ∧ W.cell? ⟨b, off + k * 8 + 6, none⟩ = some (.int .i64 x.v.b) ∧ W.cell? ⟨b, off + k * 8 + 7, none⟩ = some (.int .i64 x.v.p))) (by kernel_rfl) (HSS.out _ vv) (fun hHeld => ?_)
  refine kK 0 q318 ?_
  refine kK 1 q319 ?_
  refine kK 2 q320 ?_
  refine kK 3 q321 ?_
  refine kK 4 q322 ?_
  refine kK 5 q323 ?_
  refine kK 6 q324 ?_
  refine kN 7 q325 ?_
  refine kN 8 q326 ?_
  refine kN 9 q327 ?_
  refine kN 10 q328 ?_
  refine kN 11 q329 ?_
  refine kN 12 q330 ?_
  refine kN 13 q331 ?_
  refine kN 14 q332 ?_
  refine kN 15 q333 ?_
  refine kN 16 q334 ?_
  refine kK 17 q335 ?_
  refine kK 18 q336 ?_
  refine wpAnyH_done (by kernel_rfl) ?_ _
  clear hHeld
  go_wp2
  go_ret
  exact ⟨(by rw [HR.out]; rfl), gr_trans HB.out vv⟩
 ·rw [hh] at c2
  have HSS : Hid (∀ W', Below w3.heap.size w3 W' → W'.cell? ⟨b, off + k * 8 + 2, none⟩ = some (.bool true) ∧ W'.cell? ⟨b, off + k * 8 + 3, none⟩ = some (.int .i64 x.v.r) ∧ W'.cell? ⟨b, off + k * 8 + 4, none⟩ = some (.int .i64 x.v.c) ∧ W'.cell? ⟨b, off + k * 8 + 5, none⟩ = some (.int .i64 x.v.h) ∧ W'.cell? ⟨b, off + k * 8 + 6, none⟩ = some (.int .i64 x.v.b) ∧ W'.cell? ⟨b, off + k * 8 + 7, none⟩ = some (.int .i64 x.v.p)) := hide (fun W' hb => ⟨(hb.cell (block_lt c2)).trans c2, (hb.cell (block_lt c3)).trans c3, (hb.cell (block_lt c4)).trans c4, (hb.cell (block_lt c5)).trans c5, (hb.cell (block_lt c6)).trans c6, (hb.cell (block_lt c7)).trans c7⟩)
  clear c2 c3 c4 c5 c6 c7
  cases hl : lessV (sayV id l (k : Int)) x.v
  ·have HR : Hid (roleOf id l (k : Int) = 3) := hide (by rw [HR0.out, hh, hl]; rfl)
   have HL : Hid (lessVc (sayV id l (k : Int)).r (sayV id l (k : Int)).c (sayV id l (k : Int)).b (sayV id l (k : Int)).p x.v.r x.v.c x.v.b x.v.p = false) := hide hl
   clear hh hl
   go_wp2_with fail
   refine wp_region_held_drew (S := (fun W => W.cell? ⟨b, off + k * 8 + 2, none⟩ = some (.bool true) ∧ W.cell? ⟨b, off + k * 8 + 3, none⟩ = some (.int .i64 x.v.r) ∧ W.cell? ⟨b, off + k * 8 + 4, none⟩ = some (.int .i64 x.v.c) ∧ W.cell? ⟨b, off + k * 8 + 5, none⟩ = some (.int .i64 x.v.h) ∧ W.cell? ⟨b, off + k * 8 + 6, none⟩ = some (.int .i64 x.v.b) ∧ W.cell? ⟨b, off + k * 8 + 7, none⟩ = some (.int .i64 x.v.p))) (by kernel_rfl) (HSS.out _ vv) (fun hHeld => ?_)
   refine kK 0 q318 ?_
   refine kK 1 q319 ?_
   refine kK 2 q320 ?_
   refine kK 3 q321 ?_
   refine kK 4 q322 ?_
   refine kK 5 q323 ?_
   refine kK 6 q324 ?_
   refine kK 7 q325 ?_
   refine kK 8 q326 ?_
   refine kK 9 q327 ?_
   refine kK 11 q329 ?_
   refine kK 12 q330 ?_
   refine kK 13 q331 ?_
   refine kK 14 q332 ?_
   refine kK 15 q333 ?_
   refine kR 10 q328 (fun K hK => ?_)
   go_simp
   refine (specSayVec_any id (some ⟨b, off, none⟩) n c l (k : Int) _ (h.below (gr_trans HB.out vv))).mono ?_
   rintro e wx ⟨rfl, hbx⟩
   have vv := gr_trans vv hbx
   clear hbx
   go_wp2_with fail
   refine hK.out _ _ (HSS.out _ vv) (fun hHeld => ?_)
   clear hK K
   try simp only [Act.put, lA, lB, lC]
   refine kR 16 q334 (fun K hK => ?_)
   go_simp
   refine (specLessVec_any (sayV id l (k : Int)).r (sayV id l (k : Int)).c (sayV id l (k : Int)).h (sayV id l (k : Int)).b (sayV id l (k : Int)).p x.v.r x.v.c x.v.h x.v.b x.v.p _).mono ?_
   rintro e wx ⟨rfl, hbx⟩
   rw [HL.out]
   have vv := gr_trans vv hbx
   clear hbx
   go_wp2_with fail
   refine hK.out _ _ (HSS.out _ vv) (fun hHeld => ?_)
   clear hK K
   try simp only [Act.put, lA, lB, lC]
   refine kK 17 q335 ?_
   refine kK 18 q336 ?_
   refine wpAnyH_done (by kernel_rfl) ?_ _
   clear hHeld
   go_wp2
   go_ret
   exact ⟨(by rw [HR.out]; rfl), gr_trans HB.out vv⟩
  ·have HR : Hid (roleOf id l (k : Int) = 2) := hide (by rw [HR0.out, hh, hl]; rfl)
   have HL : Hid (lessVc (sayV id l (k : Int)).r (sayV id l (k : Int)).c (sayV id l (k : Int)).b (sayV id l (k : Int)).p x.v.r x.v.c x.v.b x.v.p = true) := hide hl
   clear hh hl
   go_wp2_with fail
   refine wp_region_held_drew (S := (fun W => W.cell? ⟨b, off + k * 8 + 2, none⟩ = some (.bool true) ∧ W.cell? ⟨b, off + k * 8 + 3, none⟩ = some (.int .i64 x.v.r) ∧ W.cell? ⟨b, off + k * 8 + 4, none⟩ = some (.int .i64 x.v.c) ∧ W.cell? ⟨b, off + k * 8 + 5, none⟩ = some (.int .i64 x.v.h) ∧ W.cell? ⟨b, off + k * 8 + 6, none⟩ = some (.int .i64 x.v.b) ∧ W.cell? ⟨b, off + k * 8 + 7, none⟩ = some (.int .i64 x.v.p))) (by kernel_rfl) (HSS.out _ vv) (fun hHeld => ?_)
   refine kK 0 q318 ?_
   refine kK 1 q319 ?_
   refine kK 2 q320 ?_
   refine kK 3 q321 ?_
   refine kK 4 q322 ?_
   refine kK 5 q323 ?_
   refine kK 6 q324 ?_
   refine kK 7 q325 ?_
   refine kK 8 q326 ?_
   refine kK 9 q327 ?_
   refine kK 11 q329 ?_
   refine kK 12 q330 ?_
   refine kK 13 q331 ?_
   refine kK 14 q332 ?_
   refine kK 15 q333 ?_
   refine kR 10 q328 (fun K hK => ?_)
   go_simp
   refine (specSayVec_any id (some ⟨b, off, none⟩) n c l (k : Int) _ (h.below (gr_trans HB.out vv))).mono ?_
   rintro e wx ⟨rfl, hbx⟩
   have vv := gr_trans vv hbx
   clear hbx
   go_wp2_with fail
   refine hK.out _ _ (HSS.out _ vv) (fun hHeld => ?_)
   clear hK K
   try simp only [Act.put, lA, lB, lC]
   refine kR 16 q334 (fun K hK => ?_)
   go_simp
   refine (specLessVec_any (sayV id l (k : Int)).r (sayV id l (k : Int)).c (sayV id l (k : Int)).h (sayV id l (k : Int)).b (sayV id l (k : Int)).p x.v.r x.v.c x.v.h x.v.b x.v.p _).mono ?_
   rintro e wx ⟨rfl, hbx⟩
   rw [HL.out]
   have vv := gr_trans vv hbx
   clear hbx
   go_wp2_with fail
   refine hK.out _ _ (HSS.out _ vv) (fun hHeld => ?_)
   clear hK K
   try simp only [Act.put, lA, lB, lC]
   refine kK 17 q335 ?_
   refine kK 18 q336 ?_
   refine wpAnyH_done (by kernel_rfl) ?_ _
   clear hHeld
   go_wp2
   go_ret
   exact ⟨(by rw [HR.out]; rfl), gr_trans HB.out vv⟩

set_option maxRecDepth 100000 in
set_option maxHeartbeats 2000000 in
theorem specSends_any (id : Int) (a : Option Addr) (n c : Nat) (l : List PT) (w : World) (h : GRow ptF w a n c l) :
  Calls Tryz.prog 117 #[.int .i64 id, .slice a n c] w fun e w' => e = .returned (.int .i64 (sendsOf id l)) ∧ Below w.heap.size w w' := by
 have hle := h.le
 have htop := h.top
 unfold maxLen at htop
 have hsz := hide h.size
 go_enter Tryz.func117, Tryz.ntmps117
 go_wp2_with fail
 go_loopw [5, 6] (fun s i wr => ∃ k : Nat, k ≤ min n 6 ∧ i = .int .i64 k ∧ s = .int .i64 (sendsTo id l k) ∧ Below w.heap.size w wr) (fun _ i _ => 6 - (intOf i).toNat)
 case atStart => exact ⟨0, Nat.zero_le _, rfl, rfl, Below.refl _ _⟩
 case round =>
  obtain ⟨k, hk, rfl, rfl, hb⟩ := hrel
  have hk6 : k ≤ 6 := by omega
  generalize hS : sendsTo id l k = S
  have HS := hide hS
  clear hS
  by_cases hlt : k < min n 6
  ·have hkn : k < n := by omega
   have hk5 : k < 6 := by omega
   have i1 : (0 : Int) ≤ (k : Int) := by omega
   have i2 : (k : Int) < (n : Int) := by omega
   have i3 : (k : Int) < 6 := by omega
   have hmin : (if (n : Int) ≤ 6 then (n : Int) else 6) = ((min n 6 : Nat) : Int) := by split <;> omega
   have i4 : (k : Int) < ((min n 6 : Nat) : Int) := by omega
   have HB := hide hb
   clear hk hb
   go_wp2_with fail
   refine (specRole_any id a n c l (k : Int) _ (h.below HB.out)).mono ?_
   rintro e w2 ⟨rfl, hb2⟩
   have HB2 := hide (gr_trans HB.out hb2)
   have h14 := role_one (id := id) (l := l) (k : Int)
   clear hb2
   generalize hR : roleOf id l (k : Int) = R at *
   have HR := hide hR
   clear hR
   by_cases hr : R ≤ 2
   ·have HN : Hid (sendsTo id l (k + 1) = bits .or .i64 S (2 ^ k)) := hide (by rw [sendsTo, HR.out, if_pos hr, HS.out])
    have hw2 : wrap64 (2 ^ k) = 2 ^ k := by
     rcases (show k = 0 ∨ k = 1 ∨ k = 2 ∨ k = 3 ∨ k = 4 ∨ k = 5 by omega) with rfl | rfl | rfl | rfl | rfl | rfl <;> exact Go.IntWalk.wrap64_in _ (by decide)
    have HW2 := hide hw2
    clear hw2
    go_wp2
    rw [HW2.out]
    go_roundw
    case rel => exact ⟨k + 1, by omega, by go_num, by rw [HN.out], HB2.out⟩
    case measure => simp [intOf]; omega
   ·have HN : Hid (sendsTo id l (k + 1) = S) := hide (by rw [sendsTo, HR.out, if_neg hr, HS.out])
    go_wp2
    go_roundw
    case rel => exact ⟨k + 1, by omega, by go_num, by rw [HN.out], HB2.out⟩
    case measure => simp [intOf]; omega
  ·have hkn : k = min n 6 := by omega
   have HK : Hid (sendsOf id l = S) := hide (by unfold sendsOf; rw [hsz.out, ← hkn]; exact HS.out)
   have hend : ¬ ((k : Int) < (n : Int) ∧ (k : Int) < 6) := by omega
   go_wp2
   all_goals go_ret
   all_goals exact ⟨(by rw [HK.out]; rfl), hb⟩

theorem own_lit {α : Type} (F : Flat α) {w : World} {g base : Nat} {l : List α} {cs : Array Value} {T : TypeId} (h : w.heap[g]? = some (.cells cs T)) (hc : cs.toList = F.all l) (hb : base ≤ g) (hm : l.length ≤ 1000) : w.ownsRow base T F.k (.slice (some ⟨g, 0, none⟩) l.length l.length) l.length (F.all l) := by
 have hl : cs.toList.length = l.length * F.k := by rw [hc, F.all_length]
 refine ⟨by rw [F.all_length], .inr ⟨g, l.length, cs, rfl, hb, h, Nat.le_refl _, by unfold maxLen; omega, ?_, ?_⟩⟩
 ·simpa using hl
 ·rw [← hc, ← hl, List.take_length]

theorem GRow.take {α : Type} {F : Flat α} {w : World} {ao : Option Addr} {n c k : Nat} {l : List α} (h : GRow F w ao n c l) (hk : k ≤ n) : GRow F w ao k c (l.take k) where
 size := by have := h.size; simp; omega
 le := Nat.le_trans hk h.le
 top := h.top
 nil := h.nil
 cell := by
  rcases h.cell with h0 | ⟨b, off, ha, hc⟩
  ·exact .inl (by omega)
  ·refine .inr ⟨b, off, ha, fun i x hi j v hv => hc i x ?_ j v hv⟩
   rw [List.getElem?_take] at hi
   split at hi
   ·exact hi
   ·cases hi

def lessB (V B : BR) : Prop := V.ports.length ≤ B.ports.length ∧ V.f.length ≤ B.f.length ∧ V.v = B.v

theorem turned_less (B : BR) : lessB (turned B) B := ⟨Nat.le_refl _, (flushTo_sub _ _ _).length_le, rfl⟩

theorem less_trans {a b c : BR} (h : lessB a b) (k : lessB b c) : lessB a c := ⟨Nat.le_trans h.1 k.1, Nat.le_trans h.2.1 k.2.1, h.2.2.trans k.2.2⟩

theorem hear_less (B : BR) (port : Int) (v : VD) : lessB (hearB B port v) B := by
 unfold hearB
 split
 ·split
  ·split
   ·exact less_trans (turned_less _) ⟨by simp, Nat.le_refl _, rfl⟩
   ·exact ⟨Nat.le_refl _, Nat.le_refl _, rfl⟩
  ·exact ⟨Nat.le_refl _, Nat.le_refl _, rfl⟩
 ·exact ⟨Nat.le_refl _, Nat.le_refl _, rfl⟩

def markLk (k : Int) : LK := ⟨k, k + 1, k + 1 + 1, k + 1 + 1 + 1⟩
def markLs (k : Int) (n : Nat) : List LK := (List.range n).map fun (i : Nat) => markLk (k + 4 * i)

theorem markLs_length (k : Int) (n : Nat) : (markLs k n).length = n := by simp [markLs]
theorem markLs_succ (k : Int) (j : Nat) : markLs k (j + 1) = markLs k j ++ [markLk (k + 4 * j)] := by simp [markLs, List.range_succ]
theorem markLs_at (k : Int) (n j : Nat) (h : j < n) : (markLs k n)[j]? = some (markLk (k + 4 * j)) := by simp [markLs, List.getElem?_map, List.getElem?_range h]

set_option maxRecDepth 100000 in
set_option maxHeartbeats 2000000 in
theorem markLinks_at (base g n cap : Nat) (l : List LK) (k : Int) (w : World) (hown : w.ownsRow base 110 4 (.slice (some ⟨g, 0, none⟩) n cap) n (linkF.all l)) (hn : n ≤ 16777216) (hk0 : 0 ≤ k) (hk1 : k ≤ 1099511627776) :
  Calls Tryz.prog 46 #[.slice (some ⟨g, 0, none⟩) n cap, .int .i64 k] w fun r w' => r = .returned (.int .i64 (k + 4 * n)) ∧ w'.ownsRow base 110 4 (.slice (some ⟨g, 0, none⟩) n cap) n (linkF.all (markLs k n)) ∧ w.grownBy w' (some g) := by
 have hl : l.length = n := (grow_own (F := linkF) hown).size
 go_enter Tryz.func46, Tryz.ntmps46
 go_wp2
 go_loopw [1, 5] (fun m i wr => ∃ j : Nat, j ≤ n ∧ i = .int .i64 j ∧ m = .int .i64 (k + 4 * j) ∧ wr.ownsRow base 110 4 (.slice (some ⟨g, 0, none⟩) n cap) n (linkF.all (markLs k j ++ l.drop j)) ∧ w.grownBy wr (some g)) (fun _ i _ => n - (intOf i).toNat)
 case atStart => exact ⟨0, Nat.zero_le _, rfl, by simp, by simpa [markLs] using hown, World.grownBy.refl _ _⟩
 case round =>
  obtain ⟨j, hj, rfl, rfl, how, hg⟩ := hrel
  by_cases hlt : j < n
  ·obtain ⟨x, hx⟩ : ∃ x, l[j]? = some x := ⟨l[j]'(by omega), List.getElem?_eq_getElem (by omega)⟩
   have hdr : l.drop j = x :: l.drop (j + 1) := by
    obtain ⟨h, rfl⟩ := List.getElem?_eq_some_iff.1 hx
    exact List.drop_eq_getElem_cons h
   rw [hdr] at how
   have hlj := markLs_length k j
   have hz : (markLs k j ++ x :: l.drop (j + 1))[j]? = some x := by rw [List.getElem?_append_right (by omega), hlj, Nat.sub_self]; rfl
   obtain ⟨⟨t0, t1, t2, t3⟩, f0, f1, f2, f3⟩ := link_cells how hz
   have o3 := link_put (y := markLk (k + 4 * j)) how
   rw [hlj] at o3
   have HO3 := hide o3
   have HG := hide (grownTr hg (link_puts (w := wr) (g := g) (j := j * 4) (y := markLk (k + 4 * j))))
   have HM := hide (markLs_succ k j)
   have hm : 0 ≤ k + 4 * (j : Int) ∧ k + 4 * (j : Int) ≤ 2199023255552 := by omega
   clear how hg hown o3 hz hdr
   generalize hK : k + 4 * (j : Int) = K at *
   go_wp2
   go_roundw
   case rel => exact ⟨j + 1, by omega, by go_num, by simp; omega, by rw [HM.out, List.append_assoc]; exact HO3.out, HG.out⟩
   case measure => simp [intOf]; omega
  ·have hj' : j = n := by omega
   subst hj'
   rw [List.drop_eq_nil_of_le (by omega), List.append_nil] at how
   have HO := hide how
   clear how hown
   go_wp2
   go_ret
   exact ⟨rfl, HO.out, hg⟩

set_option maxRecDepth 100000 in
set_option maxHeartbeats 400000 in
theorem markLinks_nil (k : Int) (c : Nat) (w : World) :
  Calls Tryz.prog 46 #[.slice none 0 c, .int .i64 k] w fun r w' => r = .returned (.int .i64 k) ∧ w' = w := by
 go_enter Tryz.func46, Tryz.ntmps46
 go_wp2
 go_loop [1, 5] (fun m i => m = .int .i64 k ∧ i = .int .i64 0) (fun _ _ => 0)
 case atStart => exact ⟨rfl, rfl⟩
 case round =>
  obtain ⟨rfl, rfl⟩ := hrel
  go_wp2
  go_ret
  exact ⟨rfl, rfl⟩

theorem markLinks_grown (base : Nat) (ao : Option Addr) (n cap : Nat) (l : List LK) (k : Int) (w : World) (hown : w.ownsRow base 110 4 (.slice ao n cap) n (linkF.all l)) (hn : n ≤ 16777216) (hk0 : 0 ≤ k) (hk1 : k ≤ 1099511627776) :
  Calls Tryz.prog 46 #[.slice ao n cap, .int .i64 k] w fun r w' => r = .returned (.int .i64 (k + 4 * n)) ∧ w'.ownsRow base 110 4 (.slice ao n cap) n (linkF.all (markLs k n)) ∧ w.grownBy w' (Value.slice ao n cap).ownBlock := by
 rcases hown.2 with ⟨e, h0⟩ | ⟨g, cap', cur, e, -⟩
 ·cases e
  refine (markLinks_nil k 0 w).mono ?_
  rintro r w' ⟨rfl, rfl⟩
  exact ⟨by simp, by simpa [markLs, Flat.all] using World.ownsRow_nil w' base 110 4, World.grownBy.refl _ _⟩
 ·cases e
  exact markLinks_at base g n cap l k w hown hn hk0 hk1

set_option maxRecDepth 100000 in
set_option maxHeartbeats 2000000 in
theorem heldLinks_any (ao : Option Addr) (n cap : Nat) (k : Int) (w : World) (h1 : GRow linkF w ao n cap (markLs k n)) (hn : n ≤ 16777216) (hk0 : 0 ≤ k) (hk1 : k ≤ 1099511627776) :
  Calls Tryz.prog 49 #[.slice ao n cap, .int .i64 k] w fun r w' => r = .returned (.int .i64 (k + 4 * n)) ∧ Below w.heap.size w w' := by
 go_enter Tryz.func49, Tryz.ntmps49
 go_wp2
 go_loopw [1, 5] (fun m i wr => ∃ j : Nat, j ≤ n ∧ i = .int .i64 j ∧ m = .int .i64 (k + 4 * j) ∧ Below w.heap.size w wr) (fun _ i _ => n - (intOf i).toNat)
 case atStart => exact ⟨0, Nat.zero_le _, rfl, by simp, Below.refl _ _⟩
 case round =>
  obtain ⟨j, hj, rfl, rfl, hb⟩ := hrel
  by_cases hlt : j < n
  ·obtain ⟨x, b, off, hx, rfl, c0, c1, c2, c3⟩ := link_at (h1.below hb) j hlt
   rw [markLs_at k n j hlt] at hx
   cases hx
   have hm : 0 ≤ k + 4 * (j : Int) ∧ k + 4 * (j : Int) ≤ 2199023255552 := by omega
   unfold markLk at c0 c1 c2 c3
   generalize hK : k + 4 * (j : Int) = K at *
   go_wp2
   go_roundw
   case rel => exact ⟨j + 1, by omega, by go_num, by simp; omega, hb⟩
   case measure => simp [intOf]; omega
  ·have hj' : j = n := by omega
   subst hj'
   go_wp2
   go_ret
   exact ⟨rfl, hb⟩

set_option maxRecDepth 100000 in
set_option maxHeartbeats 400000 in
theorem markSays_nil (k : Int) (c : Nat) (w : World) :
  Calls Tryz.prog 47 #[.slice none 0 c, .int .i64 k] w fun r w' => r = .returned (.int .i64 k) ∧ w' = w := by
 go_enter Tryz.func47, Tryz.ntmps47
 go_wp2
 go_loop [1, 5] (fun m i => m = .int .i64 k ∧ i = .int .i64 0) (fun _ _ => 0)
 case atStart => exact ⟨rfl, rfl⟩
 case round =>
  obtain ⟨rfl, rfl⟩ := hrel
  go_wp2
  go_ret
  exact ⟨rfl, rfl⟩

def byB (zs : List Int) : ByteArray := ⟨(zs.map fun z => UInt8.ofNat z.toNat).toArray⟩

theorem byB_size (zs : List Int) : (byB zs).size = zs.length := by
 show (zs.map fun z => UInt8.ofNat z.toNat).toArray.size = _
 rw [List.size_toArray, List.length_map]

theorem byte_back {z : Int} (h : 0 ≤ z ∧ z ≤ 255) : ((UInt8.ofNat z.toNat).toNat : Int) = z := by
 rw [UInt8.toNat_ofNat']
 omega

theorem conv_row (dst : TypeId) (w : World) (ao : Option Addr) (l c : Nat) (zs : List Int) (h : Row w ao l c zs) (hd : Tryz.prog.underlying dst = some .string) : (convert 187 dst (.slice ao l c)).run Tryz.prog w = .ok (.string (byB zs)) w := by
 have hl : (zs.map fun z => UInt8.ofNat z.toNat).length = l := by rw [List.length_map]; exact h.size
 rcases ao with _ | a
 ·obtain ⟨rfl, rfl⟩ := h.none_zero rfl
  have hz : zs = [] := List.eq_nil_of_length_eq_zero h.size
  subst hz
  rw [run_convert_bytes_string w 187 dst 5 none 0 0 Tryz.underlying187 Tryz.underlying5 hd]
  rfl
 ·have := run_convert_bytes_back (P := Tryz.prog) w 187 dst 5 a c (zs.map fun z => UInt8.ofNat z.toNat) Tryz.underlying187 Tryz.underlying5 hd (by
   intro j hj
   have hj' : j < zs.length := by simpa using hj
   rw [h.news a rfl j _ (cB_get zs j hj')]
   have hb := getD_byte h.byte j
   have e : (zs.map fun z => UInt8.ofNat z.toNat)[j] = UInt8.ofNat (zs.getD j 0).toNat := by simp [List.getD_eq_getElem?_getD, hj']
   rw [e, byte_back hb])
  rw [hl] at this
  exact this

def mtF : Nat → Nat → ByteArray → ByteArray
 | 0, _, out => out
 | f + 1, k, out => if k = 0 then out else mtF f (k / 10) (byB [((48 + k % 10 : Nat) : Int)] ++ out)
def mtx (k : Int) : ByteArray := ⟨#[109]⟩ ++ mtF 20 k.toNat ⟨#[]⟩

theorem mtF_zero (f : Nat) (out : ByteArray) : mtF f 0 out = out := by cases f <;> simp [mtF]

structure MT (k : Int) (m : Nat) (out : ByteArray) : Prop where
 f : ∃ f, mtF f m out = mtF 20 k.toNat ⟨#[]⟩ ∧ m < 10 ^ f ∧ out.size + f ≤ 20

theorem MT.next {k : Int} {m : Nat} {out : ByteArray} (h : MT k m out) (hm : 0 < m) : MT k (m / 10) (byB [((48 + m % 10 : Nat) : Int)] ++ out) := by
 obtain ⟨f, h1, h2, h3⟩ := h.f
 cases f with
 | zero => simp at h2; omega
 | succ f =>
  refine ⟨f, ?_, ?_, ?_⟩
  ·rw [← h1]
   conv => rhs; unfold mtF
   rw [if_neg (by omega)]
  ·rw [Nat.pow_succ] at h2; omega
  ·rw [ByteArray.size_append, byB_size]; simp; omega
theorem MT.done {k : Int} {out : ByteArray} (h : MT k 0 out) : ⟨#[109]⟩ ++ out = mtx k := by
 obtain ⟨f, h1, -, -⟩ := h.f
 rw [mtF_zero] at h1
 unfold mtx
 rw [h1]
theorem MT.small {k : Int} {m : Nat} {out : ByteArray} (h : MT k m out) : out.size ≤ 20 := by
 obtain ⟨f, -, -, h3⟩ := h.f; omega

set_option maxRecDepth 100000 in
set_option maxHeartbeats 1000000 in
theorem markText_any (k : Int) (w : World) (h0 : 0 < k) (h1 : k ≤ 1099511627776) :
  Calls Tryz.prog 90 #[.int .i64 k] w fun e w' => e = .returned (.string (mtx k)) ∧ (mtx k).size ≤ 21 ∧ Below w.heap.size w w' := by
 have hstart : MT k k.toNat ⟨#[]⟩ := ⟨20, rfl, by omega, by simp [ByteArray.size]⟩
 have hk0 : ¬ k ≤ 0 := by omega
 go_enter Tryz.func90, Tryz.ntmps90
 go_wp2
 go_loopw [0, 3] (fun x s wr => ∃ (m : Nat) (out : ByteArray), x = .int .i64 m ∧ s = .string out ∧ (m : Int) ≤ k ∧ MT k m out ∧ Below w.heap.size w wr) (fun x _ _ => (intOf x).toNat)
 case atStart => exact ⟨k.toNat, ⟨#[]⟩, by rw [Int.toNat_of_nonneg (by omega)], rfl, by omega, hstart, Below.refl _ _⟩
 case round =>
  obtain ⟨m, out, rfl, rfl, hmk, hmt, hb⟩ := hrel
  have hsm := hmt.small
  by_cases hm : 0 < m
  ·have hnx := hmt.next hm
   have hw0 : (m : Int).tdiv 10 = ((m / 10 : Nat) : Int) := by rw [Int.tdiv_eq_ediv_of_nonneg (by omega)]; omega
   have hw1 : (m : Int).tmod 10 = ((m % 10 : Nat) : Int) := by rw [Int.tmod_eq_emod_of_nonneg (by omega)]; omega
   have hd : m % 10 < 10 := Nat.mod_lt _ (by omega)
   have hcv := conv_row 9 (wr.alloc (.cells #[.int .u8 ((48 + m % 10 : Nat) : Int)] 5)) (some ⟨wr.heap.size, 0, none⟩) 1 1 [((48 + m % 10 : Nat) : Int)] (row_one wr _ (by omega)) Tryz.underlying9
   have hbs : (byB [((48 + m % 10 : Nat) : Int)]).size = 1 := byB_size _
   have HB := hide (hb.trans ((below_one wr (.cells #[.int .u8 ((48 + m % 10 : Nat) : Int)] 5)).mono hb.size))
   have HN := hide hnx
   clear hb hnx hstart hmt
   generalize hD : ((48 + m % 10 : Nat) : Int) = D at *
   have hD' : 48 + ((m % 10 : Nat) : Int) = D := by rw [← hD]; omega
   generalize ((m % 10 : Nat) : Int) = r at *
   generalize hq : m / 10 = q at *
   go_wp2
   go_roundw
   case rel => exact ⟨q, _, rfl, rfl, by omega, HN.out, HB.out⟩
   case measure => simp [intOf]; omega
  ·have hm0 : m = 0 := by omega
   subst hm0
   have HD := hide hmt.done
   have hsz : (ByteArray.mk #[109] ++ out).size ≤ 21 := by rw [ByteArray.size_append]; have : (ByteArray.mk #[109]).size = 1 := rfl; omega
   have HS := hide hsz
   clear hsz hmt
   go_wp2
   go_ret
   exact ⟨by rw [← HD.out]; rfl, by rw [← HD.out]; exact HS.out, hb⟩

end Go.Proofs.YtpgdahenmpkcnaaGreat
