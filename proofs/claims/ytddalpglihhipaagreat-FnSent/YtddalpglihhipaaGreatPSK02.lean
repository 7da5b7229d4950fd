/-
  Packed: FdbMath FentMem VtabMath IBase IHelp VrowMem BrMem PtLaws FdbLaws BrLaws VecEql PtOkS PtHelp PtApp VtabAt Made VlanRow VlanBits.
-/
import Derived.Test.YtddalpglihhipaaGreatPSKW
import Derived.Test.YtddalpglihhipaaGreatPSK01
import Derived.Deep.RegionHeld3
import Derived.Deep.CutRange
namespace Go.Proofs.YtddalpglihhipaaGreat
open Go.RowKit

structure FE where
 t : Int
 m : Int
 p : Int
 a : Int
 s : Bool

def entOk (e : FE) : Bool :=
 (decide (1 ≤ e.t) && decide (e.t ≤ 99)) && ((decide (1 ≤ e.m) && decide (e.m ≤ 9999)) && ((decide (0 ≤ e.p) && decide (e.p ≤ 7)) && ((decide (0 ≤ e.a) && decide (e.a ≤ 4)) && (!e.s || (e.a == 0)))))

theorem entOk_iff (e : FE) : entOk e = true ↔ (1 ≤ e.t ∧ e.t ≤ 99) ∧ (1 ≤ e.m ∧ e.m ≤ 9999) ∧ (0 ≤ e.p ∧ e.p ≤ 7) ∧ (0 ≤ e.a ∧ e.a ≤ 4) ∧ (e.s = true → e.a = 0) := by
 unfold entOk
 cases e.s <;> simp

def ahead (e : FE) (t m : Int) : Bool := if (e.t != t) = true then decide (e.t < t) else decide (e.m < m)

def both (e : FE) (t m : Int) : Bool := (e.t == t) && (e.m == m)

theorem both_iff {e : FE} {t m : Int} : both e t m = true ↔ e.t = t ∧ e.m = m := by simp [both]
theorem both_not {e : FE} {t m : Int} : both e t m = false ↔ ¬ (e.t = t ∧ e.m = m) := by
 rw [← both_iff]; simp

theorem ahead_iff {e : FE} {t m : Int} : ahead e t m = true ↔ e.t < t ∨ (e.t = t ∧ e.m < m) := by
 unfold ahead
 by_cases h : e.t = t
 ·simp [h]
 ·simp [h]
theorem ahead_not {e : FE} {t m : Int} : ahead e t m = false ↔ ¬ (e.t < t ∨ (e.t = t ∧ e.m < m)) := by
 rw [← ahead_iff]; simp

def rises : List FE → Bool
 | [] => true
 | [e] => entOk e
 | e :: f :: r => entOk e && (ahead e f.t f.m && rises (f :: r))

def fdbOk (l : List FE) : Bool := rises l && decide ((l.length : Int) ≤ 12)

def Sorted (l : List FE) : Prop := (∀ e ∈ l, entOk e = true) ∧ l.Pairwise (fun e f => ahead e f.t f.m = true)

theorem ahead_trans {e f g : FE} (h1 : ahead e f.t f.m = true) (h2 : ahead f g.t g.m = true) : ahead e g.t g.m = true := by
 rw [ahead_iff] at *
 omega

theorem rises_sorted : ∀ (l : List FE), rises l = true ↔ Sorted l
 | [] => by simp [rises, Sorted]
 | [e] => by simp [rises, Sorted]
 | e :: f :: r => by
  have ih := rises_sorted (f :: r)
  unfold rises
  simp only [Bool.and_eq_true, ih]
  constructor
  ·rintro ⟨h1, h2, h3, h4⟩
   refine ⟨?_, ?_⟩
   ·intro x hx
    rcases List.mem_cons.1 hx with rfl | hx
    ·exact h1
    ·exact h3 x hx
   ·refine List.pairwise_cons.2 ⟨?_, h4⟩
    intro x hx
    rcases List.mem_cons.1 hx with rfl | hx
    ·exact h2
    ·exact ahead_trans h2 ((List.pairwise_cons.1 h4).1 x hx)
  ·rintro ⟨h1, h2⟩
   obtain ⟨h3, h4⟩ := List.pairwise_cons.1 h2
   exact ⟨h1 e (by simp), h3 f (by simp), fun x hx => h1 x (List.mem_cons_of_mem _ hx), h4⟩

theorem fdbOk_iff (l : List FE) : fdbOk l = true ↔ Sorted l ∧ l.length ≤ 12 := by
 unfold fdbOk
 rw [Bool.and_eq_true, rises_sorted, decide_eq_true_eq]
 constructor <;> rintro ⟨h1, h2⟩ <;> exact ⟨h1, by omega⟩

theorem sorted_tail {e : FE} {l : List FE} (h : Sorted (e :: l)) : Sorted l := ⟨fun x hx => h.1 x (List.mem_cons_of_mem _ hx), (List.pairwise_cons.1 h.2).2⟩
theorem sorted_head {e : FE} {l : List FE} (h : Sorted (e :: l)) : entOk e = true ∧ ∀ x ∈ l, ahead e x.t x.m = true := ⟨h.1 e (by simp), (List.pairwise_cons.1 h.2).1⟩

def lookE (l : List FE) (t m : Int) : Option FE := l.find? (fun e => both e t m)

def lookUp (l : List FE) (t m : Int) : Int :=
 match lookE l t m with
 | some e => e.p
 | none => -1

theorem look_mem {l : List FE} (h : Sorted l) {e : FE} (he : e ∈ l) : lookE l e.t e.m = some e := by
 induction l with
 | nil => cases he
 | cons x r ih =>
  obtain ⟨_, hx⟩ := sorted_head h
  unfold lookE
  rw [List.find?_cons]
  rcases List.mem_cons.1 he with rfl | he
  ·rw [both_iff.2 ⟨rfl, rfl⟩]
  ·have := hx e he
   rw [ahead_iff] at this
   rw [both_not.2 (by omega)]
   exact ih (sorted_tail h) he

theorem look_some {l : List FE} {t m : Int} {e : FE} (h : lookE l t m = some e) : e ∈ l ∧ e.t = t ∧ e.m = m :=
 ⟨List.mem_of_find?_eq_some h, both_iff.1 (List.find?_some (p := fun e => both e t m) h)⟩

theorem look_none {l : List FE} {t m : Int} : lookE l t m = none ↔ ∀ e ∈ l, ¬ (e.t = t ∧ e.m = m) := by
 unfold lookE
 rw [List.find?_eq_none]
 constructor
 ·intro h e he hb
  exact h e he (both_iff.2 hb)
 ·intro h e he hb
  exact h e he (both_iff.1 hb)

def putGo (e : FE) : Bool → List FE → List FE
 | d, [] => if d = true then [] else [e]
 | d, x :: r =>
  if (!d && !ahead x e.t e.m) = true then e :: (if both x e.t e.m = true then putGo e true r else x :: putGo e true r)
  else if both x e.t e.m = true then putGo e d r else x :: putGo e d r

def putF8 (e : FE) (l : List FE) : List FE := putGo e false l

theorem putGo_behind {e : FE} {l : List FE} (h : ∀ x ∈ l, ahead e x.t x.m = true) : putGo e true l = l := by
 induction l with
 | nil => rfl
 | cons x r ih =>
  unfold putGo
  have hx := h x (by simp)
  rw [ahead_iff] at hx
  rw [both_not.2 (by omega)]
  simp [ih (fun y hy => h y (List.mem_cons_of_mem _ hy))]

def insF (e : FE) : List FE → List FE
 | [] => [e]
 | x :: r => if ahead x e.t e.m = true then x :: insF e r else if both x e.t e.m = true then e :: r else e :: x :: r

theorem putF8_sorted {e : FE} {l : List FE} (h : Sorted l) : putF8 e l = insF e l := by
 unfold putF8
 induction l with
 | nil => rfl
 | cons x r ih =>
  obtain ⟨_, hx⟩ := sorted_head h
  unfold putGo insF
  cases ha : ahead x e.t e.m
  ·have hb : ∀ y ∈ r, ahead e y.t y.m = true := by
    intro y hy
    have := hx y hy
    rw [ahead_iff] at *
    rw [ahead_not] at ha
    omega
   rw [putGo_behind hb]
   simp
   split <;> rfl
  ·have ha' := ha
   rw [ahead_iff] at ha'
   rw [both_not.2 (by omega)]
   simp [ih (sorted_tail h)]

theorem mem_insF {e : FE} {l : List FE} (h : Sorted l) {x : FE} : x ∈ insF e l ↔ x = e ∨ (x ∈ l ∧ ¬ (x.t = e.t ∧ x.m = e.m)) := by
 induction l with
 | nil => simp [insF]
 | cons y r ih =>
  obtain ⟨_, hy⟩ := sorted_head h
  unfold insF
  cases ha : ahead y e.t e.m
  ·have hr : ∀ z ∈ r, ¬ (z.t = e.t ∧ z.m = e.m) := by
    intro z hz
    have := hy z hz
    rw [ahead_iff] at this
    rw [ahead_not] at ha
    omega
   cases hb : both y e.t e.m
   ·rw [both_not] at hb
    simp only [Bool.false_eq_true, if_false, List.mem_cons]
    constructor
    ·rintro (rfl | rfl | hx)
     ·exact .inl rfl
     ·exact .inr ⟨.inl rfl, hb⟩
     ·exact .inr ⟨.inr hx, hr x hx⟩
    ·rintro (rfl | ⟨rfl | hx, _⟩)
     ·exact .inl rfl
     ·exact .inr (.inl rfl)
     ·exact .inr (.inr hx)
   ·rw [both_iff] at hb
    simp only [Bool.false_eq_true, if_false, if_true, List.mem_cons]
    constructor
    ·rintro (rfl | hx)
     ·exact .inl rfl
     ·exact .inr ⟨.inr hx, hr x hx⟩
    ·rintro (rfl | ⟨rfl | hx, hn⟩)
     ·exact .inl rfl
     ·exact absurd hb hn
     ·exact .inr hx
  ·simp only [if_true, List.mem_cons, ih (sorted_tail h)]
   have hb : ¬ (y.t = e.t ∧ y.m = e.m) := by rw [ahead_iff] at ha; omega
   constructor
   ·rintro (rfl | rfl | ⟨hx, hn⟩)
    ·exact .inr ⟨.inl rfl, hb⟩
    ·exact .inl rfl
    ·exact .inr ⟨.inr hx, hn⟩
   ·rintro (rfl | ⟨rfl | hx, hn⟩)
    ·exact .inr (.inl rfl)
    ·exact .inl rfl
    ·exact .inr (.inr ⟨hx, hn⟩)

theorem sorted_insF {e : FE} (he : entOk e = true) {l : List FE} (h : Sorted l) : Sorted (insF e l) := by
 refine ⟨?_, ?_⟩
 ·intro x hx
  rcases (mem_insF h).1 hx with rfl | ⟨hx, _⟩
  ·exact he
  ·exact h.1 x hx
 ·induction l with
  | nil => simp [insF]
  | cons y r ih =>
   obtain ⟨_, hy⟩ := sorted_head h
   unfold insF
   cases ha : ahead y e.t e.m
   ·have hr : ∀ z ∈ r, ahead e z.t z.m = true := by
     intro z hz
     have := hy z hz
     rw [ahead_iff] at *
     rw [ahead_not] at ha
     omega
    cases hb : both y e.t e.m
    ·simp only [Bool.false_eq_true, if_false]
     refine List.pairwise_cons.2 ⟨?_, h.2⟩
     intro z hz
     rcases List.mem_cons.1 hz with rfl | hz
     ·rw [ahead_not] at ha
      rw [both_not] at hb
      rw [ahead_iff]
      omega
     ·exact hr z hz
    ·simp only [Bool.false_eq_true, if_false, if_true]
     exact List.pairwise_cons.2 ⟨hr, (List.pairwise_cons.1 h.2).2⟩
   ·simp only [if_true]
    refine List.pairwise_cons.2 ⟨?_, ih (sorted_tail h)⟩
    intro z hz
    rcases (mem_insF (sorted_tail h)).1 hz with rfl | ⟨hz, _⟩
    ·exact ha
    ·exact hy z hz

theorem length_insF {e : FE} {l : List FE} (h : Sorted l) : (insF e l).length = if (lookE l e.t e.m).isSome = true then l.length else l.length + 1 := by
 induction l with
 | nil => rfl
 | cons y r ih =>
  obtain ⟨_, hy⟩ := sorted_head h
  unfold insF lookE
  rw [List.find?_cons]
  cases ha : ahead y e.t e.m
  ·cases hb : both y e.t e.m
   ·have hr : lookE r e.t e.m = none := look_none.2 (by
     intro z hz
     have := hy z hz
     rw [ahead_iff] at this
     rw [ahead_not] at ha
     omega)
    unfold lookE at hr
    simp [hr]
   ·simp
  ·have hb : both y e.t e.m = false := both_not.2 (by rw [ahead_iff] at ha; omega)
   rw [hb]
   have ih := ih (sorted_tail h)
   unfold lookE at ih
   simp only [if_true, List.length_cons, ih]
   split <;> rfl

def atF (l : List FE) (t m : Int) : Int :=
 match l.findIdx? (fun e => both e t m) with
 | some i => i
 | none => -1

def canLearn (l : List FE) (t m p : Int) : Bool :=
 fdbOk l && (entOk ⟨t, m, p, 0, false⟩ && (match lookE l t m with | some e => !e.s | none => decide (l.length < 12)))
def learnF (l : List FE) (t m p : Int) : List FE := if canLearn l t m p = true then putF8 ⟨t, m, p, 0, false⟩ l else l

def ageE (e : FE) : Option FE := if e.s = true then some e else if e.a < 4 then some ⟨e.t, e.m, e.p, e.a + 1, e.s⟩ else none
def ageF (l : List FE) : List FE := l.filterMap ageE

def flushF (l : List FE) (p : Int) : List FE := l.filter (fun e => e.s || (e.p != p))

def canSet (l : List FE) (t m p : Int) : Bool :=
 fdbOk l && (entOk ⟨t, m, p, 0, true⟩ && ((lookE l t m).isSome || decide (l.length < 12)))
def setF (l : List FE) (t m p : Int) : List FE := if canSet l t m p = true then putF8 ⟨t, m, p, 0, true⟩ l else l

def dropF : List FE → Int → Int → List FE
 | [], _, _ => []
 | e :: r, t, m => if (e.s && both e t m) = true then r else e :: dropF r t m
def canDrop (l : List FE) (t m : Int) : Bool := l.any (fun e => e.s && both e t m)

theorem learn_ok {l : List FE} (h : fdbOk l = true) (t m p : Int) : fdbOk (learnF l t m p) = true := by
 unfold learnF
 split
 ·rename_i hc
  unfold canLearn at hc
  simp only [Bool.and_eq_true] at hc
  obtain ⟨_, he, hm⟩ := hc
  obtain ⟨hs, hl⟩ := (fdbOk_iff l).1 h
  rw [putF8_sorted hs, fdbOk_iff]
  refine ⟨sorted_insF he hs, ?_⟩
  rw [length_insF hs]
  cases hk : lookE l t m with
  | some e => simp [hl]
  | none =>
   rw [hk] at hm
   simp at hm
   simp
   omega
 ·exact h

theorem set_ok {l : List FE} (h : fdbOk l = true) (t m p : Int) : fdbOk (setF l t m p) = true := by
 unfold setF
 split
 ·rename_i hc
  unfold canSet at hc
  simp only [Bool.and_eq_true] at hc
  obtain ⟨_, he, hm⟩ := hc
  obtain ⟨hs, hl⟩ := (fdbOk_iff l).1 h
  rw [putF8_sorted hs, fdbOk_iff]
  refine ⟨sorted_insF he hs, ?_⟩
  rw [length_insF hs]
  cases hk : lookE l t m with
  | some e => simp [hl]
  | none =>
   rw [hk] at hm
   simp at hm
   simp
   omega
 ·exact h

theorem drop_sub : ∀ (l : List FE) (t m : Int), (dropF l t m).Sublist l
 | [], _, _ => by simp [dropF]
 | e :: r, t, m => by
  unfold dropF
  split
  ·exact List.sublist_cons_self e r
  ·exact (drop_sub r t m).cons_cons e

section
open Go.RowKit

def fentF : Flat FE where
 k := 5
 cs := fun e => [.int .i64 e.t, .int .i64 e.m, .int .i64 e.p, .int .i64 e.a, .bool e.s]
 len := fun _ => rfl
 pos := by decide
 one := fun _ v hv => by
  simp only [List.mem_cons, List.not_mem_nil, or_false] at hv
  rcases hv with rfl | rfl | rfl | rfl | rfl <;> rfl

def FE.Rng (e : FE) : Prop := (-9223372036854775808 ≤ e.t ∧ e.t ≤ 9223372036854775807) ∧ (-9223372036854775808 ≤ e.m ∧ e.m ≤ 9223372036854775807) ∧ (-9223372036854775808 ≤ e.p ∧ e.p ≤ 9223372036854775807) ∧ (-9223372036854775808 ≤ e.a ∧ e.a ≤ 9223372036854775807)

theorem fent_at {w : World} {ao : Option Addr} {len cap : Nat} {l : List FE} (h : GRow fentF w ao len cap l) (i : Nat) (hi : i < len) : ∃ (x : FE) (b off : Nat), l[i]? = some x ∧ ao = some ⟨b, off, none⟩ ∧
  w.cell? ⟨b, off + i * 5, none⟩ = some (.int .i64 x.t) ∧ w.cell? ⟨b, off + i * 5 + 1, none⟩ = some (.int .i64 x.m) ∧ w.cell? ⟨b, off + i * 5 + 2, none⟩ = some (.int .i64 x.p) ∧ w.cell? ⟨b, off + i * 5 + 3, none⟩ = some (.int .i64 x.a) ∧ w.cell? ⟨b, off + i * 5 + 4, none⟩ = some (.bool x.s) := by
 obtain ⟨x, b, off, hx, ha, hc⟩ := h.at i hi
 exact ⟨x, b, off, hx, ha, hc 0 _ rfl, hc 1 _ rfl, hc 2 _ rfl, hc 3 _ rfl, hc 4 _ rfl⟩

section
open Go.ChangeShapes Go.WideShapes Go.ChangeAt
variable {H : Type} {enc : TypeId × Value → H} {P : Program} {w : World}

end

end

structure VR where
 i : Int
 m : Int
 b : Int

structure VT where
 rows : List VR
 own : List Int

def rowIdx (l : List VR) (id : Int) : Option Nat := l.findIdx? (fun r => r.i == id)
def rowAt (l : List VR) (id : Int) : Int := match rowIdx l id with
 | some k => k
 | none => -1

def in3 (x lo hi : Int) : Bool := decide (lo ≤ x) && decide (x ≤ hi)
def allOf (p : Nat) : Int := 2 ^ p - 1

def vrowOk (all : Int) (r : VR) : Bool := in3 r.i 1 99 && in3 r.m 0 all && in3 r.b 0 all && (bits .and .i64 r.b r.m == r.b)

def vrises : List VR → Bool
 | [] => true
 | [_] => true
 | e :: f :: r => decide (e.i < f.i) && vrises (f :: r)

def vtabOk (v : VT) (ports : Int) : Bool :=
 in3 ports 1 6 && ((v.own.length : Int) == ports) && decide (v.rows.length ≤ 6) && v.rows.all (vrowOk (allOf ports.toNat)) && vrises v.rows && v.own.all (fun p => (rowIdx v.rows p).isSome)

def bitOf (n port : Int) : Bool := in3 port 0 7 && (bits .and .i64 (n / 2 ^ port.toNat) 1 == 1)

def egressOf (v : VT) (id : Int) : Int := match v.rows.find? (fun r => r.i == id) with
 | some r => r.m
 | none => 0

def shownTag (v : VT) (id port : Int) : Int := match v.rows.find? (fun r => r.i == id) with
 | some r => if bitOf r.b port then 0 else id
 | none => 0

def putRowF (l : List VR) (r : VR) : Bool → List VR
 | d => match l with
  | [] => if d then [] else [r]
  | x :: t => (if !d && decide (r.i ≤ x.i) then [r] else []) ++ (if x.i != r.i then [x] else []) ++ putRowF t r (d || decide (r.i ≤ x.i))

theorem rowIdx_found {l : List VR} {id : Int} {k : Nat} {x : VR} (hno : ∀ j y, j < k → l[j]? = some y → (y.i == id) = false) (hx : l[k]? = some x) (he : (x.i == id) = true) : rowIdx l id = some k := by
 obtain ⟨hk, rfl⟩ := List.getElem?_eq_some_iff.1 hx
 refine List.findIdx?_eq_some_iff_getElem.2 ⟨hk, he, fun j hj => ?_⟩
 have := hno j l[j] hj (List.getElem?_eq_getElem (by omega))
 simp [this]

theorem rowIdx_none {l : List VR} {id : Int} (hno : ∀ (j : Nat) (y : VR), l[j]? = some y → (y.i == id) = false) : rowIdx l id = none := by
 refine List.findIdx?_eq_none_iff.2 fun x hx => ?_
 obtain ⟨j, hj⟩ := List.mem_iff_getElem?.1 hx
 exact hno j x hj

theorem rowIdx_some {l : List VR} {id : Int} {k : Nat} (h : rowIdx l id = some k) : ∃ x, l[k]? = some x ∧ (x.i == id) = true ∧ l.find? (fun r => r.i == id) = some x := by
 obtain ⟨hk, he, hno⟩ := List.findIdx?_eq_some_iff_getElem.1 h
 refine ⟨l[k], List.getElem?_eq_getElem hk, he, ?_⟩
 refine List.find?_eq_some_iff_getElem.2 ⟨he, k, hk, rfl, fun j hj => ?_⟩
 have := hno j hj
 simpa using this

theorem rowIdx_find {l : List VR} {id : Int} (h : rowIdx l id = none) : l.find? (fun r => r.i == id) = none := by
 refine List.find?_eq_none.2 fun x hx => ?_
 have := List.findIdx?_eq_none_iff.1 h x hx
 simp [this]

theorem vno_next {l : List VR} {id : Int} {k : Nat} {x : VR} (hno : ∀ j y, j < k → l[j]? = some y → (y.i == id) = false) (hx : l[k]? = some x) (he : (x.i == id) = false) : ∀ j y, j < k + 1 → l[j]? = some y → (y.i == id) = false := by
 intro j y hj hy
 by_cases e : j = k
 ·subst e
  rw [hx] at hy
  cases hy
  exact he
 ·exact hno j y (by omega) hy

theorem rowAt_found {l : List VR} {id : Int} {k : Nat} {x : VR} (hno : ∀ j y, j < k → l[j]? = some y → (y.i == id) = false) (hx : l[k]? = some x) (he : (x.i == id) = true) : rowAt l id = k := by
 unfold rowAt
 rw [rowIdx_found hno hx he]
theorem rowAt_none {l : List VR} {id : Int} (hno : ∀ (j : Nat) (y : VR), l[j]? = some y → (y.i == id) = false) : rowAt l id = -1 := by
 unfold rowAt
 rw [rowIdx_none hno]

def cI (zs : List Int) : List Value := zs.map (Value.int .i64)

def I64s (zs : List Int) : Prop := ∀ z ∈ zs, -9223372036854775808 ≤ z ∧ z ≤ 9223372036854775807

theorem cI_length (zs : List Int) : (cI zs).length = zs.length := by simp [cI]
theorem cI_append (a b : List Int) : cI (a ++ b) = cI a ++ cI b := by simp [cI]
theorem cI_get (zs : List Int) (j : Nat) (h : j < zs.length) : (cI zs)[j]? = some (.int .i64 (zs.getD j 0)) := by
 simp [cI, List.getElem?_map, List.getElem?_eq_getElem h]

structure IRow (w : World) (ao : Option Addr) (len cap : Nat) (zs : List Int) : Prop where
 size : zs.length = len
 le : len ≤ cap
 top : cap ≤ maxLen
 nil : ao = none → cap = 0
 byte : I64s zs
 cell : len = 0 ∨ ∃ b off, ao = some ⟨b, off, none⟩ ∧ ∀ i, i < len → w.cell? ⟨b, off + i, none⟩ = some (.int .i64 (zs.getD i 0))

theorem IRow.below {w w' : World} {ao : Option Addr} {len cap : Nat} {zs : List Int} (h : IRow w ao len cap zs) (hb : Below w.heap.size w w') : IRow w' ao len cap zs where
 size := h.size
 le := h.le
 top := h.top
 nil := h.nil
 byte := h.byte
 cell := by
  rcases h.cell with h0 | ⟨b, off, ha, hc⟩
  ·exact .inl h0
  ·exact .inr ⟨b, off, ha, fun i hi => by rw [hb.cell (block_lt (hc i hi))]; exact hc i hi⟩

theorem irow_of_own {w : World} {base : Nat} {v : Value} {n : Nat} {zs : List Int} (h : w.ownsRow base 3 1 v n (cI zs)) (hz : I64s zs) :
  ∃ ao cap, v = .slice ao n cap ∧ IRow w ao n cap zs := by
 have hl : zs.length = n := by have := h.1; simpa [cI] using this
 rcases h.2 with ⟨rfl, rfl⟩ | ⟨g, cap, cur, rfl, hg, hh, h1, h2, h3, h4⟩
 ·exact ⟨none, 0, rfl, hl, Nat.le_refl _, Nat.zero_le _, fun _ => rfl, hz, .inl rfl⟩
 ·refine ⟨_, cap, rfl, hl, h1, h2, (by intro h; cases h), hz, .inr ⟨g, 0, rfl, fun i hi => ?_⟩⟩
  have := h.cellAt i (by omega)
  rw [Nat.zero_add, this, cI_get zs i (by omega)]

theorem Tryz.infoI64 : (Tryz.prog.info? 3).map (fun i => (i.zero, i.size, i.bytes)) = some (some (.int .i64 0), 1, 8) := by kernel_rfl

theorem IRow.news {w : World} {ao : Option Addr} {len cap : Nat} {zs : List Int} (h : IRow w ao len cap zs) (ad : Addr) (ha : ao = some ad) (j : Nat) (u : Value) (hu : (cI zs)[j]? = some u) : w.cell? (ad.add j) = some u := by
 have hj : j < zs.length := by
  by_cases hlt : j < zs.length
  ·exact hlt
  ·rw [List.getElem?_eq_none (by rw [cI_length]; omega)] at hu
   cases hu
 rw [cI_get _ _ hj] at hu
 rcases h.cell with h0 | ⟨b, off, hb, hc⟩
 ·have := h.size; omega
 ·rw [ha] at hb
  cases hb
  rw [← hu]
  rw [add_none]; exact hc j (by have := h.size; omega)

theorem IRow.none_zero {w : World} {ao : Option Addr} {len cap : Nat} {zs : List Int} (h : IRow w ao len cap zs) (ha : ao = none) : len = 0 ∧ cap = 0 := by
 have := h.nil ha; have := h.le; omega

theorem getD_i64 {zs : List Int} (h : I64s zs) (j : Nat) : -9223372036854775808 ≤ zs.getD j 0 ∧ zs.getD j 0 ≤ 9223372036854775807 := by
 by_cases hj : j < zs.length
 ·rw [List.getD_eq_getElem?_getD, List.getElem?_eq_getElem hj]; exact h _ (List.getElem_mem hj)
 ·rw [List.getD_eq_getElem?_getD, List.getElem?_eq_none (by omega)]; simp

theorem IRow.at {w : World} {ao : Option Addr} {len cap : Nat} {zs : List Int} (h : IRow w ao len cap zs) (hp : 0 < len) : ∃ b off, ao = some ⟨b, off, none⟩ ∧ ∀ i, i < len → w.cell? ⟨b, off + i, none⟩ = some (.int .i64 (zs.getD i 0)) := by
 rcases h.cell with h0 | h0
 ·omega
 ·exact h0

theorem I64s.at {zs : List Int} (h : I64s zs) (j : Nat) : -9223372036854775808 ≤ zs.getD j 0 ∧ zs.getD j 0 ≤ 9223372036854775807 := getD_i64 h j

theorem irow_own {w : World} {base : Nat} {ao : Option Addr} {n cap : Nat} {zs : List Int} (h : w.ownsRow base 3 1 (.slice ao n cap) n (cI zs)) (hz : I64s zs) : IRow w ao n cap zs := by
 obtain ⟨ao', cap', e, hr⟩ := irow_of_own h hz
 cases e
 exact hr

def vrowF : Flat VR where
 k := 3
 cs := fun e => [.int .i64 e.i, .int .i64 e.m, .int .i64 e.b]
 len := fun _ => rfl
 pos := by decide
 one := fun _ v hv => by
  simp only [List.mem_cons, List.not_mem_nil, or_false] at hv
  rcases hv with rfl | rfl | rfl <;> rfl

theorem vrow_at {w : World} {ao : Option Addr} {len cap : Nat} {l : List VR} (h : GRow vrowF w ao len cap l) (i : Nat) (hi : i < len) : ∃ (x : VR) (b off : Nat), l[i]? = some x ∧ ao = some ⟨b, off, none⟩ ∧
  w.cell? ⟨b, off + i * 3, none⟩ = some (.int .i64 x.i) ∧ w.cell? ⟨b, off + i * 3 + 1, none⟩ = some (.int .i64 x.m) ∧ w.cell? ⟨b, off + i * 3 + 2, none⟩ = some (.int .i64 x.b) := by
 obtain ⟨x, b, off, hx, ha, hc⟩ := h.at i hi
 exact ⟨x, b, off, hx, ha, hc 0 _ rfl, hc 1 _ rfl, hc 2 _ rfl⟩

structure VTab (w : World) (a : Option Addr) (n c : Nat) (o : Option Addr) (p q : Nat) (v : VT) : Prop where
 rows : GRow vrowF w a n c v.rows
 own : IRow w o p q v.own

theorem VTab.below {w w' : World} {a : Option Addr} {n c : Nat} {o : Option Addr} {p q : Nat} {v : VT} (h : VTab w a n c o p q v) (hb : Below w.heap.size w w') : VTab w' a n c o p q v :=
 ⟨h.rows.below hb, h.own.below hb⟩

structure BR where
 id : Int
 name : ByteArray
 ports : List PT
 f : List FE
 v : VT
 ticks : Int
 parse : Int
 word : Int
 drops : Int
 vers : Int

def in1m (x : Int) : Bool := decide (0 ≤ x) && decide (x ≤ 1000000)
def countsOk (a b c d e : Int) : Bool := in1m a && (in1m b && (in1m c && (in1m d && in1m e)))
def bridgeOk (b : BR) : Bool :=
 b.ports.all ptOk && (in3 b.id 1 99 && (decide ((b.name.size : Int) ≤ 10) && (in3 (b.ports.length : Int) 1 6 && (fdbOk b.f && (vtabOk b.v (b.ports.length : Int) && countsOk b.ticks b.parse b.word b.drops b.vers)))))

structure BrRow (w : World) (a : Option Addr) (n c : Nat) (fa : Option Addr) (fn fc : Nat) (ra : Option Addr) (rn rc : Nat) (oa : Option Addr) (on oc : Nat) (b : BR) : Prop where
 ports : GRow ptF w a n c b.ports
 f : GRow fentF w fa fn fc b.f
 v : VTab w ra rn rc oa on oc b.v

theorem BrRow.below {w w' : World} {a : Option Addr} {n c : Nat} {fa : Option Addr} {fn fc : Nat} {ra : Option Addr} {rn rc : Nat} {oa : Option Addr} {on oc : Nat} {b : BR} (h : BrRow w a n c fa fn fc ra rn rc oa on oc b) (hb : Below w.heap.size w w') : BrRow w' a n c fa fn fc ra rn rc oa on oc b :=
 ⟨h.ports.below hb, h.f.below hb, h.v.below hb⟩

theorem role_one {id : Int} {l : List PT} (port : Int) : 1 ≤ roleOf id l port ∧ roleOf id l port ≤ 4 := by
 unfold roleOf
 split
 ·split
  ·unfold roleAt
   repeat' split
   all_goals omega
  ·omega
 ·omega

def sendsB (f : Nat → Bool) : Nat → Int
 | 0 => 0
 | k + 1 => if f k = true then bits .or .i64 (sendsB f k) (2 ^ k) else sendsB f k

theorem sends_is (id : Int) (l : List PT) : ∀ k, sendsTo id l k = sendsB (fun i => decide (roleOf id l (i : Int) ≤ 2)) k
 | 0 => rfl
 | k + 1 => by
  rw [sendsTo, sendsB, sends_is id l k]
  simp

theorem sendsB_cut (f g : Nat → Bool) : ∀ k, (∀ i, i < k → f i = g i) → sendsB f k = sendsB g k
 | 0, _ => rfl
 | k + 1, h => by
  rw [sendsB, sendsB, sendsB_cut f g k (fun i hi => h i (by omega)), h k (by omega)]

def six (b0 b1 b2 b3 b4 b5 : Bool) : Nat → Bool
 | 0 => b0
 | 1 => b1
 | 2 => b2
 | 3 => b3
 | 4 => b4
 | _ => b5

theorem six_bits : ∀ b0 b1 b2 b3 b4 b5 : Bool, ∀ n : Fin 7, ∀ i : Fin 6, bitOf (sendsB (six b0 b1 b2 b3 b4 b5) n.val) (i.val : Int) = (decide (i.val < n.val) && six b0 b1 b2 b3 b4 b5 i.val) := by
 decide +kernel

def staticF (l : List FE) (t m : Int) : Bool :=
 match lookE l t m with
 | some e => e.s
 | none => false

theorem lookUp_of {l : List FE} {t m : Int} {e : FE} (h : lookE l t m = some e) : lookUp l t m = e.p := by unfold lookUp; rw [h]
theorem lookUp_no {l : List FE} {t m : Int} (h : lookE l t m = none) : lookUp l t m = -1 := by unfold lookUp; rw [h]

theorem look_ins_self {e : FE} {l : List FE} (he : entOk e = true) (h : Sorted l) : lookE (insF e l) e.t e.m = some e :=
 look_mem (sorted_insF he h) ((mem_insF h).2 (.inl rfl))

theorem look_ins_other {e x : FE} {l : List FE} (he : entOk e = true) (h : Sorted l) (hx : x ∈ l) (hn : ¬ (x.t = e.t ∧ x.m = e.m)) : lookE (insF e l) x.t x.m = some x :=
 look_mem (sorted_insF he h) ((mem_insF h).2 (.inr ⟨hx, hn⟩))

theorem learn_others {l : List FE} (h : fdbOk l = true) (t m p : Int) {x : FE} (hx : x ∈ l) (hn : ¬ (x.t = t ∧ x.m = m)) : lookUp (learnF l t m p) x.t x.m = x.p := by
 obtain ⟨hs, _⟩ := (fdbOk_iff l).1 h
 unfold learnF
 split
 ·rename_i hc
  unfold canLearn at hc
  simp only [Bool.and_eq_true] at hc
  rw [putF8_sorted hs]
  exact lookUp_of (look_ins_other hc.2.1 hs hx hn)
 ·exact lookUp_of (look_mem hs hx)

theorem learn_says {l : List FE} (h : fdbOk l = true) {t m p : Int} (he : entOk ⟨t, m, p, 0, false⟩ = true) :
  lookUp (learnF l t m p) t m = p ∨ (staticF l t m = true ∧ lookUp (learnF l t m p) t m = lookUp l t m) ∨ (lookUp (learnF l t m p) t m = -1 ∧ l.length = 12) := by
 obtain ⟨hs, hl⟩ := (fdbOk_iff l).1 h
 unfold learnF
 split
 ·rename_i hc
  rw [putF8_sorted hs]
  exact .inl (lookUp_of (e := ⟨t, m, p, 0, false⟩) (look_ins_self he hs))
 ·rename_i hc
  unfold canLearn at hc
  rw [h, he, Bool.true_and, Bool.true_and] at hc
  cases hk : lookE l t m with
  | some e =>
   rw [hk] at hc
   simp only [Bool.not_eq_true', Bool.not_eq_false] at hc
   exact .inr (.inl ⟨by unfold staticF; rw [hk]; exact hc, rfl⟩)
  | none =>
   rw [hk] at hc
   simp at hc
   exact .inr (.inr ⟨lookUp_no hk, by omega⟩)

theorem learn_static {l : List FE} {t m p : Int} (hs : staticF l t m = true) : learnF l t m p = l := by
 unfold learnF
 rw [if_neg]
 unfold staticF at hs
 unfold canLearn
 cases hk : lookE l t m with
 | none => rw [hk] at hs; cases hs
 | some e => rw [hk] at hs; simp [hs]

theorem putGo_true_len (e : FE) : ∀ (l : List FE), (putGo e true l).length ≤ l.length
 | [] => by simp [putGo]
 | x :: r => by
  have h := putGo_true_len e r
  unfold putGo
  simp only [Bool.not_true, Bool.false_and, Bool.false_eq_true, if_false]
  split <;> simp <;> omega

theorem putGo_len (e : FE) : ∀ (d : Bool) (l : List FE), (putGo e d l).length ≤ l.length + 1
 | d, [] => by cases d <;> simp [putGo]
 | d, x :: r => by
  have h1 := putGo_true_len e r
  have h2 := putGo_len e d r
  unfold putGo
  split
  ·split <;> simp <;> omega
  ·split <;> simp <;> omega

theorem learn_len (l : List FE) (t m p : Int) : (learnF l t m p).length ≤ l.length + 1 := by
 unfold learnF
 split
 ·exact putGo_len _ _ _
 ·omega
theorem set_len (l : List FE) (t m p : Int) : (setF l t m p).length ≤ l.length + 1 := by
 unfold setF
 split
 ·exact putGo_len _ _ _
 ·omega
theorem age_len (l : List FE) : (ageF l).length ≤ l.length + 1 := Nat.le_trans (List.length_filterMap_le _ _) (by omega)
theorem flush_len (l : List FE) (p : Int) : (flushF l p).length ≤ l.length + 1 := Nat.le_trans (List.length_filter_le _ _) (by omega)
theorem drop_len (l : List FE) (t m : Int) : (dropF l t m).length ≤ l.length + 1 := Nat.le_trans (drop_sub l t m).length_le (by omega)

def oneMore (n : Int) : Int := if n ≥ 1000000 then n else n + 1

def flushTo (bits : Int) (l : List FE) : Nat → List FE
 | 0 => l
 | k + 1 => if bitOf bits (k : Int) = true then flushTo bits l k else flushF (flushTo bits l k) (k : Int)

def turned (b : BR) : BR := { b with vers := oneMore b.vers, f := flushTo (sendsOf b.id b.ports) b.f b.ports.length }

def thereB (b : BR) (port : Int) : Bool := bridgeOk b && (decide (0 ≤ port) && decide (port ≤ (b.ports.length : Int) - 1))

theorem in1m_iff (x : Int) : in1m x = true ↔ 0 ≤ x ∧ x ≤ 1000000 := by
 unfold in1m
 simp

theorem oneMore_in {n : Int} (h : in1m n = true) : in1m (oneMore n) = true := by
 rw [in1m_iff] at *
 unfold oneMore
 split <;> omega

theorem bridgeOk_parts {b : BR} (h : bridgeOk b = true) : b.ports.all ptOk = true ∧ in3 b.id 1 99 = true ∧ (b.name.size : Int) ≤ 10 ∧ in3 (b.ports.length : Int) 1 6 = true ∧ fdbOk b.f = true ∧ vtabOk b.v (b.ports.length : Int) = true ∧ in1m b.ticks = true ∧ in1m b.parse = true ∧ in1m b.word = true ∧ in1m b.drops = true ∧ in1m b.vers = true := by
 unfold bridgeOk countsOk at h
 simp only [Bool.and_eq_true, decide_eq_true_eq] at h
 obtain ⟨h1, h2, h3, h4, h5, h6, h7, h8, h9, h10, h11⟩ := h
 exact ⟨h1, h2, h3, h4, h5, h6, h7, h8, h9, h10, h11⟩

theorem bridgeOk_of {b : BR} (h : b.ports.all ptOk = true ∧ in3 b.id 1 99 = true ∧ (b.name.size : Int) ≤ 10 ∧ in3 (b.ports.length : Int) 1 6 = true ∧ fdbOk b.f = true ∧ vtabOk b.v (b.ports.length : Int) = true ∧ in1m b.ticks = true ∧ in1m b.parse = true ∧ in1m b.word = true ∧ in1m b.drops = true ∧ in1m b.vers = true) : bridgeOk b = true := by
 obtain ⟨h1, h2, h3, h4, h5, h6, h7, h8, h9, h10, h11⟩ := h
 unfold bridgeOk countsOk
 rw [h1, h2, decide_eq_true h3, h4, h5, h6, h7, h8, h9, h10, h11]
 rfl

theorem there_ok {b : BR} {port : Int} (h : thereB b port = true) : bridgeOk b = true := by
 unfold thereB at h
 simp only [Bool.and_eq_true] at h
 exact h.1

theorem vec_eql (R C H B P R' C' H' B' P' : Int) (w : World) : (binOp .eql 93 (.agg #[.int .i64 R, .int .i64 C, .int .i64 H, .int .i64 B, .int .i64 P]) (.agg #[.int .i64 R', .int .i64 C', .int .i64 H', .int .i64 B', .int .i64 P'])).run Tryz.prog w = .ok (.bool ((R == R') && ((C == C') && ((H == H') && ((B == B') && (P == P')))))) w := by
 have u3 := Tryz.underlying3
 have a3 := Tryz.isAgg3
 have z3 := Tryz.sizeOf3
 have hS : Tryz.prog.underlying 93 = some (.struct (Tryz.prog.fieldsOf 93)) := by kernel_rfl
 have hp : Tryz.prog.stoodInHeld 93 = false := by kernel_rfl
 rw [run_eql_struct, show (10000 : Nat) = 9999 + 1 from rfl, run_equalIn_agg w 9999 93 _ _ hS hp]
 simp only [Program.fieldsOf, Tryz.underlying93]
 go_simp
 by_cases h1 : R = R' <;> by_cases h2 : C = C' <;> by_cases h3 : H = H' <;> by_cases h4 : B = B' <;> by_cases h5 : P = P' <;> simp [h1, h2, h3, h4, h5]

theorem cells8 {w : World} {g : Nat} {T : TypeId} {c0 c1 c2 c3 c4 c5 c6 c7 : Value} (h : w.heap[g]? = some (.cells #[c0, c1, c2, c3, c4, c5, c6, c7] T)) :
  w.cell? ⟨g, 0, none⟩ = some c0 ∧ w.cell? ⟨g, 1, none⟩ = some c1 ∧ w.cell? ⟨g, 2, none⟩ = some c2 ∧ w.cell? ⟨g, 3, none⟩ = some c3 ∧ w.cell? ⟨g, 4, none⟩ = some c4 ∧ w.cell? ⟨g, 5, none⟩ = some c5 ∧ w.cell? ⟨g, 6, none⟩ = some c6 ∧ w.cell? ⟨g, 7, none⟩ = some c7 := by
 simp [World.cell?, h]

set_option maxRecDepth 100000 in
set_option maxHeartbeats 2000000 in
theorem specPtOk_any (x : PT) (w : World) :
  Calls Tryz.prog 164 #[.agg #[.bool x.up, .int .i64 x.k, .bool x.has, .int .i64 x.v.r, .int .i64 x.v.c, .int .i64 x.v.h, .int .i64 x.v.b, .int .i64 x.v.p]] w fun e w' => e = .returned (.bool (ptOk x)) ∧ Below w.heap.size w w' := by
 have he : ∀ W, (binOp .eql 93 (.agg #[.int .i64 x.v.r, .int .i64 x.v.c, .int .i64 x.v.h, .int .i64 x.v.b, .int .i64 x.v.p]) (.agg #[.int .i64 0, .int .i64 0, .int .i64 0, .int .i64 0, .int .i64 0])).run Tryz.prog W = .ok (.bool (zeroVc x.v)) W := fun W => by rw [vec_eql]; rfl
 have hgd : Tryz.prog.eqGuardType Tryz.prog.depth 93 = false := by kernel_rfl
 obtain ⟨up, k, has, ⟨r, c, h, b, p⟩⟩ := x
 simp only at he ⊢
 generalize hw1 : w.alloc (.cells #[.bool up, .int .i64 k, .bool has, .int .i64 r, .int .i64 c, .int .i64 h, .int .i64 b, .int .i64 p] 95) = w1
 have q0 : Below w.heap.size w w1 := by subst hw1; exact below_one _ _
 obtain ⟨c0, c1, c2, c3, c4, c5, c6, c7⟩ := cells8 (by rw [← hw1]; exact block_last w _ : w1.heap[w.heap.size]? = _)
 cases t1 : (decide (1 ≤ k) && decide (k ≤ 1000))
 ·have T1 := hide t1
  rw [show ptOk ⟨up, k, has, ⟨r, c, h, b, p⟩⟩ = false by unfold ptOk; rw [t1]; rfl]
  clear t1
  go_enter Tryz.func164, Tryz.ntmps164
  go_wp2_with fail
  refine (within_any k 1 1000 _).mono ?_
  rintro e w2 ⟨rfl, rfl⟩
  rw [T1.out]
  go_wp2
  go_ret
  exact ⟨rfl, q0⟩
 cases has
 ·rw [show ptOk ⟨up, k, false, ⟨r, c, h, b, p⟩⟩ = zeroVc ⟨r, c, h, b, p⟩ by unfold ptOk; rw [t1]; cases up <;> rfl]
  have T1 := hide t1
  generalize zeroVc ⟨r, c, h, b, p⟩ = Q at *
  clear t1
  cases up <;>
  ·go_enter Tryz.func164, Tryz.ntmps164
   go_wp2_with fail
   refine (within_any k 1 1000 _).mono ?_
   rintro e w2 ⟨rfl, rfl⟩
   rw [T1.out]
   go_wp2
   go_ret
   exact ⟨rfl, q0⟩
 cases up
 ·rw [show ptOk ⟨false, k, true, ⟨r, c, h, b, p⟩⟩ = false by unfold ptOk; rw [t1]; rfl]
  have T1 := hide t1
  clear t1
  go_enter Tryz.func164, Tryz.ntmps164
  go_wp2_with fail
  refine (within_any k 1 1000 _).mono ?_
  rintro e w2 ⟨rfl, rfl⟩
  rw [T1.out]
  go_wp2
  go_ret
  exact ⟨rfl, q0⟩
 ·rw [show ptOk ⟨true, k, true, ⟨r, c, h, b, p⟩⟩ = okVc r c h b p by unfold ptOk; rw [t1]; rfl]
  have T1 := hide t1
  clear t1
  go_enter Tryz.func164, Tryz.ntmps164
  go_wp2_with fail
  refine (within_any k 1 1000 _).mono ?_
  rintro e w2 ⟨rfl, rfl⟩
  rw [T1.out]
  go_wp2_with fail
  refine (specVecOk_any r c h b p _).mono ?_
  rintro e w3 ⟨rfl, hb3⟩
  have HB := hide (gr_trans q0 hb3)
  clear hb3
  go_wp2
  go_ret
  exact ⟨rfl, HB.out⟩

def PT.zero : PT := ⟨false, 0, false, ⟨0, 0, 0, 0, 0⟩⟩

theorem ptInfo : (Tryz.prog.info? 95).map (fun i => (i.zero, i.size, i.bytes)) = some (some (.agg #[.bool false, .int .i64 0, .bool false, .int .i64 0, .int .i64 0, .int .i64 0, .int .i64 0, .int .i64 0]), ptF.k, 64) := by kernel_rfl

theorem pt_append (w : World) {ops : Array Oper} {rest : List Oper} {o : Oper} {a : Act} {Q : Exit → Act → World → Prop} (hgd : o.guard = none)
  (s x : Operand) (ho : o.op = Op.call { callee := Callee.builtin Builtin.append, args := #[s, x], argTypes := #[24, 24] }) (base : Nat)
  (v : Value) (n : Nat) (xs : List PT) (hs : a.eval s = v) (hown : w.ownsRow base 95 8 v n (ptF.all xs)) (ao : Option Addr) (m c : Nat) (zs : List PT)
  (hx : a.eval x = .slice ao m c) (hrow : GRow ptF w ao m c zs) (hsm : n + m ≤ 137438953472) (hbase : base ≤ w.heap.size)
  (h : ∀ ao' cap' w', w'.ownsRow base 95 8 (.slice ao' (n + m) cap') (n + m) (ptF.all (xs ++ zs)) → GRow ptF w' ao' (n + m) cap' (xs ++ zs) → w.grownBy w' v.ownBlock → Below base w w' → wpList Tryz.prog ops Q rest (a.put o.dst (.slice ao' (n + m) cap')) w') :
  wpList Tryz.prog ops Q (o :: rest) a w :=
 wpList_append_flat (F := ptF) w hgd s x 24 95 ho base Tryz.underlying24 ptInfo rfl (by decide) v n xs hs hown ao m c zs hx hrow hsm hbase h

theorem set_block8 {w : World} {g : Nat} {T : TypeId} {c0 c1 c2 c3 c4 c5 c6 c7 : Value} (h : w.heap[g]? = some (.cells #[c0, c1, c2, c3, c4, c5, c6, c7] T)) (u : Value) : (w.setCell ⟨g, 2, none⟩ u).heap[g]? = some (.cells #[c0, c1, u, c3, c4, c5, c6, c7] T) := set_block5 (j := 2) h u

theorem set_heard {w : World} {g : Nat} {T : TypeId} {c0 c1 c2 c3 c4 c5 c6 c7 : Value} (h : w.heap[g]? = some (.cells #[c0, c1, c2, c3, c4, c5, c6, c7] T)) (u3 u4 u5 u6 u7 : Value) : (((((w.setCell ⟨g, 3, none⟩ u3).setCell ⟨g, 4, none⟩ u4).setCell ⟨g, 5, none⟩ u5).setCell ⟨g, 6, none⟩ u6).setCell ⟨g, 7, none⟩ u7).heap[g]? = some (.cells #[c0, c1, c2, u3, u4, u5, u6, u7] T) :=
 set_block5 (j := 7) (set_block5 (j := 6) (set_block5 (j := 5) (set_block5 (j := 4) (set_block5 (j := 3) h u3) u4) u5) u6) u7

theorem frozen8 {w : World} {g : Nat} {T : TypeId} {cs : Array Value} (h : w.heap[g]? = some (.cells cs T)) (j : Nat) : w.frozen? ⟨g, j, none⟩ = false := by
 simp [World.frozen?, h]

theorem own_box8 {w : World} {base k : Nat} {e : TypeId} {v : Value} {n : Nat} {xs : List Value} (h : w.ownsRow base e k v n xs) : ∀ b, v.ownBlock = some b → b < w.heap.size := fun b hb => (h.lt b hb).2

set_option maxRecDepth 100000 in
set_option maxHeartbeats 400000 in
theorem specRowAt_any (a : Option Addr) (n c : Nat) (l : List VR) (o : Option Addr) (p q : Nat) (id : Int) (w : World) (h : GRow vrowF w a n c l) :
  Calls Tryz.prog 119 #[.agg #[.slice a n c, .slice o p q], .int .i64 id] w fun r w' => r = .returned (.int .i64 (rowAt l id)) ∧ Below w.heap.size w w' := by
 have hle := h.le
 have htop := h.top
 unfold maxLen at htop
 have hsz := h.size
 have hW : Below w.heap.size w (w.alloc (Obj.cells #[Value.slice a n c, Value.slice o p q] 29)) := below_one _ _
 have h := h.below hW
 go_enter Tryz.func119, Tryz.ntmps119
 go_wp2
 go_loop [5] (fun i => ∃ k : Nat, k ≤ n ∧ i = .int .i64 k ∧ ∀ (j : Nat) (y : VR), j < k → l[j]? = some y → (y.i == id) = false) (fun i => n - (intOf i).toNat)
 case atStart => exact ⟨0, Nat.zero_le _, rfl, fun j y hj => by omega⟩
 case round =>
  obtain ⟨k, hk, rfl, hno⟩ := hrel
  by_cases hlt : k < n
  ·obtain ⟨x, b, off, hx, rfl, c0, -, -⟩ := vrow_at h k hlt
   cases t1 : (x.i == id)
   ·have HO := hide (vno_next hno hx t1)
    clear hno
    go_wp2
    go_round
    case rel => exact ⟨k + 1, by omega, by go_num, HO.out⟩
    case measure => simp [intOf]; omega
   ·have HF := hide (rowAt_found hno hx t1)
    clear hno
    go_wp2
    go_ret
    exact ⟨(by rw [HF.out]; rfl), hW⟩
  ·have hkn : k = n := by omega
   have HF := hide (rowAt_none (l := l) (id := id) (fun i y hy => hno i y (by have := (List.getElem?_eq_some_iff.1 hy).1; omega) hy))
   clear hno
   subst hkn
   go_wp2
   go_ret
   exact ⟨(by rw [HF.out]; rfl), hW⟩

theorem made_new {K : World → Prop} {W : World} {o : Obj} (h : ∀ wx, wx.heap[W.heap.size]? = some o → Below W.heap.size W wx → K wx) : K (W.alloc o) := h _ (block_last W o) (below_one W o)

theorem made_drew {K : World → Prop} {W : World} {o : Obj} (h : ∀ wx, wx.heap[W.heap.size]? = some o → Below W.drew.heap.size W.drew wx → K wx) : K (W.alloc o).drew := h _ (block_last W o) (below_one W.drew o)

theorem cell1 {w : World} {g : Nat} {T : TypeId} {v : Value} (h : w.heap[g]? = some (.cells #[v] T)) : w.cell? ⟨g, 0, none⟩ = some v := by simp [World.cell?, h]

theorem number_of (v : Value) (w : World) : (method 331 100 v "loop.example/g00326/impl.number").run Tryz.prog w = .ok (213, v) w := by kernel_rfl

set_option maxRecDepth 100000 in
set_option maxHeartbeats 400000 in
theorem implNumber_any (r : VR) (w : World) : Calls Tryz.prog 213 #[.agg #[.int .i64 r.i, .int .i64 r.m, .int .i64 r.b]] w fun e w' => e = .returned (.int .i64 r.i) ∧ Below w.heap.size w w' := by
 go_enter Tryz.func213, Tryz.ntmps213
 go_wp2
 go_ret
 exact ⟨rfl, below_one _ _⟩

set_option maxRecDepth 100000 in
set_option maxHeartbeats 400000 in
theorem implRowsOf_any (a : Option Addr) (n c : Nat) (o : Option Addr) (p q : Nat) (w : World) : Calls Tryz.prog 72 #[.agg #[.slice a n c, .slice o p q]] w fun e w' => e = .returned (.slice a n c) ∧ Below w.heap.size w w' := by
 go_enter Tryz.func72, Tryz.ntmps72
 go_wp2
 go_ret
 exact ⟨rfl, below_one _ _⟩

set_option maxRecDepth 100000 in
set_option maxHeartbeats 2000000 in
theorem implPlace1_any (r : VR) (id : Int) (g : Nat) (w : World) (c : w.heap[g]? = some (.cells #[.int .i64 id] 3)) :
  Calls Tryz.prog 179 #[.agg #[.int .i64 r.i, .int .i64 r.m, .int .i64 r.b], .pointer (some ⟨g, 0, none⟩)] w fun e w' => e = .returned (.bool (r.i == id)) ∧ Below w.heap.size w w' := by
 have hm := number_of
 generalize hw1 : w.alloc (Obj.cells #[.int .i64 r.i, .int .i64 r.m, .int .i64 r.b] 100) = w1
 have q : Below w.heap.size w w1 := by subst hw1; exact below_one _ _
 have k0 : w1.heap[w.heap.size]? = some (.cells #[.int .i64 r.i, .int .i64 r.m, .int .i64 r.b] 100) := by rw [← hw1]; exact block_last _ _
 have HS : Hid (∀ W, Below w1.heap.size w1 W → (W.cell? ⟨w.heap.size, 0, none⟩ = some (.int .i64 r.i) ∧ W.cell? ⟨w.heap.size, 1, none⟩ = some (.int .i64 r.m) ∧ W.cell? ⟨w.heap.size, 2, none⟩ = some (.int .i64 r.b)) ∧ W.cell? ⟨g, 0, none⟩ = some (.int .i64 id)) := hide (fun W hW => ⟨(cells3 (kept_block k0 hW)).1, cell1 (kept_block (kept_block c q) hW)⟩)
 clear k0
 have vv : Below w1.heap.size w1 w1.drew := gr_drew (Below.refl _ _)
 go_enter Tryz.func179, Tryz.ntmps179
 go_wp2_with fail
 refine wp_region_held_drew (S := (fun W => (W.cell? ⟨w.heap.size, 0, none⟩ = some (.int .i64 r.i) ∧ W.cell? ⟨w.heap.size, 1, none⟩ = some (.int .i64 r.m) ∧ W.cell? ⟨w.heap.size, 2, none⟩ = some (.int .i64 r.b)) ∧ W.cell? ⟨g, 0, none⟩ = some (.int .i64 id))) (by kernel_rfl) (HS.out _ vv) (fun hHeld => ?_)
 refine kK 0 ⟨some 4, .load 100 (.tmp 2), 100, "l09_vlan.go:152", #[], none⟩ ?_
 refine kK 1 ⟨some 5, .makeInterface 100 (.tmp 4), 20, "l09_vlan.go:152", #[⟨0, .data⟩], none⟩ ?_
 refine kK 3 ⟨some 7, .load 3 (.tmp 1), 3, "l09_vlan.go:152", #[], none⟩ ?_
 refine tR [2] ?_
 refine AllReadyH.cons (o := ⟨some 6, .call ⟨.invoke (.tmp 5) "loop.example/g00326/impl.number", #[], #[]⟩, 3, "l09_vlan.go:152", #[⟨1, .data⟩], none⟩) rfl (fun K hK => ?_) ?_
 ·go_simp
  refine (implNumber_any r _).mono ?_
  rintro e wz ⟨rfl, hbz⟩
  have vv := gr_trans vv hbz
  go_wp2_with fail
  refine hK.out _ _ (HS.out _ vv) (fun hHeld => ?_)
  clear hK K
  try simp only [Act.put, lA, lB, lC]
  refine kK 4 ⟨some 8, .binOp .eql 3 (.tmp 6) (.tmp 7) 3, 4, "l09_vlan.go:152", #[⟨2, .data⟩, ⟨3, .data⟩], none⟩ ?_
  refine kK 5 ⟨some 3, .assign (.tmp 8), 4, "l09_vlan.go:152", #[⟨4, .data⟩, ⟨2, .chain⟩, ⟨0, .phase⟩, ⟨1, .phase⟩, ⟨2, .phase⟩, ⟨3, .phase⟩, ⟨4, .phase⟩], none⟩ ?_
  refine wpAnyH_done (by kernel_rfl) ?_ _
  have HB := hide (gr_trans q vv)
  clear HS vv q
  go_wp2
  go_ret
  exact ⟨rfl, HB.out⟩
 exact AllReadyH.nil

set_option maxRecDepth 100000 in
set_option maxHeartbeats 2000000 in
theorem rowIndex_any (a : Option Addr) (n c : Nat) (l : List VR) (id : Int) (g : Nat) (w : World) (h : GRow vrowF w a n c l) (cg : w.heap[g]? = some (.cells #[.int .i64 id] 3)) :
  Calls Tryz.prog 178 #[.slice a n c, .func (.func 179) #[] #[.pointer (some ⟨g, 0, none⟩)]] w fun r w' => r = .returned (.int .i64 (rowAt l id)) ∧ Below w.heap.size w w' := by
 have hle := h.le
 have htop := h.top
 unfold maxLen at htop
 have hsz := h.size
 go_enter Tryz.func178, Tryz.ntmps178
 go_wp2
 go_loopw [8] (fun i wr => ∃ k : Nat, k ≤ n ∧ i = .int .i64 k ∧ (∀ (j : Nat) (y : VR), j < k → l[j]? = some y → (y.i == id) = false) ∧ Below w.heap.size w wr) (fun i _ => n - (intOf i).toNat)
 case atStart => exact ⟨0, Nat.zero_le _, rfl, fun j y hj => by omega, Below.refl _ _⟩
 case round =>
  obtain ⟨k, hk, rfl, hno, hb⟩ := hrel
  by_cases hlt : k < n
  ·obtain ⟨x, b, off, hx, rfl, c0, c1, c2⟩ := vrow_at (h.below hb) k hlt
   cases t1 : (x.i == id)
   ·have HO := hide (vno_next hno hx t1)
    have HA := hide t1
    have HB := hide hb
    clear t1 hno hb hx
    go_wp2_with fail
    refine (implPlace1_any x id g _ (kept_block cg HB.out)).mono ?_
    rintro r w1 ⟨rfl, hb1⟩
    rw [HA.out]
    have HB1 := hide (gr_trans HB.out hb1)
    clear hb1 c0 c1 c2
    go_wp2
    go_roundw
    case rel => exact ⟨k + 1, by omega, by go_num, HO.out, HB1.out⟩
    case measure => simp [intOf]; omega
   ·have HF := hide (rowAt_found hno hx t1)
    have HA := hide t1
    have HB := hide hb
    clear t1 hno hb hx
    go_wp2_with fail
    refine (implPlace1_any x id g _ (kept_block cg HB.out)).mono ?_
    rintro r w1 ⟨rfl, hb1⟩
    rw [HA.out]
    have HB1 := hide (gr_trans HB.out hb1)
    clear hb1 c0 c1 c2
    go_wp2
    go_ret
    exact ⟨(by rw [HF.out]; rfl), HB1.out⟩
  ·have hkn : k = n := by omega
   have HF := hide (rowAt_none (l := l) (id := id) (fun i y hy => hno i y (by have := (List.getElem?_eq_some_iff.1 hy).1; omega) hy))
   have HB := hide hb
   clear hno hb
   subst hkn
   go_wp2
   go_ret
   exact ⟨(by rw [HF.out]; rfl), HB.out⟩

set_option maxRecDepth 100000 in
set_option maxHeartbeats 1000000 in
theorem implPlace_any (a : Option Addr) (n c : Nat) (l : List VR) (id : Int) (w : World) (h : GRow vrowF w a n c l) :
  Calls Tryz.prog 136 #[.slice a n c, .int .i64 id] w fun r w' => r = .returned (.int .i64 (rowAt l id)) ∧ Below w.heap.size w w' := by
 have hmf : ∀ (fn : Fn) (first cap : Array Value) (w : World), (Instr.makeFunc fn first cap).run Tryz.prog w = .ok (.func fn first cap) w := fun _ _ _ _ => rfl
 have q := below_one w (.cells #[.int .i64 id] 3)
 go_enter Tryz.func136, Tryz.ntmps136
 go_wp2_with fail
 refine (rowIndex_any a n c l id _ _ (h.below q) (block_last w _)).mono ?_
 rintro r w1 ⟨rfl, hb1⟩
 have HB := hide (gr_trans q hb1)
 clear hb1 q
 go_wp2
 go_ret
 exact ⟨rfl, HB.out⟩

set_option maxRecDepth 100000 in
set_option maxHeartbeats 1000000 in
theorem implRowAt_any (a : Option Addr) (n c : Nat) (l : List VR) (o : Option Addr) (p q : Nat) (id : Int) (w : World) (h : GRow vrowF w a n c l) :
  Calls Tryz.prog 132 #[.agg #[.slice a n c, .slice o p q], .int .i64 id] w fun r w' => r = .returned (.int .i64 (rowAt l id)) ∧ Below w.heap.size w w' := by
 have q0 := below_one w (.cells #[.slice a n c, .slice o p q] 29)
 go_enter Tryz.func132, Tryz.ntmps132
 go_wp2_with fail
 refine (implRowsOf_any a n c o p q _).mono ?_
 rintro r w1 ⟨rfl, hb1⟩
 have q1 := gr_trans q0 hb1
 clear hb1
 go_wp2_with fail
 refine (implPlace_any a n c l id _ (h.below q1)).mono ?_
 rintro r w2 ⟨rfl, hb2⟩
 have HB := hide (gr_trans q1 hb2)
 clear hb2 q1 q0
 go_wp2
 go_ret
 exact ⟨rfl, HB.out⟩

def findRow (l : List VR) (id : Int) : VR := (l.find? (fun r => r.i == id)).getD ⟨0, 0, 0⟩

set_option maxRecDepth 100000 in
set_option maxHeartbeats 2000000 in
theorem implFind_any (a : Option Addr) (n c : Nat) (l : List VR) (id : Int) (w : World) (h : GRow vrowF w a n c l) :
  Calls Tryz.prog 73 #[.slice a n c, .int .i64 id] w fun r w' => r = .returned (.tuple #[.agg #[.int .i64 (findRow l id).i, .int .i64 (findRow l id).m, .int .i64 (findRow l id).b], .bool (l.find? (fun r => r.i == id)).isSome]) ∧ Below w.heap.size w w' := by
 have hle := h.le
 have htop := h.top
 unfold maxLen at htop
 have hsz := h.size
 have q0 := below_one w (.cells #[.int .i64 0, .int .i64 0, .int .i64 0] 100)
 have k0 := block_last w (.cells #[.int .i64 0, .int .i64 0, .int .i64 0] 100)
 unfold findRow
 cases hr : rowIdx l id with
 | none =>
  rw [rowIdx_find hr]
  have hat : rowAt l id = -1 := by unfold rowAt; rw [hr]
  clear hr
  go_enter Tryz.func73, Tryz.ntmps73
  go_wp2_with fail
  refine (implPlace_any a n c l id _ (h.below q0)).mono ?_
  rintro r w1 ⟨rfl, hb1⟩
  rw [hat]
  obtain ⟨⟨x0, x1, x2⟩, f0, f1, f2⟩ := cells3 (kept_block k0 hb1)
  have HB := hide (below_set (below_set (below_set (gr_trans q0 hb1) (Nat.le_refl _) 0 (.int .i64 0)) (Nat.le_refl _) 1 (.int .i64 0)) (Nat.le_refl _) 2 (.int .i64 0))
  clear hb1 q0 hat
  go_wp2
  exact bodyPost_ret (v := .tuple #[.agg #[.int .i64 0, .int .i64 0, .int .i64 0], .bool false]) (by simp [results, Tryz.results73, go_sem, *]) rfl ⟨rfl, HB.out⟩
 | some k =>
  obtain ⟨x, hx, -, hf⟩ := rowIdx_some hr
  rw [hf]
  simp only [Option.getD_some, Option.isSome_some]
  have hat : rowAt l id = (k : Int) := by unfold rowAt; rw [hr]
  have hkn : k < n := by have := (List.getElem?_eq_some_iff.1 hx).1; omega
  clear hr hf
  go_enter Tryz.func73, Tryz.ntmps73
  go_wp2_with fail
  refine (implPlace_any a n c l id _ (h.below q0)).mono ?_
  rintro r w1 ⟨rfl, hb1⟩
  rw [hat]
  obtain ⟨y, b, off, hy, rfl, c0, c1, c2⟩ := vrow_at (h.below (gr_trans q0 hb1)) k hkn
  rw [hx] at hy
  cases hy
  obtain ⟨⟨x0, x1, x2⟩, f0, f1, f2⟩ := cells3 (kept_block k0 hb1)
  have HB := hide (below_set (below_set (below_set (gr_trans q0 hb1) (Nat.le_refl _) 0 (.int .i64 x.i)) (Nat.le_refl _) 1 (.int .i64 x.m)) (Nat.le_refl _) 2 (.int .i64 x.b))
  clear hb1 q0 hat hx
  go_wp2
  exact bodyPost_ret (v := .tuple #[.agg #[.int .i64 x.i, .int .i64 x.m, .int .i64 x.b], .bool true]) (by simp [results, Tryz.results73, go_sem, *]) rfl ⟨rfl, HB.out⟩

theorem egress_find (v : VT) (id : Int) : egressOf v id = (findRow v.rows id).m := by
 unfold egressOf findRow
 cases v.rows.find? (fun r => r.i == id) <;> rfl

set_option maxRecDepth 100000 in
set_option maxHeartbeats 2000000 in
theorem implEgress_any (a : Option Addr) (n c : Nat) (o : Option Addr) (p q : Nat) (v : VT) (id : Int) (w : World) (h : GRow vrowF w a n c v.rows) :
  Calls Tryz.prog 17 #[.agg #[.slice a n c, .slice o p q], .int .i64 id] w fun r w' => r = .returned (.int .i64 (egressOf v id)) ∧ Below w.heap.size w w' := by
 rw [egress_find]
 generalize hx : findRow v.rows id = x
 have HX := hide hx
 clear hx
 have q0 := below_one w (.cells #[.slice a n c, .slice o p q] 29)
 go_enter Tryz.func17, Tryz.ntmps17
 go_wp2_with fail
 refine (implRowsOf_any a n c o p q _).mono ?_
 rintro r w1 ⟨rfl, hb1⟩
 have q1 := gr_trans q0 hb1
 clear hb1
 go_wp2_with fail
 refine (implFind_any a n c v.rows id _ (h.below q1)).mono ?_
 rw [HX.out]
 generalize (v.rows.find? (fun r => r.i == id)).isSome = d
 rintro r w2 ⟨rfl, hb2⟩
 have q2 := gr_trans q1 hb2
 clear hb2 q1 q0
 have HB := hide q2
 clear q2
 go_wp2
 exact bodyPost_ret (v := .int .i64 x.m) (by simp [results, Tryz.results17, go_sem, *]) rfl ⟨rfl, gr_trans HB.out (below_one _ _)⟩

def I64 (x : Int) : Prop := -9223372036854775808 ≤ x ∧ x ≤ 9223372036854775807

def VR.Rng (r : VR) : Prop := I64 r.i ∧ I64 r.m ∧ I64 r.b

theorem bv_of (x : Int) : (BitVec.ofInt 64 x).toNat = (x % 18446744073709551616).toNat := by
 rw [BitVec.toNat_ofInt]
 rfl

theorem wrap_bv (x : BitVec 64) : IntKind.i64.wrap (x.toNat : Int) = x.toInt := by
 have := x.isLt
 rw [IntKind.wrap_i64, BitVec.toInt_eq_toNat_cond]
 split <;> omega

theorem bits_and (a b : Int) : bits .and .i64 a b = (BitVec.ofInt 64 a &&& BitVec.ofInt 64 b).toInt := by
 rw [← wrap_bv]
 rfl
theorem bits_andNot (a b : Int) : bits .andNot .i64 a b = (BitVec.ofInt 64 a &&& ~~~(BitVec.ofInt 64 b)).toInt := by
 rw [← wrap_bv]
 rfl

theorem toInt_zero {x : BitVec 64} : x.toInt = 0 ↔ x = 0#64 := by
 rw [← BitVec.toInt_inj]
 simp

theorem toInt_of (x : Int) (h : I64 x) : (BitVec.ofInt 64 x).toInt = x := by
 unfold I64 at h
 rw [BitVec.toInt_ofInt]
 rw [Int.bmod_def]
 omega

theorem andNot_and (b m : Int) (hb : I64 b) : (bits .andNot .i64 b m == 0) = (bits .and .i64 b m == b) := by
 rw [bits_and, bits_andNot]
 have key : (BitVec.ofInt 64 b &&& ~~~(BitVec.ofInt 64 m)) = 0#64 ↔ (BitVec.ofInt 64 b &&& BitVec.ofInt 64 m) = BitVec.ofInt 64 b := by
  constructor
  ·intro h
   apply BitVec.eq_of_getLsbD_eq
   intro i hi
   have := congrArg (fun z => z.getLsbD i) h
   simp only [BitVec.getLsbD_and, BitVec.getLsbD_not, hi, decide_true, Bool.true_and, BitVec.getLsbD_zero] at this
   simp only [BitVec.getLsbD_and]
   cases h1 : (BitVec.ofInt 64 b).getLsbD i <;> cases h2 : (BitVec.ofInt 64 m).getLsbD i <;> simp_all
  ·intro h
   apply BitVec.eq_of_getLsbD_eq
   intro i hi
   have := congrArg (fun z => z.getLsbD i) h
   simp only [BitVec.getLsbD_and] at this
   simp only [BitVec.getLsbD_and, BitVec.getLsbD_not, hi, decide_true, Bool.true_and, BitVec.getLsbD_zero]
   cases h1 : (BitVec.ofInt 64 b).getLsbD i <;> cases h2 : (BitVec.ofInt 64 m).getLsbD i <;> simp_all
 have e2 : ((BitVec.ofInt 64 b &&& BitVec.ofInt 64 m).toInt = b) ↔ (BitVec.ofInt 64 b &&& BitVec.ofInt 64 m) = BitVec.ofInt 64 b := by
  constructor
  ·intro h
   apply BitVec.toInt_inj.1
   rw [h, toInt_of b hb]
  ·intro h
   rw [h, toInt_of b hb]
 have e1 := toInt_zero (x := BitVec.ofInt 64 b &&& ~~~(BitVec.ofInt 64 m))
 rw [Bool.eq_iff_iff]
 simp only [beq_iff_eq]
 rw [e1, key, e2]

theorem mask_is (p : Nat) (hp : p ≤ 6) : (BitVec.ofInt 64 (allOf p)).toNat = 2 ^ p - 1 := by
 rcases (show p = 0 ∨ p = 1 ∨ p = 2 ∨ p = 3 ∨ p = 4 ∨ p = 5 ∨ p = 6 by omega) with rfl | rfl | rfl | rfl | rfl | rfl | rfl <;> rfl

theorem pow_le6 (p : Nat) (hp : p ≤ 6) : (2 : Nat) ^ p ≤ 64 ∧ ((2 : Int) ^ p = ((2 ^ p : Nat) : Int)) ∧ 1 ≤ (2 : Nat) ^ p := by
 rcases (show p = 0 ∨ p = 1 ∨ p = 2 ∨ p = 3 ∨ p = 4 ∨ p = 5 ∨ p = 6 by omega) with rfl | rfl | rfl | rfl | rfl | rfl | rfl <;> exact ⟨by decide, rfl, by decide⟩

theorem andNot_mask (m : Int) (p : Nat) (hm : I64 m) (hp : p ≤ 6) : (bits .andNot .i64 m (allOf p) == 0) = in3 m 0 (allOf p) := by
 rw [andNot_and m _ hm, bits_and]
 have hn : (BitVec.ofInt 64 m &&& BitVec.ofInt 64 (allOf p)).toNat = (BitVec.ofInt 64 m).toNat % 2 ^ p := by
  rw [BitVec.toNat_and, mask_is p hp, Nat.and_two_pow_sub_one_eq_mod]
 have e2 : ((BitVec.ofInt 64 m &&& BitVec.ofInt 64 (allOf p)).toInt = m) ↔ (BitVec.ofInt 64 m &&& BitVec.ofInt 64 (allOf p)).toNat = (BitVec.ofInt 64 m).toNat := by
  constructor
  ·intro h
   have : (BitVec.ofInt 64 m &&& BitVec.ofInt 64 (allOf p)) = BitVec.ofInt 64 m := by
    apply BitVec.toInt_inj.1
    rw [h, toInt_of m hm]
   rw [this]
  ·intro h
   rw [BitVec.eq_of_toNat_eq h, toInt_of m hm]
 rw [Bool.eq_iff_iff]
 simp only [beq_iff_eq]
 rw [e2, hn, bv_of m]
 obtain ⟨h64, hc, h1⟩ := pow_le6 p hp
 unfold in3 allOf
 rw [hc]
 unfold I64 at hm
 generalize (2 : Nat) ^ p = q at *
 simp only [Bool.and_eq_true, decide_eq_true_eq]
 constructor
 ·intro h
  have : (m % 18446744073709551616).toNat % q < q := Nat.mod_lt _ (by omega)
  omega
 ·intro h
  rw [Nat.mod_eq_of_lt (by omega)]

theorem and_small (b m : Int) (p : Nat) (hb : I64 b) (hp : p ≤ 6) (hm : in3 m 0 (allOf p) = true) (h : (bits .and .i64 b m == b) = true) : in3 b 0 (allOf p) = true := by
 obtain ⟨h64, hc, h1⟩ := pow_le6 p hp
 unfold in3 allOf at hm ⊢
 rw [hc] at hm ⊢
 generalize (2 : Nat) ^ p = q at *
 simp only [Bool.and_eq_true, decide_eq_true_eq, beq_iff_eq] at *
 have hmI : I64 m := by unfold I64; omega
 rw [bits_and] at h
 have e : (BitVec.ofInt 64 b &&& BitVec.ofInt 64 m) = BitVec.ofInt 64 b := by
  apply BitVec.toInt_inj.1
  rw [h, toInt_of b hb]
 have e' := congrArg BitVec.toNat e
 rw [BitVec.toNat_and, bv_of b, bv_of m] at e'
 have : (b % 18446744073709551616).toNat &&& (m % 18446744073709551616).toNat ≤ (m % 18446744073709551616).toNat := Nat.and_le_right
 unfold I64 at hb
 omega

theorem vrow_same (r : VR) (p : Nat) (hr : r.Rng) (hp : p ≤ 6) : (in3 r.i 1 99 && (bits .andNot .i64 r.m (allOf p) == 0) && (bits .andNot .i64 r.b r.m == 0)) = vrowOk (allOf p) r := by
 rw [andNot_mask r.m p hr.2.1 hp, andNot_and r.b r.m hr.2.2]
 unfold vrowOk
 cases h1 : in3 r.i 1 99
 ·rfl
 ·cases h2 : in3 r.m 0 (allOf p)
  ·rfl
  ·cases h3 : (bits .and .i64 r.b r.m == r.b)
   ·simp
   ·rw [and_small r.b r.m p hr.2.2 hp h2 h3]
    rfl

theorem and_pow (n k : Nat) : n &&& 2 ^ k = (n.testBit k).toNat * 2 ^ k := by
 apply Nat.eq_of_testBit_eq
 intro j
 rw [Nat.testBit_and, Nat.testBit_two_pow]
 by_cases h : k = j
 ·subst h
  cases n.testBit k
  ·simp
  ·simp
 ·cases n.testBit k
  ·simp [h]
  ·simp [h]

theorem bit_same (n : Int) (k : Nat) (hk : k ≤ 9) (hn : I64 n) : (bits .and .i64 n (2 ^ k) != 0) = (bits .and .i64 (n / 2 ^ k) 1 == 1) := by
 have h1 : I64 (n / 2 ^ k) := by
  unfold I64 at *
  rcases (show k = 0 ∨ k = 1 ∨ k = 2 ∨ k = 3 ∨ k = 4 ∨ k = 5 ∨ k = 6 ∨ k = 7 ∨ k = 8 ∨ k = 9 by omega) with rfl | rfl | rfl | rfl | rfl | rfl | rfl | rfl | rfl | rfl <;> simp <;> omega
 rw [bits_and, bits_and, bne, Bool.eq_iff_iff]
 simp only [Bool.not_eq_true', beq_eq_false_iff_ne, ne_eq, beq_iff_eq]
 rw [toInt_zero]
 have a1 : (BitVec.ofInt 64 (n / 2 ^ k) &&& BitVec.ofInt 64 1).toNat = (((n / 2 ^ k) % 18446744073709551616).toNat) % 2 := by
  rw [BitVec.toNat_and, bv_of _, show (BitVec.ofInt 64 1).toNat = 2 ^ 1 - 1 from rfl, Nat.and_two_pow_sub_one_eq_mod]
 have a2 : (BitVec.ofInt 64 n &&& BitVec.ofInt 64 (2 ^ k)).toNat = ((n % 18446744073709551616).toNat.testBit k).toNat * 2 ^ k := by
  rw [BitVec.toNat_and, bv_of _, ← and_pow]
  congr 1
  rcases (show k = 0 ∨ k = 1 ∨ k = 2 ∨ k = 3 ∨ k = 4 ∨ k = 5 ∨ k = 6 ∨ k = 7 ∨ k = 8 ∨ k = 9 by omega) with rfl | rfl | rfl | rfl | rfl | rfl | rfl | rfl | rfl | rfl <;> rfl
 have a3 : ((BitVec.ofInt 64 (n / 2 ^ k) &&& BitVec.ofInt 64 1).toInt = 1) ↔ (((n / 2 ^ k) % 18446744073709551616).toNat) % 2 = 1 := by
  rw [← a1, BitVec.toInt_eq_toNat_cond]
  have := (BitVec.ofInt 64 (n / 2 ^ k) &&& BitVec.ofInt 64 1).isLt
  have h2 : (BitVec.ofInt 64 (n / 2 ^ k) &&& BitVec.ofInt 64 1).toNat < 2 := by rw [a1]; omega
  rw [if_pos (by omega)]
  omega
 have a4 : ((BitVec.ofInt 64 n &&& BitVec.ofInt 64 (2 ^ k)) = 0#64) ↔ (n % 18446744073709551616).toNat.testBit k = false := by
  rw [← BitVec.toNat_inj, a2]
  have : 0 < 2 ^ k := Nat.two_pow_pos k
  cases (n % 18446744073709551616).toNat.testBit k
  ·simp
  ·simp
 rw [a3, a4, Bool.not_eq_false, Nat.testBit_eq_decide_div_mod_eq, decide_eq_true_eq]
 unfold I64 at hn
 rcases (show k = 0 ∨ k = 1 ∨ k = 2 ∨ k = 3 ∨ k = 4 ∨ k = 5 ∨ k = 6 ∨ k = 7 ∨ k = 8 ∨ k = 9 by omega) with rfl | rfl | rfl | rfl | rfl | rfl | rfl | rfl | rfl | rfl <;> simp <;> omega

end Go.Proofs.YtddalpglihhipaaGreat
