/-
  Packed: FdbMath FentMem VtabMath IBase IHelp VrowMem BrMem VtabAt Made VecEql PtOkS FdbSpec PtApp Draw Drawb.
-/
import Derived.Test.YtfknffdlmcckkaaGreatPTK01
import Derived.Deep.RegionHeld3
import Derived.Deep.CutRange
namespace Go.Proofs.YtfknffdlmcckkaaGreat
open Go.RowKit

structure FE where
 t : Int
 m : Int
 p : Int
 a : Int
 s : Bool

def entOk (e : FE) : Bool :=
 (decide (1 ≤ e.t) && decide (e.t ≤ 99)) && ((decide (1 ≤ e.m) && decide (e.m ≤ 9999)) && ((decide (0 ≤ e.p) && decide (e.p ≤ 7)) && ((decide (0 ≤ e.a) && decide (e.a ≤ 4)) && (!e.s || (e.a == 0)))))

theorem entOk_iff (e : FE) : entOk e = true ↔ (1 ≤ e.t ∧ e.t ≤ 99) ∧ (1 ≤ e.m ∧ e.m ≤ 9999) ∧ (0 ≤ e.p ∧ e.p ≤ 7) ∧ (0 ≤ e.a ∧ e.a ≤ 4) ∧ (e.s = true → e.a = 0) := by
 unfold entOk
 cases e.s <;> simp

def ahead (e : FE) (t m : Int) : Bool := if (e.t != t) = true then decide (e.t < t) else decide (e.m < m)

def both (e : FE) (t m : Int) : Bool := (e.t == t) && (e.m == m)

theorem both_iff {e : FE} {t m : Int} : both e t m = true ↔ e.t = t ∧ e.m = m := by simp [both]
theorem both_not {e : FE} {t m : Int} : both e t m = false ↔ ¬ (e.t = t ∧ e.m = m) := by
 rw [← both_iff]; simp

theorem ahead_iff {e : FE} {t m : Int} : ahead e t m = true ↔ e.t < t ∨ (e.t = t ∧ e.m < m) := by
 unfold ahead
 by_cases h : e.t = t
 ·simp [h]
 ·simp [h]
theorem ahead_not {e : FE} {t m : Int} : ahead e t m = false ↔ ¬ (e.t < t ∨ (e.t = t ∧ e.m < m)) := by
 rw [← ahead_iff]; simp

def rises : List FE → Bool
 | [] => true
 | [e] => entOk e
 | e :: f :: r => entOk e && (ahead e f.t f.m && rises (f :: r))

def fdbOk (l : List FE) : Bool := rises l && decide ((l.length : Int) ≤ 12)

def Sorted (l : List FE) : Prop := (∀ e ∈ l, entOk e = true) ∧ l.Pairwise (fun e f => ahead e f.t f.m = true)

theorem ahead_trans {e f g : FE} (h1 : ahead e f.t f.m = true) (h2 : ahead f g.t g.m = true) : ahead e g.t g.m = true := by
 rw [ahead_iff] at *
 omega

theorem rises_sorted : ∀ (l : List FE), rises l = true ↔ Sorted l
 | [] => by simp [rises, Sorted]
 | [e] => by simp [rises, Sorted]
 | e :: f :: r => by
  have ih := rises_sorted (f :: r)
  unfold rises
  simp only [Bool.and_eq_true, ih]
  constructor
  ·rintro ⟨h1, h2, h3, h4⟩
   refine ⟨?_, ?_⟩
   ·intro x hx
    rcases List.mem_cons.1 hx with rfl | hx
    ·exact h1
    ·exact h3 x hx
   ·refine List.pairwise_cons.2 ⟨?_, h4⟩
    intro x hx
    rcases List.mem_cons.1 hx with rfl | hx
    ·exact h2
    ·exact ahead_trans h2 ((List.pairwise_cons.1 h4).1 x hx)
  ·rintro ⟨h1, h2⟩
   obtain ⟨h3, h4⟩ := List.pairwise_cons.1 h2
   exact ⟨h1 e (by simp), h3 f (by simp), fun x hx => h1 x (List.mem_cons_of_mem _ hx), h4⟩

theorem fdbOk_iff (l : List FE) : fdbOk l = true ↔ Sorted l ∧ l.length ≤ 12 := by
 unfold fdbOk
 rw [Bool.and_eq_true, rises_sorted, decide_eq_true_eq]
 constructor <;> rintro ⟨h1, h2⟩ <;> exact ⟨h1, by omega⟩

theorem sorted_tail {e : FE} {l : List FE} (h : Sorted (e :: l)) : Sorted l := ⟨fun x hx => h.1 x (List.mem_cons_of_mem _ hx), (List.pairwise_cons.1 h.2).2⟩
theorem sorted_head {e : FE} {l : List FE} (h : Sorted (e :: l)) : entOk e = true ∧ ∀ x ∈ l, ahead e x.t x.m = true := ⟨h.1 e (by simp), (List.pairwise_cons.1 h.2).1⟩

def lookE (l : List FE) (t m : Int) : Option FE := l.find? (fun e => both e t m)

theorem look_none {l : List FE} {t m : Int} : lookE l t m = none ↔ ∀ e ∈ l, ¬ (e.t = t ∧ e.m = m) := by
 unfold lookE
 rw [List.find?_eq_none]
 constructor
 ·intro h e he hb
  exact h e he (both_iff.2 hb)
 ·intro h e he hb
  exact h e he (both_iff.1 hb)

def putGo (e : FE) : Bool → List FE → List FE
 | d, [] => if d = true then [] else [e]
 | d, x :: r =>
  if (!d && !ahead x e.t e.m) = true then e :: (if both x e.t e.m = true then putGo e true r else x :: putGo e true r)
  else if both x e.t e.m = true then putGo e d r else x :: putGo e d r

def putF8 (e : FE) (l : List FE) : List FE := putGo e false l

theorem putGo_behind {e : FE} {l : List FE} (h : ∀ x ∈ l, ahead e x.t x.m = true) : putGo e true l = l := by
 induction l with
 | nil => rfl
 | cons x r ih =>
  unfold putGo
  have hx := h x (by simp)
  rw [ahead_iff] at hx
  rw [both_not.2 (by omega)]
  simp [ih (fun y hy => h y (List.mem_cons_of_mem _ hy))]

def insF (e : FE) : List FE → List FE
 | [] => [e]
 | x :: r => if ahead x e.t e.m = true then x :: insF e r else if both x e.t e.m = true then e :: r else e :: x :: r

theorem putF8_sorted {e : FE} {l : List FE} (h : Sorted l) : putF8 e l = insF e l := by
 unfold putF8
 induction l with
 | nil => rfl
 | cons x r ih =>
  obtain ⟨_, hx⟩ := sorted_head h
  unfold putGo insF
  cases ha : ahead x e.t e.m
  ·have hb : ∀ y ∈ r, ahead e y.t y.m = true := by
    intro y hy
    have := hx y hy
    rw [ahead_iff] at *
    rw [ahead_not] at ha
    omega
   rw [putGo_behind hb]
   simp
   split <;> rfl
  ·have ha' := ha
   rw [ahead_iff] at ha'
   rw [both_not.2 (by omega)]
   simp [ih (sorted_tail h)]

theorem mem_insF {e : FE} {l : List FE} (h : Sorted l) {x : FE} : x ∈ insF e l ↔ x = e ∨ (x ∈ l ∧ ¬ (x.t = e.t ∧ x.m = e.m)) := by
 induction l with
 | nil => simp [insF]
 | cons y r ih =>
  obtain ⟨_, hy⟩ := sorted_head h
  unfold insF
  cases ha : ahead y e.t e.m
  ·have hr : ∀ z ∈ r, ¬ (z.t = e.t ∧ z.m = e.m) := by
    intro z hz
    have := hy z hz
    rw [ahead_iff] at this
    rw [ahead_not] at ha
    omega
   cases hb : both y e.t e.m
   ·rw [both_not] at hb
    simp only [Bool.false_eq_true, if_false, List.mem_cons]
    constructor
    ·rintro (rfl | rfl | hx)
     ·exact .inl rfl
     ·exact .inr ⟨.inl rfl, hb⟩
     ·exact .inr ⟨.inr hx, hr x hx⟩
    ·rintro (rfl | ⟨rfl | hx, _⟩)
     ·exact .inl rfl
     ·exact .inr (.inl rfl)
     ·exact .inr (.inr hx)
   ·rw [both_iff] at hb
    simp only [Bool.false_eq_true, if_false, if_true, List.mem_cons]
    constructor
    ·rintro (rfl | hx)
     ·exact .inl rfl
     ·exact .inr ⟨.inr hx, hr x hx⟩
    ·rintro (rfl | ⟨rfl | hx, hn⟩)
     ·exact .inl rfl
     ·exact absurd hb hn
     ·exact .inr hx
  ·simp only [if_true, List.mem_cons, ih (sorted_tail h)]
   have hb : ¬ (y.t = e.t ∧ y.m = e.m) := by rw [ahead_iff] at ha; omega
   constructor
   ·rintro (rfl | rfl | ⟨hx, hn⟩)
    ·exact .inr ⟨.inl rfl, hb⟩
    ·exact .inl rfl
    ·exact .inr ⟨.inr hx, hn⟩
   ·rintro (rfl | ⟨rfl | hx, hn⟩)
    ·exact .inr (.inl rfl)
    ·exact .inl rfl
    ·exact .inr (.inr ⟨hx, hn⟩)

theorem sorted_insF {e : FE} (he : entOk e = true) {l : List FE} (h : Sorted l) : Sorted (insF e l) := by
 refine ⟨?_, ?_⟩
 ·intro x hx
  rcases (mem_insF h).1 hx with rfl | ⟨hx, _⟩
  ·exact he
  ·exact h.1 x hx
 ·induction l with
  | nil => simp [insF]
  | cons y r ih =>
   obtain ⟨_, hy⟩ := sorted_head h
   unfold insF
   cases ha : ahead y e.t e.m
   ·have hr : ∀ z ∈ r, ahead e z.t z.m = true := by
     intro z hz
     have := hy z hz
     rw [ahead_iff] at *
     rw [ahead_not] at ha
     omega
    cases hb : both y e.t e.m
    ·simp only [Bool.false_eq_true, if_false]
     refine List.pairwise_cons.2 ⟨?_, h.2⟩
     intro z hz
     rcases List.mem_cons.1 hz with rfl | hz
     ·rw [ahead_not] at ha
      rw [both_not] at hb
      rw [ahead_iff]
      omega
     ·exact hr z hz
    ·simp only [Bool.false_eq_true, if_false, if_true]
     exact List.pairwise_cons.2 ⟨hr, (List.pairwise_cons.1 h.2).2⟩
   ·simp only [if_true]
    refine List.pairwise_cons.2 ⟨?_, ih (sorted_tail h)⟩
    intro z hz
    rcases (mem_insF (sorted_tail h)).1 hz with rfl | ⟨hz, _⟩
    ·exact ha
    ·exact hy z hz

theorem length_insF {e : FE} {l : List FE} (h : Sorted l) : (insF e l).length = if (lookE l e.t e.m).isSome = true then l.length else l.length + 1 := by
 induction l with
 | nil => rfl
 | cons y r ih =>
  obtain ⟨_, hy⟩ := sorted_head h
  unfold insF lookE
  rw [List.find?_cons]
  cases ha : ahead y e.t e.m
  ·cases hb : both y e.t e.m
   ·have hr : lookE r e.t e.m = none := look_none.2 (by
     intro z hz
     have := hy z hz
     rw [ahead_iff] at this
     rw [ahead_not] at ha
     omega)
    unfold lookE at hr
    simp [hr]
   ·simp
  ·have hb : both y e.t e.m = false := both_not.2 (by rw [ahead_iff] at ha; omega)
   rw [hb]
   have ih := ih (sorted_tail h)
   unfold lookE at ih
   simp only [if_true, List.length_cons, ih]
   split <;> rfl

def atF (l : List FE) (t m : Int) : Int :=
 match l.findIdx? (fun e => both e t m) with
 | some i => i
 | none => -1

def canLearn (l : List FE) (t m p : Int) : Bool :=
 fdbOk l && (entOk ⟨t, m, p, 0, false⟩ && (match lookE l t m with | some e => !e.s | none => decide (l.length < 12)))
def learnF (l : List FE) (t m p : Int) : List FE := if canLearn l t m p = true then putF8 ⟨t, m, p, 0, false⟩ l else l

def ageE (e : FE) : Option FE := if e.s = true then some e else if e.a < 4 then some ⟨e.t, e.m, e.p, e.a + 1, e.s⟩ else none
def ageF (l : List FE) : List FE := l.filterMap ageE

def flushF (l : List FE) (p : Int) : List FE := l.filter (fun e => e.s || (e.p != p))

def canSet (l : List FE) (t m p : Int) : Bool :=
 fdbOk l && (entOk ⟨t, m, p, 0, true⟩ && ((lookE l t m).isSome || decide (l.length < 12)))
def setF (l : List FE) (t m p : Int) : List FE := if canSet l t m p = true then putF8 ⟨t, m, p, 0, true⟩ l else l

theorem learn_ok {l : List FE} (h : fdbOk l = true) (t m p : Int) : fdbOk (learnF l t m p) = true := by
 unfold learnF
 split
 ·rename_i hc
  unfold canLearn at hc
  simp only [Bool.and_eq_true] at hc
  obtain ⟨_, he, hm⟩ := hc
  obtain ⟨hs, hl⟩ := (fdbOk_iff l).1 h
  rw [putF8_sorted hs, fdbOk_iff]
  refine ⟨sorted_insF he hs, ?_⟩
  rw [length_insF hs]
  cases hk : lookE l t m with
  | some e => simp [hl]
  | none =>
   rw [hk] at hm
   simp at hm
   simp
   omega
 ·exact h

theorem set_ok {l : List FE} (h : fdbOk l = true) (t m p : Int) : fdbOk (setF l t m p) = true := by
 unfold setF
 split
 ·rename_i hc
  unfold canSet at hc
  simp only [Bool.and_eq_true] at hc
  obtain ⟨_, he, hm⟩ := hc
  obtain ⟨hs, hl⟩ := (fdbOk_iff l).1 h
  rw [putF8_sorted hs, fdbOk_iff]
  refine ⟨sorted_insF he hs, ?_⟩
  rw [length_insF hs]
  cases hk : lookE l t m with
  | some e => simp [hl]
  | none =>
   rw [hk] at hm
   simp at hm
   simp
   omega
 ·exact h

theorem ageE_some {e f : FE} (h : ageE e = some f) : f.t = e.t ∧ f.m = e.m ∧ f.p = e.p ∧ f.s = e.s ∧ ((e.s = true ∧ f.a = e.a) ∨ (e.s = false ∧ e.a < 4 ∧ f.a = e.a + 1)) := by
 unfold ageE at h
 cases hs : e.s
 ·rw [hs] at h
  simp only [Bool.false_eq_true, if_false] at h
  split at h
  ·rename_i ha
   cases h
   exact ⟨rfl, rfl, rfl, rfl, .inr ⟨rfl, ha, rfl⟩⟩
  ·cases h
 ·rw [hs] at h
  simp only [if_true] at h
  cases h
  exact ⟨rfl, rfl, rfl, hs, .inl ⟨rfl, rfl⟩⟩

theorem age_sorted {l : List FE} (h : Sorted l) : Sorted (ageF l) := by
 unfold ageF
 refine ⟨?_, ?_⟩
 ·intro f hf
  obtain ⟨e, he, hef⟩ := List.mem_filterMap.1 hf
  have h1 := h.1 e he
  obtain ⟨a1, a2, a3, a4, a5⟩ := ageE_some hef
  rw [entOk_iff] at *
  rcases a5 with ⟨b1, b2⟩ | ⟨b1, b2, b3⟩
  ·rw [a1, a2, a3, a4, b2]; exact h1
  ·rw [a1, a2, a3, a4, b3, b1]
   refine ⟨h1.1, h1.2.1, h1.2.2.1, by omega, by simp⟩
 ·rw [List.pairwise_filterMap]
  refine h.2.imp ?_
  intro a b hab x hx y hy
  obtain ⟨a1, a2, -⟩ := ageE_some hx
  obtain ⟨b1, b2, -⟩ := ageE_some hy
  rw [ahead_iff] at *
  rw [a1, a2, b1, b2]
  exact hab

theorem age_ok {l : List FE} (h : fdbOk l = true) : fdbOk (ageF l) = true := by
 rw [fdbOk_iff] at *
 exact ⟨age_sorted h.1, Nat.le_trans (List.length_filterMap_le _ _) h.2⟩

section
open Go.RowKit

def fentF : Flat FE where
 k := 5
 cs := fun e => [.int .i64 e.t, .int .i64 e.m, .int .i64 e.p, .int .i64 e.a, .bool e.s]
 len := fun _ => rfl
 pos := by decide
 one := fun _ v hv => by
  simp only [List.mem_cons, List.not_mem_nil, or_false] at hv
  rcases hv with rfl | rfl | rfl | rfl | rfl <;> rfl

def FE.Rng (e : FE) : Prop := (-9223372036854775808 ≤ e.t ∧ e.t ≤ 9223372036854775807) ∧ (-9223372036854775808 ≤ e.m ∧ e.m ≤ 9223372036854775807) ∧ (-9223372036854775808 ≤ e.p ∧ e.p ≤ 9223372036854775807) ∧ (-9223372036854775808 ≤ e.a ∧ e.a ≤ 9223372036854775807)

theorem fent_at {w : World} {ao : Option Addr} {len cap : Nat} {l : List FE} (h : GRow fentF w ao len cap l) (i : Nat) (hi : i < len) : ∃ (x : FE) (b off : Nat), l[i]? = some x ∧ ao = some ⟨b, off, none⟩ ∧
  w.cell? ⟨b, off + i * 5, none⟩ = some (.int .i64 x.t) ∧ w.cell? ⟨b, off + i * 5 + 1, none⟩ = some (.int .i64 x.m) ∧ w.cell? ⟨b, off + i * 5 + 2, none⟩ = some (.int .i64 x.p) ∧ w.cell? ⟨b, off + i * 5 + 3, none⟩ = some (.int .i64 x.a) ∧ w.cell? ⟨b, off + i * 5 + 4, none⟩ = some (.bool x.s) := by
 obtain ⟨x, b, off, hx, ha, hc⟩ := h.at i hi
 exact ⟨x, b, off, hx, ha, hc 0 _ rfl, hc 1 _ rfl, hc 2 _ rfl, hc 3 _ rfl, hc 4 _ rfl⟩

section
open Go.ChangeShapes Go.WideShapes Go.ChangeAt
variable {H : Type} {enc : TypeId × Value → H} {P : Program} {w : World}

end

end

structure VR where
 i : Int
 m : Int
 b : Int

structure VT where
 rows : List VR
 own : List Int

def rowIdx (l : List VR) (id : Int) : Option Nat := l.findIdx? (fun r => r.i == id)
def rowAt (l : List VR) (id : Int) : Int := match rowIdx l id with
 | some k => k
 | none => -1

def in3 (x lo hi : Int) : Bool := decide (lo ≤ x) && decide (x ≤ hi)
def allOf (p : Nat) : Int := 2 ^ p - 1

def vrowOk (all : Int) (r : VR) : Bool := in3 r.i 1 99 && in3 r.m 0 all && in3 r.b 0 all && (bits .and .i64 r.b r.m == r.b)

def vrises : List VR → Bool
 | [] => true
 | [_] => true
 | e :: f :: r => decide (e.i < f.i) && vrises (f :: r)

def vtabOk (v : VT) (ports : Int) : Bool :=
 in3 ports 1 6 && ((v.own.length : Int) == ports) && decide (v.rows.length ≤ 6) && v.rows.all (vrowOk (allOf ports.toNat)) && vrises v.rows && v.own.all (fun p => (rowIdx v.rows p).isSome)

def bitOf (n port : Int) : Bool := in3 port 0 7 && (bits .and .i64 (n / 2 ^ port.toNat) 1 == 1)

def putRowF (l : List VR) (r : VR) : Bool → List VR
 | d => match l with
  | [] => if d then [] else [r]
  | x :: t => (if !d && decide (r.i ≤ x.i) then [r] else []) ++ (if x.i != r.i then [x] else []) ++ putRowF t r (d || decide (r.i ≤ x.i))

theorem rowIdx_found {l : List VR} {id : Int} {k : Nat} {x : VR} (hno : ∀ j y, j < k → l[j]? = some y → (y.i == id) = false) (hx : l[k]? = some x) (he : (x.i == id) = true) : rowIdx l id = some k := by
 obtain ⟨hk, rfl⟩ := List.getElem?_eq_some_iff.1 hx
 refine List.findIdx?_eq_some_iff_getElem.2 ⟨hk, he, fun j hj => ?_⟩
 have := hno j l[j] hj (List.getElem?_eq_getElem (by omega))
 simp [this]

theorem rowIdx_none {l : List VR} {id : Int} (hno : ∀ (j : Nat) (y : VR), l[j]? = some y → (y.i == id) = false) : rowIdx l id = none := by
 refine List.findIdx?_eq_none_iff.2 fun x hx => ?_
 obtain ⟨j, hj⟩ := List.mem_iff_getElem?.1 hx
 exact hno j x hj

theorem rowIdx_some {l : List VR} {id : Int} {k : Nat} (h : rowIdx l id = some k) : ∃ x, l[k]? = some x ∧ (x.i == id) = true ∧ l.find? (fun r => r.i == id) = some x := by
 obtain ⟨hk, he, hno⟩ := List.findIdx?_eq_some_iff_getElem.1 h
 refine ⟨l[k], List.getElem?_eq_getElem hk, he, ?_⟩
 refine List.find?_eq_some_iff_getElem.2 ⟨he, k, hk, rfl, fun j hj => ?_⟩
 have := hno j hj
 simpa using this

theorem vno_next {l : List VR} {id : Int} {k : Nat} {x : VR} (hno : ∀ j y, j < k → l[j]? = some y → (y.i == id) = false) (hx : l[k]? = some x) (he : (x.i == id) = false) : ∀ j y, j < k + 1 → l[j]? = some y → (y.i == id) = false := by
 intro j y hj hy
 by_cases e : j = k
 ·subst e
  rw [hx] at hy
  cases hy
  exact he
 ·exact hno j y (by omega) hy

theorem rowAt_found {l : List VR} {id : Int} {k : Nat} {x : VR} (hno : ∀ j y, j < k → l[j]? = some y → (y.i == id) = false) (hx : l[k]? = some x) (he : (x.i == id) = true) : rowAt l id = k := by
 unfold rowAt
 rw [rowIdx_found hno hx he]
theorem rowAt_none {l : List VR} {id : Int} (hno : ∀ (j : Nat) (y : VR), l[j]? = some y → (y.i == id) = false) : rowAt l id = -1 := by
 unfold rowAt
 rw [rowIdx_none hno]

def cI (zs : List Int) : List Value := zs.map (Value.int .i64)

def I64s (zs : List Int) : Prop := ∀ z ∈ zs, -9223372036854775808 ≤ z ∧ z ≤ 9223372036854775807

theorem cI_length (zs : List Int) : (cI zs).length = zs.length := by simp [cI]
theorem cI_append (a b : List Int) : cI (a ++ b) = cI a ++ cI b := by simp [cI]
theorem cI_get (zs : List Int) (j : Nat) (h : j < zs.length) : (cI zs)[j]? = some (.int .i64 (zs.getD j 0)) := by
 simp [cI, List.getElem?_map, List.getElem?_eq_getElem h]

structure IRow (w : World) (ao : Option Addr) (len cap : Nat) (zs : List Int) : Prop where
 size : zs.length = len
 le : len ≤ cap
 top : cap ≤ maxLen
 nil : ao = none → cap = 0
 byte : I64s zs
 cell : len = 0 ∨ ∃ b off, ao = some ⟨b, off, none⟩ ∧ ∀ i, i < len → w.cell? ⟨b, off + i, none⟩ = some (.int .i64 (zs.getD i 0))

theorem IRow.below {w w' : World} {ao : Option Addr} {len cap : Nat} {zs : List Int} (h : IRow w ao len cap zs) (hb : Below w.heap.size w w') : IRow w' ao len cap zs where
 size := h.size
 le := h.le
 top := h.top
 nil := h.nil
 byte := h.byte
 cell := by
  rcases h.cell with h0 | ⟨b, off, ha, hc⟩
  ·exact .inl h0
  ·exact .inr ⟨b, off, ha, fun i hi => by rw [hb.cell (block_lt (hc i hi))]; exact hc i hi⟩

theorem irow_of_own {w : World} {base : Nat} {v : Value} {n : Nat} {zs : List Int} (h : w.ownsRow base 3 1 v n (cI zs)) (hz : I64s zs) :
  ∃ ao cap, v = .slice ao n cap ∧ IRow w ao n cap zs := by
 have hl : zs.length = n := by have := h.1; simpa [cI] using this
 rcases h.2 with ⟨rfl, rfl⟩ | ⟨g, cap, cur, rfl, hg, hh, h1, h2, h3, h4⟩
 ·exact ⟨none, 0, rfl, hl, Nat.le_refl _, Nat.zero_le _, fun _ => rfl, hz, .inl rfl⟩
 ·refine ⟨_, cap, rfl, hl, h1, h2, (by intro h; cases h), hz, .inr ⟨g, 0, rfl, fun i hi => ?_⟩⟩
  have := h.cellAt i (by omega)
  rw [Nat.zero_add, this, cI_get zs i (by omega)]

theorem Tryz.infoI64 : (Tryz.prog.info? 3).map (fun i => (i.zero, i.size, i.bytes)) = some (some (.int .i64 0), 1, 8) := by kernel_rfl

theorem IRow.news {w : World} {ao : Option Addr} {len cap : Nat} {zs : List Int} (h : IRow w ao len cap zs) (ad : Addr) (ha : ao = some ad) (j : Nat) (u : Value) (hu : (cI zs)[j]? = some u) : w.cell? (ad.add j) = some u := by
 have hj : j < zs.length := by
  by_cases hlt : j < zs.length
  ·exact hlt
  ·rw [List.getElem?_eq_none (by rw [cI_length]; omega)] at hu
   cases hu
 rw [cI_get _ _ hj] at hu
 rcases h.cell with h0 | ⟨b, off, hb, hc⟩
 ·have := h.size; omega
 ·rw [ha] at hb
  cases hb
  rw [← hu]
  rw [add_none]; exact hc j (by have := h.size; omega)

theorem getD_i64 {zs : List Int} (h : I64s zs) (j : Nat) : -9223372036854775808 ≤ zs.getD j 0 ∧ zs.getD j 0 ≤ 9223372036854775807 := by
 by_cases hj : j < zs.length
 ·rw [List.getD_eq_getElem?_getD, List.getElem?_eq_getElem hj]; exact h _ (List.getElem_mem hj)
 ·rw [List.getD_eq_getElem?_getD, List.getElem?_eq_none (by omega)]; simp

theorem IRow.at {w : World} {ao : Option Addr} {len cap : Nat} {zs : List Int} (h : IRow w ao len cap zs) (hp : 0 < len) : ∃ b off, ao = some ⟨b, off, none⟩ ∧ ∀ i, i < len → w.cell? ⟨b, off + i, none⟩ = some (.int .i64 (zs.getD i 0)) := by
 rcases h.cell with h0 | h0
 ·omega
 ·exact h0

theorem I64s.at {zs : List Int} (h : I64s zs) (j : Nat) : -9223372036854775808 ≤ zs.getD j 0 ∧ zs.getD j 0 ≤ 9223372036854775807 := getD_i64 h j

theorem irow_own {w : World} {base : Nat} {ao : Option Addr} {n cap : Nat} {zs : List Int} (h : w.ownsRow base 3 1 (.slice ao n cap) n (cI zs)) (hz : I64s zs) : IRow w ao n cap zs := by
 obtain ⟨ao', cap', e, hr⟩ := irow_of_own h hz
 cases e
 exact hr

def vrowF : Flat VR where
 k := 3
 cs := fun e => [.int .i64 e.i, .int .i64 e.m, .int .i64 e.b]
 len := fun _ => rfl
 pos := by decide
 one := fun _ v hv => by
  simp only [List.mem_cons, List.not_mem_nil, or_false] at hv
  rcases hv with rfl | rfl | rfl <;> rfl

theorem vrow_at {w : World} {ao : Option Addr} {len cap : Nat} {l : List VR} (h : GRow vrowF w ao len cap l) (i : Nat) (hi : i < len) : ∃ (x : VR) (b off : Nat), l[i]? = some x ∧ ao = some ⟨b, off, none⟩ ∧
  w.cell? ⟨b, off + i * 3, none⟩ = some (.int .i64 x.i) ∧ w.cell? ⟨b, off + i * 3 + 1, none⟩ = some (.int .i64 x.m) ∧ w.cell? ⟨b, off + i * 3 + 2, none⟩ = some (.int .i64 x.b) := by
 obtain ⟨x, b, off, hx, ha, hc⟩ := h.at i hi
 exact ⟨x, b, off, hx, ha, hc 0 _ rfl, hc 1 _ rfl, hc 2 _ rfl⟩

structure VTab (w : World) (a : Option Addr) (n c : Nat) (o : Option Addr) (p q : Nat) (v : VT) : Prop where
 rows : GRow vrowF w a n c v.rows
 own : IRow w o p q v.own

theorem VTab.below {w w' : World} {a : Option Addr} {n c : Nat} {o : Option Addr} {p q : Nat} {v : VT} (h : VTab w a n c o p q v) (hb : Below w.heap.size w w') : VTab w' a n c o p q v :=
 ⟨h.rows.below hb, h.own.below hb⟩

structure BR where
 id : Int
 name : ByteArray
 ports : List PT
 f : List FE
 v : VT
 ticks : Int
 parse : Int
 word : Int
 drops : Int
 vers : Int

def in1m (x : Int) : Bool := decide (0 ≤ x) && decide (x ≤ 1000000)
def countsOk (a b c d e : Int) : Bool := in1m a && (in1m b && (in1m c && (in1m d && in1m e)))
def bridgeOk (b : BR) : Bool :=
 b.ports.all ptOk && (in3 b.id 1 99 && (decide ((b.name.size : Int) ≤ 10) && (in3 (b.ports.length : Int) 1 6 && (fdbOk b.f && (vtabOk b.v (b.ports.length : Int) && countsOk b.ticks b.parse b.word b.drops b.vers)))))

structure BrRow (w : World) (a : Option Addr) (n c : Nat) (fa : Option Addr) (fn fc : Nat) (ra : Option Addr) (rn rc : Nat) (oa : Option Addr) (on oc : Nat) (b : BR) : Prop where
 ports : GRow ptF w a n c b.ports
 f : GRow fentF w fa fn fc b.f
 v : VTab w ra rn rc oa on oc b.v

theorem BrRow.below {w w' : World} {a : Option Addr} {n c : Nat} {fa : Option Addr} {fn fc : Nat} {ra : Option Addr} {rn rc : Nat} {oa : Option Addr} {on oc : Nat} {b : BR} (h : BrRow w a n c fa fn fc ra rn rc oa on oc b) (hb : Below w.heap.size w w') : BrRow w' a n c fa fn fc ra rn rc oa on oc b :=
 ⟨h.ports.below hb, h.f.below hb, h.v.below hb⟩

set_option maxRecDepth 100000 in
set_option maxHeartbeats 400000 in
theorem specRowAt_any (a : Option Addr) (n c : Nat) (l : List VR) (o : Option Addr) (p q : Nat) (id : Int) (w : World) (h : GRow vrowF w a n c l) :
  Calls Tryz.prog 113 #[.agg #[.slice a n c, .slice o p q], .int .i64 id] w fun r w' => r = .returned (.int .i64 (rowAt l id)) ∧ Below w.heap.size w w' := by
 have hle := h.le
 have htop := h.top
 unfold maxLen at htop
 have hsz := h.size
 have hW : Below w.heap.size w (w.alloc (Obj.cells #[Value.slice a n c, Value.slice o p q] 29)) := below_one _ _
 have h := h.below hW
 go_enter Tryz.func113, Tryz.ntmps113
 go_wp2
 go_loop [5] (fun i => ∃ k : Nat, k ≤ n ∧ i = .int .i64 k ∧ ∀ (j : Nat) (y : VR), j < k → l[j]? = some y → (y.i == id) = false) (fun i => n - (intOf i).toNat)
 case atStart => exact ⟨0, Nat.zero_le _, rfl, fun j y hj => by omega⟩
 case round =>
  obtain ⟨k, hk, rfl, hno⟩ := hrel
  by_cases hlt : k < n
  ·obtain ⟨x, b, off, hx, rfl, c0, -, -⟩ := vrow_at h k hlt
   cases t1 : (x.i == id)
   ·have HO := hide (vno_next hno hx t1)
    clear hno
    go_wp2
    go_round
    case rel => exact ⟨k + 1, by omega, by go_num, HO.out⟩
    case measure => simp [intOf]; omega
   ·have HF := hide (rowAt_found hno hx t1)
    clear hno
    go_wp2
    go_ret
    exact ⟨(by rw [HF.out]; rfl), hW⟩
  ·have hkn : k = n := by omega
   have HF := hide (rowAt_none (l := l) (id := id) (fun i y hy => hno i y (by have := (List.getElem?_eq_some_iff.1 hy).1; omega) hy))
   clear hno
   subst hkn
   go_wp2
   go_ret
   exact ⟨(by rw [HF.out]; rfl), hW⟩

theorem made_new {K : World → Prop} {W : World} {o : Obj} (h : ∀ wx, wx.heap[W.heap.size]? = some o → Below W.heap.size W wx → K wx) : K (W.alloc o) := h _ (block_last W o) (below_one W o)

theorem made_drew {K : World → Prop} {W : World} {o : Obj} (h : ∀ wx, wx.heap[W.heap.size]? = some o → Below W.drew.heap.size W.drew wx → K wx) : K (W.alloc o).drew := h _ (block_last W o) (below_one W.drew o)

theorem vec_eql (R C H B P R' C' H' B' P' : Int) (w : World) : (binOp .eql 35 (.agg #[.int .i64 R, .int .i64 C, .int .i64 H, .int .i64 B, .int .i64 P]) (.agg #[.int .i64 R', .int .i64 C', .int .i64 H', .int .i64 B', .int .i64 P'])).run Tryz.prog w = .ok (.bool ((R == R') && ((C == C') && ((H == H') && ((B == B') && (P == P')))))) w := by
 have u3 := Tryz.underlying3
 have a3 := Tryz.isAgg3
 have z3 := Tryz.sizeOf3
 have hS : Tryz.prog.underlying 35 = some (.struct (Tryz.prog.fieldsOf 35)) := by kernel_rfl
 have hp : Tryz.prog.stoodInHeld 35 = false := by kernel_rfl
 rw [run_eql_struct, show (10000 : Nat) = 9999 + 1 from rfl, run_equalIn_agg w 9999 35 _ _ hS hp]
 simp only [Program.fieldsOf, Tryz.underlying35]
 go_simp
 by_cases h1 : R = R' <;> by_cases h2 : C = C' <;> by_cases h3 : H = H' <;> by_cases h4 : B = B' <;> by_cases h5 : P = P' <;> simp [h1, h2, h3, h4, h5]

theorem cells8 {w : World} {g : Nat} {T : TypeId} {c0 c1 c2 c3 c4 c5 c6 c7 : Value} (h : w.heap[g]? = some (.cells #[c0, c1, c2, c3, c4, c5, c6, c7] T)) :
  w.cell? ⟨g, 0, none⟩ = some c0 ∧ w.cell? ⟨g, 1, none⟩ = some c1 ∧ w.cell? ⟨g, 2, none⟩ = some c2 ∧ w.cell? ⟨g, 3, none⟩ = some c3 ∧ w.cell? ⟨g, 4, none⟩ = some c4 ∧ w.cell? ⟨g, 5, none⟩ = some c5 ∧ w.cell? ⟨g, 6, none⟩ = some c6 ∧ w.cell? ⟨g, 7, none⟩ = some c7 := by
 simp [World.cell?, h]

set_option maxRecDepth 100000 in
set_option maxHeartbeats 2000000 in
theorem specPtOk_any (x : PT) (w : World) :
  Calls Tryz.prog 65 #[.agg #[.bool x.up, .int .i64 x.k, .bool x.has, .int .i64 x.v.r, .int .i64 x.v.c, .int .i64 x.v.h, .int .i64 x.v.b, .int .i64 x.v.p]] w fun e w' => e = .returned (.bool (ptOk x)) ∧ Below w.heap.size w w' := by
 have he : ∀ W, (binOp .eql 35 (.agg #[.int .i64 x.v.r, .int .i64 x.v.c, .int .i64 x.v.h, .int .i64 x.v.b, .int .i64 x.v.p]) (.agg #[.int .i64 0, .int .i64 0, .int .i64 0, .int .i64 0, .int .i64 0])).run Tryz.prog W = .ok (.bool (zeroVc x.v)) W := fun W => by rw [vec_eql]; rfl
 have hgd : Tryz.prog.eqGuardType Tryz.prog.depth 35 = false := by kernel_rfl
 obtain ⟨up, k, has, ⟨r, c, h, b, p⟩⟩ := x
 simp only at he ⊢
 generalize hw1 : w.alloc (.cells #[.bool up, .int .i64 k, .bool has, .int .i64 r, .int .i64 c, .int .i64 h, .int .i64 b, .int .i64 p] 44) = w1
 have q0 : Below w.heap.size w w1 := by subst hw1; exact below_one _ _
 obtain ⟨c0, c1, c2, c3, c4, c5, c6, c7⟩ := cells8 (by rw [← hw1]; exact block_last w _ : w1.heap[w.heap.size]? = _)
 cases t1 : (decide (1 ≤ k) && decide (k ≤ 1000))
 ·have T1 := hide t1
  rw [show ptOk ⟨up, k, has, ⟨r, c, h, b, p⟩⟩ = false by unfold ptOk; rw [t1]; rfl]
  clear t1
  go_enter Tryz.func65, Tryz.ntmps65
  go_wp2_with fail
  refine (within_any k 1 1000 _).mono ?_
  rintro e w2 ⟨rfl, rfl⟩
  rw [T1.out]
  go_wp2
  go_ret
  exact ⟨rfl, q0⟩
 cases has
 ·rw [show ptOk ⟨up, k, false, ⟨r, c, h, b, p⟩⟩ = zeroVc ⟨r, c, h, b, p⟩ by unfold ptOk; rw [t1]; cases up <;> rfl]
  have T1 := hide t1
  generalize zeroVc ⟨r, c, h, b, p⟩ = Q at *
  clear t1
  cases up <;>
  ·go_enter Tryz.func65, Tryz.ntmps65
   go_wp2_with fail
   refine (within_any k 1 1000 _).mono ?_
   rintro e w2 ⟨rfl, rfl⟩
   rw [T1.out]
   go_wp2
   go_ret
   exact ⟨rfl, q0⟩
 cases up
 ·rw [show ptOk ⟨false, k, true, ⟨r, c, h, b, p⟩⟩ = false by unfold ptOk; rw [t1]; rfl]
  have T1 := hide t1
  clear t1
  go_enter Tryz.func65, Tryz.ntmps65
  go_wp2_with fail
  refine (within_any k 1 1000 _).mono ?_
  rintro e w2 ⟨rfl, rfl⟩
  rw [T1.out]
  go_wp2
  go_ret
  exact ⟨rfl, q0⟩
 ·rw [show ptOk ⟨true, k, true, ⟨r, c, h, b, p⟩⟩ = okVc r c h b p by unfold ptOk; rw [t1]; rfl]
  have T1 := hide t1
  clear t1
  go_enter Tryz.func65, Tryz.ntmps65
  go_wp2_with fail
  refine (within_any k 1 1000 _).mono ?_
  rintro e w2 ⟨rfl, rfl⟩
  rw [T1.out]
  go_wp2_with fail
  refine (specVecOk_any r c h b p _).mono ?_
  rintro e w3 ⟨rfl, hb3⟩
  have HB := hide (gr_trans q0 hb3)
  clear hb3
  go_wp2
  go_ret
  exact ⟨rfl, HB.out⟩

set_option maxRecDepth 100000 in
set_option maxHeartbeats 2000000 in
theorem specEnt_any (e : FE) (w : World) :
  Calls Tryz.prog 111 #[.agg #[.int .i64 e.t, .int .i64 e.m, .int .i64 e.p, .int .i64 e.a, .bool e.s]] w fun r w' => r = .returned (.bool (entOk e)) ∧ Below w.heap.size w w' := by
 generalize hP : entOk e = Q
 unfold entOk at hP
 cases t1 : (decide (1 ≤ e.t) && decide (e.t ≤ 99))
 ·have h : Q = false := by rw [← hP, t1]; rfl
  subst h
  have T1 := hide t1
  clear hP t1
  go_enter Tryz.func111, Tryz.ntmps111
  go_wp2_with fail
  refine (within_any e.t 1 99 _).mono ?_
  rintro r w1 ⟨rfl, rfl⟩
  rw [T1.out]
  go_wp2
  go_ret
  exact ⟨rfl, below_one _ _⟩
 cases t2 : (decide (1 ≤ e.m) && decide (e.m ≤ 9999))
 ·have h : Q = false := by rw [← hP, t1, t2]; rfl
  subst h
  have T1 := hide t1
  have T2 := hide t2
  clear hP t1 t2
  go_enter Tryz.func111, Tryz.ntmps111
  go_wp2_with fail
  refine (within_any e.t 1 99 _).mono ?_
  rintro r w1 ⟨rfl, rfl⟩
  rw [T1.out]
  go_wp2_with fail
  refine (within_any e.m 1 9999 _).mono ?_
  rintro r w2 ⟨rfl, rfl⟩
  rw [T2.out]
  go_wp2
  go_ret
  exact ⟨rfl, below_one _ _⟩
 cases t3 : (decide (0 ≤ e.p) && decide (e.p ≤ 7))
 ·have h : Q = false := by rw [← hP, t1, t2, t3]; rfl
  subst h
  have T1 := hide t1
  have T2 := hide t2
  have T3 := hide t3
  clear hP t1 t2 t3
  go_enter Tryz.func111, Tryz.ntmps111
  go_wp2_with fail
  refine (within_any e.t 1 99 _).mono ?_
  rintro r w1 ⟨rfl, rfl⟩
  rw [T1.out]
  go_wp2_with fail
  refine (within_any e.m 1 9999 _).mono ?_
  rintro r w2 ⟨rfl, rfl⟩
  rw [T2.out]
  go_wp2_with fail
  refine (within_any e.p 0 7 _).mono ?_
  rintro r w3 ⟨rfl, rfl⟩
  rw [T3.out]
  go_wp2
  go_ret
  exact ⟨rfl, below_one _ _⟩
 cases t4 : (decide (0 ≤ e.a) && decide (e.a ≤ 4))
 ·have h : Q = false := by rw [← hP, t1, t2, t3, t4]; rfl
  subst h
  have T1 := hide t1
  have T2 := hide t2
  have T3 := hide t3
  have T4 := hide t4
  clear hP t1 t2 t3 t4
  go_enter Tryz.func111, Tryz.ntmps111
  go_wp2_with fail
  refine (within_any e.t 1 99 _).mono ?_
  rintro r w1 ⟨rfl, rfl⟩
  rw [T1.out]
  go_wp2_with fail
  refine (within_any e.m 1 9999 _).mono ?_
  rintro r w2 ⟨rfl, rfl⟩
  rw [T2.out]
  go_wp2_with fail
  refine (within_any e.p 0 7 _).mono ?_
  rintro r w3 ⟨rfl, rfl⟩
  rw [T3.out]
  go_wp2_with fail
  refine (within_any e.a 0 4 _).mono ?_
  rintro r w4 ⟨rfl, rfl⟩
  rw [T4.out]
  go_wp2
  go_ret
  exact ⟨rfl, below_one _ _⟩
 rw [t1, t2, t3, t4, Bool.true_and, Bool.true_and, Bool.true_and, Bool.true_and] at hP
 have T1 := hide t1
 have T2 := hide t2
 have T3 := hide t3
 have T4 := hide t4
 clear t1 t2 t3 t4
 cases hs : e.s
 ·rw [hs] at hP
  have h : Q = true := by rw [← hP]; rfl
  subst h
  clear hP
  go_enter Tryz.func111, Tryz.ntmps111
  go_wp2_with fail
  refine (within_any e.t 1 99 _).mono ?_
  rintro r w1 ⟨rfl, rfl⟩
  rw [T1.out]
  go_wp2_with fail
  refine (within_any e.m 1 9999 _).mono ?_
  rintro r w2 ⟨rfl, rfl⟩
  rw [T2.out]
  go_wp2_with fail
  refine (within_any e.p 0 7 _).mono ?_
  rintro r w3 ⟨rfl, rfl⟩
  rw [T3.out]
  go_wp2_with fail
  refine (within_any e.a 0 4 _).mono ?_
  rintro r w4 ⟨rfl, rfl⟩
  rw [T4.out]
  go_wp2
  go_ret
  exact ⟨rfl, below_one _ _⟩
 ·rw [hs, Bool.not_true, Bool.false_or] at hP
  have HP := hide hP
  clear hP
  go_enter Tryz.func111, Tryz.ntmps111
  go_wp2_with fail
  refine (within_any e.t 1 99 _).mono ?_
  rintro r w1 ⟨rfl, rfl⟩
  rw [T1.out]
  go_wp2_with fail
  refine (within_any e.m 1 9999 _).mono ?_
  rintro r w2 ⟨rfl, rfl⟩
  rw [T2.out]
  go_wp2_with fail
  refine (within_any e.p 0 7 _).mono ?_
  rintro r w3 ⟨rfl, rfl⟩
  rw [T3.out]
  go_wp2_with fail
  refine (within_any e.a 0 4 _).mono ?_
  rintro r w4 ⟨rfl, rfl⟩
  rw [T4.out]
  go_wp2
  go_ret
  exact ⟨ret_bool HP.out, below_one _ _⟩

set_option maxRecDepth 100000 in
set_option maxHeartbeats 400000 in
theorem specAhead_any (e : FE) (t m : Int) (w : World) :
  Calls Tryz.prog 112 #[.agg #[.int .i64 e.t, .int .i64 e.m, .int .i64 e.p, .int .i64 e.a, .bool e.s], .int .i64 t, .int .i64 m] w fun r w' => r = .returned (.bool (ahead e t m)) ∧ Below w.heap.size w w' := by
 unfold ahead
 cases t1 : (e.t != t)
 ·rw [if_neg Bool.false_ne_true]
  go_enter Tryz.func112, Tryz.ntmps112
  go_wp2
  go_ret
  exact ⟨rfl, below_one _ _⟩
 ·rw [if_pos rfl]
  go_enter Tryz.func112, Tryz.ntmps112
  go_wp2
  go_ret
  exact ⟨rfl, below_one _ _⟩

def okTo (l : List FE) (k : Nat) : Prop := ∀ i x, i < k → l[i]? = some x → entOk x = true ∧ ∀ y, 0 < i → l[i - 1]? = some y → ahead y x.t x.m = true

theorem okTo_rises : ∀ (l : List FE), rises l = true ↔ okTo l l.length
 | [] => by simp [rises, okTo]
 | [e] => by
  simp only [rises, okTo, List.length_singleton]
  constructor
  ·intro h i x hi hx
   have h0 : i = 0 := by omega
   subst h0
   simp at hx
   subst hx
   exact ⟨h, fun y hy => by omega⟩
  ·intro h
   exact (h 0 e (by omega) rfl).1
 | e :: f :: r => by
  have ih := okTo_rises (f :: r)
  unfold rises
  simp only [Bool.and_eq_true, ih]
  constructor
  ·rintro ⟨h1, h2, h3⟩ i x hi hx
   match i, hx with
   | 0, hx =>
    simp at hx
    subst hx
    exact ⟨h1, fun y hy => by omega⟩
   | 1, hx =>
    simp at hx
    subst hx
    refine ⟨(h3 0 f (by simp) rfl).1, fun y _ hy => ?_⟩
    simp at hy
    subst hy
    exact h2
   | i + 2, hx =>
    obtain ⟨a1, a2⟩ := h3 (i + 1) x (by simp at hi ⊢; omega) (by simpa using hx)
    exact ⟨a1, fun y _ hy => a2 y (by omega) (by simpa using hy)⟩
  ·intro h
   refine ⟨(h 0 e (by simp) rfl).1, (h 1 f (by simp) rfl).2 e (by omega) rfl, fun i x hi hx => ?_⟩
   obtain ⟨a1, a2⟩ := h (i + 1) x (by simp at hi ⊢; omega) (by simpa using hx)
   refine ⟨a1, fun y hy hz => a2 y (by omega) ?_⟩
   obtain ⟨j, rfl⟩ : ∃ j, i = j + 1 := ⟨i - 1, by omega⟩
   simpa using hz

theorem okTo_next {l : List FE} {k : Nat} {x : FE} (h : okTo l k) (hx : l[k]? = some x) (h1 : entOk x = true) (h2 : ∀ y, 0 < k → l[k - 1]? = some y → ahead y x.t x.m = true) : okTo l (k + 1) := by
 intro i z hi hz
 by_cases e : i = k
 ·subst e
  rw [hx] at hz
  cases hz
  exact ⟨h1, h2⟩
 ·exact h i z (by omega) hz

theorem fdbOk_not {l : List FE} (h : ¬ okTo l l.length) : fdbOk l = false := by
 unfold fdbOk
 have : rises l = false := by
  cases hr : rises l
  ·rfl
  ·exact absurd ((okTo_rises l).1 hr) h
 rw [this]
 rfl

theorem fdbOk_yes {l : List FE} (h : okTo l l.length) : fdbOk l = decide ((l.length : Int) ≤ 12) := by
 unfold fdbOk
 rw [(okTo_rises l).2 h]
 rfl

theorem ptInfo : (Tryz.prog.info? 44).map (fun i => (i.zero, i.size, i.bytes)) = some (some (.agg #[.bool false, .int .i64 0, .bool false, .int .i64 0, .int .i64 0, .int .i64 0, .int .i64 0, .int .i64 0]), ptF.k, 64) := by kernel_rfl

theorem pt_append (w : World) {ops : Array Oper} {rest : List Oper} {o : Oper} {a : Act} {Q : Exit → Act → World → Prop} (hgd : o.guard = none)
  (s x : Operand) (ho : o.op = Op.call { callee := Callee.builtin Builtin.append, args := #[s, x], argTypes := #[24, 24] }) (base : Nat)
  (v : Value) (n : Nat) (xs : List PT) (hs : a.eval s = v) (hown : w.ownsRow base 44 8 v n (ptF.all xs)) (ao : Option Addr) (m c : Nat) (zs : List PT)
  (hx : a.eval x = .slice ao m c) (hrow : GRow ptF w ao m c zs) (hsm : n + m ≤ 137438953472) (hbase : base ≤ w.heap.size)
  (h : ∀ ao' cap' w', w'.ownsRow base 44 8 (.slice ao' (n + m) cap') (n + m) (ptF.all (xs ++ zs)) → GRow ptF w' ao' (n + m) cap' (xs ++ zs) → w.grownBy w' v.ownBlock → Below base w w' → wpList Tryz.prog ops Q rest (a.put o.dst (.slice ao' (n + m) cap')) w') :
  wpList Tryz.prog ops Q (o :: rest) a w :=
 wpList_append_flat (F := ptF) w hgd s x 24 44 ho base Tryz.underlying24 ptInfo rfl (by decide) v n xs hs hown ao m c zs hx hrow hsm hbase h

theorem set_block8 {w : World} {g : Nat} {T : TypeId} {c0 c1 c2 c3 c4 c5 c6 c7 : Value} (h : w.heap[g]? = some (.cells #[c0, c1, c2, c3, c4, c5, c6, c7] T)) (u : Value) : (w.setCell ⟨g, 2, none⟩ u).heap[g]? = some (.cells #[c0, c1, u, c3, c4, c5, c6, c7] T) := set_block5 (j := 2) h u

theorem set_heard {w : World} {g : Nat} {T : TypeId} {c0 c1 c2 c3 c4 c5 c6 c7 : Value} (h : w.heap[g]? = some (.cells #[c0, c1, c2, c3, c4, c5, c6, c7] T)) (u3 u4 u5 u6 u7 : Value) : (((((w.setCell ⟨g, 3, none⟩ u3).setCell ⟨g, 4, none⟩ u4).setCell ⟨g, 5, none⟩ u5).setCell ⟨g, 6, none⟩ u6).setCell ⟨g, 7, none⟩ u7).heap[g]? = some (.cells #[c0, c1, c2, u3, u4, u5, u6, u7] T) :=
 set_block5 (j := 7) (set_block5 (j := 6) (set_block5 (j := 5) (set_block5 (j := 4) (set_block5 (j := 3) h u3) u4) u5) u6) u7

theorem frozen8 {w : World} {g : Nat} {T : TypeId} {cs : Array Value} (h : w.heap[g]? = some (.cells cs T)) (j : Nat) : w.frozen? ⟨g, j, none⟩ = false := by
 simp [World.frozen?, h]

theorem own_box8 {w : World} {base k : Nat} {e : TypeId} {v : Value} {n : Nat} {xs : List Value} (h : w.ownsRow base e k v n xs) : ∀ b, v.ownBlock = some b → b < w.heap.size := fun b hb => (h.lt b hb).2

theorem and_mask (x m : Int) (h : 0 ≤ m ∧ m ≤ 9223372036854775807) : 0 ≤ bits .and .i64 x m ∧ bits .and .i64 x m ≤ m := by
 have e2 : (BitVec.ofInt 64 m).toNat = m.toNat := by
  rw [BitVec.toNat_ofInt]
  have : ((2 ^ 64 : Nat) : Int) = 18446744073709551616 := by decide
  rw [this]; omega
 have e3 : ((BitVec.ofInt 64 x) &&& (BitVec.ofInt 64 m)).toNat ≤ m.toNat := by
  rw [BitVec.toNat_and, e2]; exact Nat.and_le_right
 have e : bits .and .i64 x m = IntKind.i64.wrap (((BitVec.ofInt 64 x) &&& (BitVec.ofInt 64 m)).toNat : Int) := rfl
 rw [e, IntKind.wrap_i64]
 omega

theorem grown_trans {a b c : World} {C : Nat} (h : a.grownBy b (some C)) (k : b.grownBy c (some C)) : a.grownBy c (some C) where
 os := k.os.trans h.os
 tape := k.tape.trans h.tape
 output := k.output.trans h.output
 size := Nat.le_trans h.size k.size
 block := fun j hj hne => (k.block j (Nat.lt_of_lt_of_le hj h.size) hne).trans (h.block j hj hne)

theorem grown_of_below {a b : World} (C : Nat) (h : Below a.heap.size a b) : a.grownBy b (some C) where
 os := h.os
 tape := h.tape
 output := h.output
 size := h.size
 block := fun j hj _ => h.block j hj

theorem below_of_grown {a b : World} {C B : Nat} (h : a.grownBy b (some C)) (hB : B ≤ C) (hs : C ≤ a.heap.size) : Below B a b where
 os := h.os
 tape := h.tape
 output := h.output
 size := h.size
 block := fun j hj => h.block j (by omega) (by intro e; cases e; omega)

theorem grown_drewN {a b : World} {C : Nat} (h : a.grownBy b (some C)) (n : Nat) : a.grownBy (b.drewN n) (some C) := ⟨h.os, h.tape, h.output, h.size, h.block⟩

structure Cur (w : World) (C : Nat) (a0 : Option Addr) (l0 c0 : Nat) (z0 : List Int) : Prop where
 row : ∀ w', Below C w w' → Row w' a0 l0 c0 z0
 small : l0 ≤ 1048576
 here : ∃ i h : Int, 0 ≤ i ∧ i ≤ l0 ∧ w.heap[C]? = some (.cells #[.slice a0 l0 c0, .int .i64 i, .int .i64 h] 97)

theorem Cur.lt {w : World} {C : Nat} {a0 : Option Addr} {l0 c0 : Nat} {z0 : List Int} (h : Cur w C a0 l0 c0 z0) : C < w.heap.size := by
 obtain ⟨i, x, _, _, e⟩ := h.here
 by_cases hlt : C < w.heap.size
 ·exact hlt
 ·rw [Array.getElem?_eq_none (by omega)] at e; cases e

theorem Cur.below {w w' : World} {C : Nat} {a0 : Option Addr} {l0 c0 : Nat} {z0 : List Int} (h : Cur w C a0 l0 c0 z0) (hb : Below w.heap.size w w') : Cur w' C a0 l0 c0 z0 where
 row := fun w2 h2 => h.row w2 ((hb.mono (Nat.le_of_lt h.lt)).trans h2)
 small := h.small
 here := by
  obtain ⟨i, x, h1, h2, e⟩ := h.here
  exact ⟨i, x, h1, h2, by rw [hb.block C h.lt]; exact e⟩

theorem cur_new (w : World) (a0 : Option Addr) (l0 c0 : Nat) (z0 : List Int) (x : Int) (h0 : Row w a0 l0 c0 z0) (hs : l0 ≤ 1048576) : Cur (w.alloc (.cells #[.slice a0 l0 c0, .int .i64 0, .int .i64 x] 97)) w.heap.size a0 l0 c0 z0 where
 row := fun w2 h2 => h0.below (((Below.refl _ _).alloc (Nat.le_refl _) _).trans h2)
 small := hs
 here := ⟨0, x, by omega, by omega, by show (w.heap.push _)[w.heap.size]? = _; simp⟩

theorem Cur.drew {w : World} {C : Nat} {a0 : Option Addr} {l0 c0 : Nat} {z0 : List Int} (h : Cur w C a0 l0 c0 z0) (n : Nat) : Cur (w.drewN n) C a0 l0 c0 z0 := h.below (below_drewN (Below.refl _ _) n)

set_option maxRecDepth 100000 in
set_option maxHeartbeats 400000 in
theorem new_any (a0 : Option Addr) (l0 c0 : Nat) (z0 : List Int) (w : World) (h0 : Row w a0 l0 c0 z0) (hs : l0 ≤ 1048576) :
  Calls Tryz.prog 29 #[.slice a0 l0 c0] w fun e w' => e = .returned (.pointer (some ⟨w.heap.size, 0, none⟩)) ∧ Cur w' w.heap.size a0 l0 c0 z0 ∧ Below w.heap.size w w' := by
 have hby := h0.byte
 have hcell := h0.cell
 go_enter Tryz.func29, Tryz.ntmps29
 go_wp2
 go_loop [3, 4] (fun m i => ∃ (k : Nat) (x : Int), k ≤ l0 ∧ k ≤ 4000 ∧ i = .int .i64 k ∧ m = .int .i64 x ∧ 0 ≤ x ∧ x ≤ 1073741823) (fun _ i => l0 - (intOf i).toNat)
 case atStart => exact ⟨0, _, Nat.zero_le _, by omega, rfl, rfl, by omega, by omega⟩
 case round =>
  obtain ⟨k, x, hk, hk4, rfl, rfl, hx0, hx1⟩ := hrel
  by_cases hlt : k < l0
  ·by_cases hl4 : k < 4000
   ·rcases hcell with h | ⟨b, off, rfl, hc⟩
    ·omega
    have cx := hc k hlt
    have bx := hby.at k
    clear hc
    generalize z0.getD k 0 = y at *
    go_wp2
    go_round
    case rel => exact ⟨k + 1, _, by omega, by omega, by go_num, rfl, (and_mask (x * 137 + y + 11) 1073741823 (by omega)).1, (and_mask (x * 137 + y + 11) 1073741823 (by omega)).2⟩
    case measure => simp [intOf]; omega
   ·have i1 : ¬ (k : Int) < 4000 := by omega
    go_wp2
    go_ret
    exact ⟨rfl, cur_new w a0 l0 c0 z0 x h0 hs, (Below.refl _ _).alloc (Nat.le_refl _) _⟩
  ·go_wp2
   go_ret
   exact ⟨rfl, cur_new w a0 l0 c0 z0 x h0 hs, (Below.refl _ _).alloc (Nat.le_refl _) _⟩

structure Went (w w' : World) (C : Nat) (a0 : Option Addr) (l0 c0 : Nat) (z0 : List Int) : Prop where
 cur : Cur w' C a0 l0 c0 z0
 grown : w.grownBy w' (some C)

theorem Cur.cells {w : World} {C : Nat} {c0 c1 c2 : Value} (h : w.heap[C]? = some (.cells #[c0, c1, c2] 97)) :
  w.cell? ⟨C, 0, none⟩ = some c0 ∧ w.cell? ⟨C, 1, none⟩ = some c1 ∧ w.cell? ⟨C, 2, none⟩ = some c2 ∧ (∀ j, w.frozen? ⟨C, j, none⟩ = false) := by
 refine ⟨?_, ?_, ?_, fun j => ?_⟩ <;> simp [World.cell?, World.frozen?, h]

theorem cur_set2 {w : World} {C : Nat} {a0 : Option Addr} {l0 c0 : Nat} {z0 : List Int} {i h : Int} (hc : Cur w C a0 l0 c0 z0) (hh : w.heap[C]? = some (.cells #[.slice a0 l0 c0, .int .i64 i, .int .i64 h] 97)) (H : Int) (hi : 0 ≤ i ∧ i ≤ l0) :
  (w.setCell ⟨C, 2, none⟩ (.int .i64 H)).heap[C]? = some (.cells #[.slice a0 l0 c0, .int .i64 i, .int .i64 H] 97) ∧ w.grownBy (w.setCell ⟨C, 2, none⟩ (.int .i64 H)) (some C) ∧ Cur (w.setCell ⟨C, 2, none⟩ (.int .i64 H)) C a0 l0 c0 z0 := by
 have e : (w.setCell ⟨C, 2, none⟩ (.int .i64 H)).heap[C]? = some (.cells #[.slice a0 l0 c0, .int .i64 i, .int .i64 H] 97) := by
  have := hc.lt
  simp [World.setCell, Array.getElem?_modify, hh]
 have g : w.grownBy (w.setCell ⟨C, 2, none⟩ (.int .i64 H)) (some C) := grown_setCell (World.grownBy.refl _ _) 2 _
 exact ⟨e, g, ⟨fun w2 h2 => hc.row w2 ((below_of_grown g (Nat.le_refl _) (Nat.le_of_lt hc.lt)).trans h2), hc.small, i, H, hi.1, hi.2, e⟩⟩

theorem cur_set1 {w : World} {C : Nat} {a0 : Option Addr} {l0 c0 : Nat} {z0 : List Int} {i h : Int} (hc : Cur w C a0 l0 c0 z0) (hh : w.heap[C]? = some (.cells #[.slice a0 l0 c0, .int .i64 i, .int .i64 h] 97)) (j : Int) (hj : 0 ≤ j ∧ j ≤ l0) :
  Went w (w.setCell ⟨C, 1, none⟩ (.int .i64 j)) C a0 l0 c0 z0 := by
 have e : (w.setCell ⟨C, 1, none⟩ (.int .i64 j)).heap[C]? = some (.cells #[.slice a0 l0 c0, .int .i64 j, .int .i64 h] 97) := by
  have := hc.lt
  simp [World.setCell, Array.getElem?_modify, hh]
 have g : w.grownBy (w.setCell ⟨C, 1, none⟩ (.int .i64 j)) (some C) := grown_setCell (World.grownBy.refl _ _) 1 _
 exact ⟨⟨fun w2 h2 => hc.row w2 ((below_of_grown g (Nat.le_refl _) (Nat.le_of_lt hc.lt)).trans h2), hc.small, j, h, hj.1, hj.2, e⟩, g⟩

set_option maxRecDepth 100000 in
set_option maxHeartbeats 400000 in
theorem byte_any (C : Nat) (a0 : Option Addr) (l0 c0 : Nat) (z0 : List Int) (w : World) (hc : Cur w C a0 l0 c0 z0) :
  Calls Tryz.prog 78 #[.pointer (some ⟨C, 0, none⟩)] w fun e w' => ∃ x : Int, e = .returned (.int .i64 x) ∧ 0 ≤ x ∧ x ≤ 255 ∧ Went w w' C a0 l0 c0 z0 := by
 obtain ⟨i, h, hi0, hi1, hh⟩ := hc.here
 obtain ⟨k0, k1, k2, kf⟩ := Cur.cells hh
 have kf2 := kf 2
 clear kf
 obtain ⟨k, rfl⟩ : ∃ k : Nat, i = k := ⟨i.toNat, by omega⟩
 go_enter Tryz.func78, Tryz.ntmps78
 go_wp2
 generalize wrap64 (wrap64 (h * 6364136223846793005) + 1442695040888963407) = H
 have st := cur_set2 hc hh H ⟨hi0, hi1⟩
 generalize w.setCell ⟨C, 2, none⟩ (.int .i64 H) = W at *
 obtain ⟨hW, hg, hcw⟩ := st
 clear k0 k1 k2 kf2 hh hc
 obtain ⟨k0, k1, k2, kf⟩ := Cur.cells hW
 have kf1 := kf 1
 clear kf
 have hrow := hcw.row W (Below.refl _ _)
 have hl0 := hcw.small
 have hby := hrow.byte
 have hcell := hrow.cell
 go_quiet (fail)
 go_wp2
 have hx := and_mask (bits BinOp.xor IntKind.i64 (H / 8589934592) (H / 140737488355328)) 255 (by omega)
 generalize bits BinOp.and IntKind.i64 (bits BinOp.xor IntKind.i64 (H / 8589934592) (H / 140737488355328)) 255 = x at *
 by_cases hlt : k < l0
 ·rcases hcell with h | ⟨b, off, rfl, hc⟩
  ·omega
  have cx := hc k hlt
  have bx := hby.at k
  clear hc
  generalize z0.getD k 0 = y at *
  have g1 : (k : Int) < l0 := by omega
  go_quiet (fail)
  go_wp2
  go_quiet (fail)
  go_wp2
  go_ret
  refine ⟨_, rfl, (and_mask _ 255 (by omega)).1, (and_mask _ 255 (by omega)).2, ?_⟩
  have t := fun n => cur_set1 (hcw.drew n) (by exact hW) ((k : Int) + 1) (by omega)
  exact ⟨(t _).cur, grown_trans (grown_drewN hg _) (t _).grown⟩
 ·have g1 : ¬ (k : Int) < l0 := by omega
  go_quiet (fail)
  go_wp2
  go_ret
  exact ⟨x, rfl, hx.1, hx.2, hcw.drew _, grown_drewN hg _⟩

theorem mod_bd (x n : Int) (hx : 0 ≤ x) (hn : 0 < n) : 0 ≤ x % n ∧ x % n < n ∧ x % n ≤ x := by
 refine ⟨Int.emod_nonneg _ (by omega), Int.emod_lt_of_pos _ hn, ?_⟩
 have h1 := Int.emod_add_mul_ediv x n
 have h2 : 0 ≤ x / n := Int.ediv_nonneg hx (by omega)
 have h3 : 0 ≤ n * (x / n) := Int.mul_nonneg (by omega) h2
 omega

theorem Went.trans {a b c : World} {C : Nat} {a0 : Option Addr} {l0 c0 : Nat} {z0 : List Int} (h : Went a b C a0 l0 c0 z0) (k : Went b c C a0 l0 c0 z0) : Went a c C a0 l0 c0 z0 := ⟨k.cur, grown_trans h.grown k.grown⟩

theorem Went.made {a b c : World} {C : Nat} {a0 : Option Addr} {l0 c0 : Nat} {z0 : List Int} (h : Went a b C a0 l0 c0 z0) (k : Below b.heap.size b c) : Went a c C a0 l0 c0 z0 := ⟨h.cur.below k, grown_trans h.grown (grown_of_below C k)⟩

theorem Went.start {a b : World} {C : Nat} {a0 : Option Addr} {l0 c0 : Nat} {z0 : List Int} (h : Cur a C a0 l0 c0 z0) (k : Below a.heap.size a b) : Went a b C a0 l0 c0 z0 := ⟨h.below k, grown_of_below C k⟩

set_option maxRecDepth 100000 in
set_option maxHeartbeats 400000 in
theorem below_any (C : Nat) (a0 : Option Addr) (l0 c0 : Nat) (z0 : List Int) (n : Int) (w : World) (hc : Cur w C a0 l0 c0 z0) (hn : n ≤ 1099511627776) :
  Calls Tryz.prog 31 #[.pointer (some ⟨C, 0, none⟩), .int .i64 n] w fun e w' => ∃ x : Int, e = .returned (.int .i64 x) ∧ 0 ≤ x ∧ (0 < n → x < n) ∧ x ≤ 16777215 ∧ Went w w' C a0 l0 c0 z0 := by
 by_cases k0 : n ≤ 0
 ·go_enter Tryz.func31, Tryz.ntmps31
  go_wp2
  go_ret
  exact ⟨0, rfl, by omega, by omega, by omega, Went.start hc (Below.refl _ _)⟩
 by_cases k1 : n ≤ 256
 ·go_enter Tryz.func31, Tryz.ntmps31
  go_wp2_with fail
  refine (byte_any C a0 l0 c0 z0 _ hc).mono ?_
  rintro e w1 ⟨x, rfl, hx0, hx1, went⟩
  have hne : (n == 0) = false := by simp; omega
  go_wp2
  go_ret
  exact ⟨_, rfl, (mod_bd x n hx0 (by omega)).1, fun _ => (mod_bd x n hx0 (by omega)).2.1, by have := (mod_bd x n hx0 (by omega)).2.2; omega, went⟩
 ·go_enter Tryz.func31, Tryz.ntmps31
  go_wp2_with fail
  refine (byte_any C a0 l0 c0 z0 _ hc).mono ?_
  rintro e w1 ⟨x, rfl, hx0, hx1, went1⟩
  go_wp2_with fail
  refine (byte_any C a0 l0 c0 z0 _ went1.cur).mono ?_
  rintro e w2 ⟨y, rfl, hy0, hy1, went2⟩
  go_wp2_with fail
  refine (byte_any C a0 l0 c0 z0 _ went2.cur).mono ?_
  rintro e w3 ⟨z, rfl, hz0, hz1, went3⟩
  have hne : (n == 0) = false := by simp; omega
  go_wp2
  go_ret
  have hm := mod_bd (x * 65536 + y * 256 + z) n (by omega) (by omega)
  exact ⟨_, rfl, hm.1, fun _ => hm.2.1, by omega, (went1.trans went2).trans went3⟩

set_option maxRecDepth 100000 in
set_option maxHeartbeats 400000 in
theorem once_any (C : Nat) (a0 : Option Addr) (l0 c0 : Nat) (z0 : List Int) (n : Int) (w : World) (hc : Cur w C a0 l0 c0 z0) (hn : n ≤ 1099511627776) :
  Calls Tryz.prog 56 #[.pointer (some ⟨C, 0, none⟩), .int .i64 n] w fun e w' => ∃ x : Bool, e = .returned (.bool x) ∧ Went w w' C a0 l0 c0 z0 := by
 go_enter Tryz.func56, Tryz.ntmps56
 go_wp2_with fail
 refine (below_any C a0 l0 c0 z0 n _ hc hn).mono ?_
 rintro e w1 ⟨x, rfl, hx0, hx1, hx2, went⟩
 go_wp2
 go_ret
 exact ⟨_, rfl, went⟩

theorem ints_lit (w : World) (xs : List Int) (j : Nat) (hj : j < xs.length) : (w.alloc (.cells (xs.map (Value.int .i64)).toArray 3)).cell? ⟨w.heap.size, j, none⟩ = some (.int .i64 (xs.getD j 0)) := by
 have : (w.alloc (.cells (xs.map (Value.int .i64)).toArray 3)).cell? ⟨w.heap.size, j, none⟩ = (xs.map (Value.int .i64)).toArray[j]? := by simp
 rw [this]
 simp [hj]

set_option maxRecDepth 100000 in
set_option maxHeartbeats 400000 in
theorem int_any (C : Nat) (a0 : Option Addr) (l0 c0 : Nat) (z0 : List Int) (B n : Nat) (xs : List Int) (w : World) (hc : Cur w C a0 l0 c0 z0) (hB : C < B) (hcell : ∀ j, j < n → w.cell? ⟨B, j, none⟩ = some (.int .i64 (xs.getD j 0))) (hxs : xs.length = n) (hn0 : 0 < n) (hn : n ≤ 1000) :
  Calls Tryz.prog 33 #[.pointer (some ⟨C, 0, none⟩), .slice (some ⟨B, 0, none⟩) n n] w fun e w' => ∃ x : Int, x ∈ xs ∧ e = .returned (.int .i64 x) ∧ Went w w' C a0 l0 c0 z0 := by
 have HC := hide hcell
 clear hcell
 go_enter Tryz.func33, Tryz.ntmps33
 go_wp2_with fail
 refine (below_any C a0 l0 c0 z0 n _ hc (by omega)).mono ?_
 rintro e w1 ⟨x, rfl, hx0, hx1, hx2, went⟩
 have hx1 := hx1 (by omega)
 obtain ⟨j, rfl⟩ : ∃ j : Nat, x = j := ⟨x.toNat, by omega⟩
 have cx : w1.cell? ⟨B, j, none⟩ = some (.int .i64 (xs.getD j 0)) := went.grown.cell (HC.out j (by omega)) (by intro e; simp at e; omega)
 have hm : xs.getD j 0 ∈ xs := by
  rw [List.getD_eq_getElem?_getD, List.getElem?_eq_getElem (by omega)]; exact List.getElem_mem _
 generalize xs.getD j 0 = y at *
 go_wp2
 go_ret
 exact ⟨y, hm, rfl, went⟩

theorem Cur.belowAt {w w' : World} {C B : Nat} {a0 : Option Addr} {l0 c0 : Nat} {z0 : List Int} (h : Cur w C a0 l0 c0 z0) (hb : Below B w w') (hC : C < B) : Cur w' C a0 l0 c0 z0 where
 row := fun w2 h2 => h.row w2 ((hb.mono (Nat.le_of_lt hC)).trans h2)
 small := h.small
 here := by
  obtain ⟨i, x, h1, h2, e⟩ := h.here
  exact ⟨i, x, h1, h2, by rw [hb.block C hC]; exact e⟩

theorem Went.madeAt {a b c : World} {C B : Nat} {a0 : Option Addr} {l0 c0 : Nat} {z0 : List Int} (h : Went a b C a0 l0 c0 z0) (k : Below B b c) (hC : C < B) (hB : a.heap.size ≤ B) : Went a c C a0 l0 c0 z0 where
 cur := h.cur.belowAt k hC
 grown := ⟨k.os.trans h.grown.os, k.tape.trans h.grown.tape, k.output.trans h.grown.output, Nat.le_trans h.grown.size k.size, fun j hj hne => (k.block j (by omega)).trans (h.grown.block j hj hne)⟩

theorem Went.own {a b : World} {C : Nat} {a0 : Option Addr} {l0 c0 : Nat} {z0 : List Int} (h : Went a b C a0 l0 c0 z0) {base : Nat} {v : Value} {n : Nat} {xs : List Value} (ho : a.ownsRow base 5 1 v n xs) (hC : C < base) : b.ownsRow base 5 1 v n xs :=
 own_above ho h.grown (by intro k hk; cases hk; exact hC)

theorem pick_any (C : Nat) (a0 : Option Addr) (l0 c0 : Nat) (z0 : List Int) (xs : List Int) (B n : Nat) (w : World) (hc : Cur w C a0 l0 c0 z0) (hB : B = w.heap.size) (hxs : xs.length = n) (hn0 : 0 < n) (hn : n ≤ 1000) :
  Calls Tryz.prog 33 #[.pointer (some ⟨C, 0, none⟩), .slice (some ⟨B, 0, none⟩) n n] (w.alloc (.cells (xs.map (Value.int .i64)).toArray 3)) fun e w' => ∃ x : Int, x ∈ xs ∧ e = .returned (.int .i64 x) ∧ Went w w' C a0 l0 c0 z0 := by
 subst hB hxs
 have hb : Below w.heap.size w (w.alloc (.cells (xs.map (Value.int .i64)).toArray 3)) := (Below.refl _ _).alloc (Nat.le_refl _) _
 refine (int_any C a0 l0 c0 z0 w.heap.size xs.length xs _ (hc.below hb) hc.lt (fun j hj => ints_lit w xs j hj) rfl hn0 hn).mono ?_
 rintro e w' ⟨x, hx, rfl, went⟩
 exact ⟨x, hx, rfl, (Went.start hc hb).trans went⟩

end Go.Proofs.YtfknffdlmcckkaaGreat
