/-
  Worlds: what stays while blocks are made and elder ones are written; the cells of a box.
  Bytes as a text, and a text as bytes.
  Parts among bytes: what is put is found, what is found lies there; a part of a kind, a number.
-/
import Derived.Test.YtjkmagpppfnlpaaHelp
import Derived.Test.YtjkmagpppfnlpaaBase
import Derived.Test.YtjkmagpppfnlpaaTlvMath
import Derived.Test.YtjkmagpppfnlpaaIntMath
import Derived.Test.YtjkmagpppfnlpaaGetMade
import Derived.Test.YtjkmagpppfnlpaaGetNum
import Derived.Deep.RegionHeld
import Derived.Laws.IdiomStrings
namespace Go.Proofs.Ytjkmagpppfnlpaa
open Go.RowKit

theorem below_one (w : World) (o : Obj) : Below w.heap.size w (w.alloc o) := (Below.refl _ _).alloc (Nat.le_refl _) o

theorem below_two (w : World) (o p : Obj) : Below w.heap.size w ((w.alloc o).alloc p) := (below_one w o).alloc (by simp) p

theorem below_three (w : World) (o p q : Obj) : Below w.heap.size w (((w.alloc o).alloc p).alloc q) := (below_two w o p).alloc (by simp; omega) q

theorem block_last (w : World) (o : Obj) : (w.alloc o).heap[w.heap.size]? = some o := by show (w.heap.push o)[w.heap.size]? = _; simp

theorem kept_one {w w1 : World} {o : Obj} (hb : Below (w.alloc o).heap.size (w.alloc o) w1) : w1.heap[w.heap.size]? = some o := by
  rw [hb.block _ (by simp)]; exact block_last w o

theorem kept_two {w w1 : World} {o p : Obj} (hb : Below ((w.alloc o).alloc p).heap.size ((w.alloc o).alloc p) w1) : w1.heap[w.heap.size]? = some o ∧ w1.heap[w.heap.size + 1]? = some p := by
  refine ⟨?_, ?_⟩
  · have := below_one (w.alloc o) p
    exact kept_one (w := w) (o := o) ((this.trans (hb.mono this.size)))
  · have := kept_one (w := w.alloc o) (o := p) hb; simpa using this

theorem kept_three {w w1 : World} {o p q : Obj} (hb : Below (((w.alloc o).alloc p).alloc q).heap.size (((w.alloc o).alloc p).alloc q) w1) : w1.heap[w.heap.size]? = some o ∧ w1.heap[w.heap.size + 1]? = some p ∧ w1.heap[w.heap.size + 1 + 1]? = some q := by
  have t := below_one ((w.alloc o).alloc p) q
  have u := kept_two (w := w) (o := o) (p := p) (t.trans (hb.mono t.size))
  refine ⟨u.1, u.2, ?_⟩
  have := kept_one (w := (w.alloc o).alloc p) (o := q) hb; simpa using this

theorem cells4 {w : World} {C : Nat} {t : TypeId} {c0 c1 c2 c3 : Value} (h : w.heap[C]? = some (.cells #[c0, c1, c2, c3] t)) :
    (w.cell? ⟨C, 0, none⟩ = some c0 ∧ w.cell? ⟨C, 1, none⟩ = some c1 ∧ w.cell? ⟨C, 2, none⟩ = some c2 ∧ w.cell? ⟨C, 3, none⟩ = some c3) ∧
    (w.frozen? ⟨C, 0, none⟩ = false ∧ w.frozen? ⟨C, 1, none⟩ = false ∧ w.frozen? ⟨C, 2, none⟩ = false ∧ w.frozen? ⟨C, 3, none⟩ = false) := by
  refine ⟨⟨?_, ?_, ?_, ?_⟩, ?_, ?_, ?_, ?_⟩ <;> simp [World.cell?, World.frozen?, h]

/-- What the call owns stays while an elder block is written. -/
theorem own_set {w : World} {base : Nat} {e : TypeId} {v : Value} {n : Nat} {xs : List Value} (h : w.ownsRow base e 1 v n xs) {g j : Nat} {u : Value} (hg : g < base) : (w.setCell ⟨g, j, none⟩ u).ownsRow base e 1 v n xs :=
  own_above h (grown_setCell (World.grownBy.refl _ _) j u) (by intro k hk; cases hk; exact hg)

theorem below_set {B : Nat} {a w : World} (h : Below B a w) {g : Nat} (hB : B ≤ g) (j : Nat) (u : Value) : Below B a (w.setCell ⟨g, j, none⟩ u) := h.setCell (p := ⟨g, j, none⟩) hB u

theorem grown_below {a b c : World} {row : Option Nat} (h : Below a.heap.size a b) (k : b.grownBy c row) : a.grownBy c row where
  os := k.os.trans h.os
  tape := k.tape.trans h.tape
  output := k.output.trans h.output
  size := Nat.le_trans h.size k.size
  block := fun j hj hne => (k.block j (Nat.lt_of_lt_of_le hj h.size) hne).trans (h.block j hj)

theorem undrew {B n : Nat} {w w' : World} (h : Below B (w.drewN n) w') : Below B w w' := ⟨h.os, h.tape, h.output, h.size, h.block⟩

theorem kept_block {w w' : World} {i : Nat} {o : Obj} (h : w.heap[i]? = some o) (hb : Below w.heap.size w w') : w'.heap[i]? = some o := by
  by_cases hlt : i < w.heap.size
  · rw [hb.block i hlt]; exact h
  · rw [Array.getElem?_eq_none (by omega)] at h; cases h

theorem cells5 {w : World} {C : Nat} {t : TypeId} {c0 c1 c2 c3 c4 : Value} (h : w.heap[C]? = some (.cells #[c0, c1, c2, c3, c4] t)) :
    (w.cell? ⟨C, 0, none⟩ = some c0 ∧ w.cell? ⟨C, 1, none⟩ = some c1 ∧ w.cell? ⟨C, 2, none⟩ = some c2 ∧ w.cell? ⟨C, 3, none⟩ = some c3 ∧ w.cell? ⟨C, 4, none⟩ = some c4) ∧
    (w.frozen? ⟨C, 0, none⟩ = false ∧ w.frozen? ⟨C, 1, none⟩ = false ∧ w.frozen? ⟨C, 2, none⟩ = false ∧ w.frozen? ⟨C, 3, none⟩ = false ∧ w.frozen? ⟨C, 4, none⟩ = false) := by
  refine ⟨⟨?_, ?_, ?_, ?_, ?_⟩, ?_, ?_, ?_, ?_, ?_⟩ <;> simp [World.cell?, World.frozen?, h]

theorem set_block5 {w : World} {b j : Nat} {cur : Array Value} {t : TypeId} (h : w.heap[b]? = some (.cells cur t)) (u : Value) : (w.setCell ⟨b, j, none⟩ u).heap[b]? = some (.cells (cur.setIfInBounds j u) t) := heap_setCell_same w b j cur t u h

theorem kept_set {w : World} {i b j : Nat} {o : Obj} {u : Value} (h : w.heap[i]? = some o) (hne : i ≠ b) : (w.setCell ⟨b, j, none⟩ u).heap[i]? = some o := by rw [Below.heap_setCell _ _ _ _ hne]; exact h

theorem cells2 {w : World} {C : Nat} {t : TypeId} {c0 c1 : Value} (h : w.heap[C]? = some (.cells #[c0, c1] t)) :
    (w.cell? ⟨C, 0, none⟩ = some c0 ∧ w.cell? ⟨C, 1, none⟩ = some c1) ∧ (w.frozen? ⟨C, 0, none⟩ = false ∧ w.frozen? ⟨C, 1, none⟩ = false) := by
  refine ⟨⟨?_, ?_⟩, ?_, ?_⟩ <;> simp [World.cell?, World.frozen?, h]

theorem set_block2 {w : World} {b : Nat} {c0 c1 : Value} {t : TypeId} (h : w.heap[b]? = some (.cells #[c0, c1] t)) (u : Value) : (w.setCell ⟨b, 1, none⟩ u).heap[b]? = some (.cells #[c0, u] t) := by
  have := heap_setCell_same w b 1 #[c0, c1] t u h
  simpa using this

theorem below_grown_in {w w' : World} {rb : Nat} (hg : w.grownBy w' (some rb)) {B : Nat} (h1 : B ≤ rb) (h2 : B ≤ w.heap.size) : Below B w w' := (Below.refl B w).grown hg h2 (by intro k hk; cases hk; exact h1)

theorem grownTr {a b c : World} {row : Option Nat} (h : a.grownBy b row) (k : b.grownBy c row) : a.grownBy c row :=
  ⟨k.os.trans h.os, k.tape.trans h.tape, k.output.trans h.output, Nat.le_trans h.size k.size, fun i hi hn => (k.block i (Nat.lt_of_lt_of_le hi h.size) hn).trans (h.block i hi hn)⟩

theorem grownOf {a b : World} {row : Option Nat} (h : Below a.heap.size a b) : a.grownBy b row := ⟨h.os, h.tape, h.output, h.size, fun k hk _ => h.block k hk⟩

theorem grown_set {w : World} {rb : Nat} (j : Nat) (u : Value) : w.grownBy (w.setCell ⟨rb, j, none⟩ u) (some rb) := grown_setCell (World.grownBy.refl _ _) j u

theorem cells3 {w : World} {C : Nat} {t : TypeId} {c0 c1 c2 : Value} (h : w.heap[C]? = some (.cells #[c0, c1, c2] t)) :
    (w.cell? ⟨C, 0, none⟩ = some c0 ∧ w.cell? ⟨C, 1, none⟩ = some c1 ∧ w.cell? ⟨C, 2, none⟩ = some c2) ∧ (w.frozen? ⟨C, 0, none⟩ = false ∧ w.frozen? ⟨C, 1, none⟩ = false ∧ w.frozen? ⟨C, 2, none⟩ = false) := by
  refine ⟨⟨?_, ?_, ?_⟩, ?_, ?_, ?_⟩ <;> simp [World.cell?, World.frozen?, h]

theorem set_block3a {w : World} {b : Nat} {c0 c1 c2 : Value} {t : TypeId} (h : w.heap[b]? = some (.cells #[c0, c1, c2] t)) (u : Value) : (w.setCell ⟨b, 1, none⟩ u).heap[b]? = some (.cells #[c0, u, c2] t) := by
  have := heap_setCell_same w b 1 #[c0, c1, c2] t u h
  simpa using this

theorem set_block3b {w : World} {b : Nat} {c0 c1 c2 : Value} {t : TypeId} (h : w.heap[b]? = some (.cells #[c0, c1, c2] t)) (u : Value) : (w.setCell ⟨b, 2, none⟩ u).heap[b]? = some (.cells #[c0, c1, u] t) := by
  have := heap_setCell_same w b 2 #[c0, c1, c2] t u h
  simpa using this

theorem empty_row' (w : World) (b : Nat) : Row w (some ⟨b, 0, none⟩) 0 0 [] := ⟨rfl, Nat.le_refl _, Nat.zero_le _, (by intro h; cases h), (fun x hx => by cases hx), .inl rfl⟩

theorem kept_drew {w w1 : World} {i : Nat} {o : Obj} {B : Nat} (h : w.heap[i]? = some o) (hb : Below B w.drew w1) (hB : w.heap.size ≤ B := by simp) : w1.heap[i]? = some o := by
  have hi := (Array.getElem?_eq_some_iff.1 h).1
  rw [hb.block i (by omega)]; exact h

theorem kept_grown {w w' : World} {row : Option Nat} {i : Nat} {o : Obj} (h : w.heap[i]? = some o) (hg : w.grownBy w' row) (hne : ∀ k, row = some k → k ≠ i) : w'.heap[i]? = some o := by
  by_cases hlt : i < w.heap.size
  · rw [hg.block i hlt (fun e => hne i e.symm rfl)]; exact h
  · rw [Array.getElem?_eq_none (by omega)] at h; cases h

theorem below_set4 {B : Nat} {a w : World} (h : Below B a w) {g : Nat} (hB : B ≤ g) (c0 c1 c2 c3 : Value) : Below B a ((((w.setCell ⟨g, 0, none⟩ c0).setCell ⟨g, 1, none⟩ c1).setCell ⟨g, 2, none⟩ c2).setCell ⟨g, 3, none⟩ c3) :=
  below_set (below_set (below_set (below_set h hB 0 c0) hB 1 c1) hB 2 c2) hB 3 c3

theorem own_set4 {w : World} {base : Nat} {e : TypeId} {v : Value} {n : Nat} {xs : List Value} (h : w.ownsRow base e 1 v n xs) {g : Nat} (hg : g < base) (c0 c1 c2 c3 : Value) : ((((w.setCell ⟨g, 0, none⟩ c0).setCell ⟨g, 1, none⟩ c1).setCell ⟨g, 2, none⟩ c2).setCell ⟨g, 3, none⟩ c3).ownsRow base e 1 v n xs :=
  own_set (own_set (own_set (own_set h hg) hg) hg) hg

theorem below_set5 {B : Nat} {a w : World} (h : Below B a w) {g : Nat} (hB : B ≤ g) (c0 c1 c2 c3 c4 : Value) : Below B a (((((w.setCell ⟨g, 0, none⟩ c0).setCell ⟨g, 1, none⟩ c1).setCell ⟨g, 2, none⟩ c2).setCell ⟨g, 3, none⟩ c3).setCell ⟨g, 4, none⟩ c4) :=
  below_set (below_set (below_set (below_set (below_set h hB 0 c0) hB 1 c1) hB 2 c2) hB 3 c3) hB 4 c4

theorem Row.set {w : World} {b off len cap : Nat} {zs : List Int} (h : Row w (some ⟨b, off, none⟩) len cap zs) {P : Nat} (hP : ¬ b = P) (j : Nat) (u : Value) : Row (w.setCell ⟨P, j, none⟩ u) (some ⟨b, off, none⟩) len cap zs where
  size := h.size
  le := h.le
  top := h.top
  nil := h.nil
  byte := h.byte
  cell := by
    rcases h.cell with h0 | ⟨b', off', e, hc⟩
    · exact .inl h0
    · cases e
      refine .inr ⟨b, off, rfl, fun i hi => ?_⟩
      rw [World.cell?_setCell_far w ⟨P, j, none⟩ ⟨b, off + i, none⟩ u (fun e => hP e.symm)]
      exact hc i hi

theorem gr_trans {w W W' : World} (a : Below w.heap.size w W) (b : Below W.heap.size W W') : Below w.heap.size w W' := a.trans (b.mono a.size)

theorem gr_alloc {w W : World} (a : Below w.heap.size w W) (o : Obj) : Below w.heap.size w (W.alloc o) := gr_trans a (below_one W o)

theorem gr_drew {w W : World} (a : Below w.heap.size w W) : Below w.heap.size w W.drew := a.drew

theorem gr_drewN {w W : World} (a : Below w.heap.size w W) (n : Nat) : Below w.heap.size w (W.drewN n) := below_drewN a n

theorem belowGr {a b c : World} {rb : Nat} (h : Below a.heap.size a b) (hg : b.grownBy c (some rb)) (hr : a.heap.size ≤ rb) : Below a.heap.size a c := h.grown hg h.size (by intro k hk; cases hk; exact hr)

/-- The bytes of a text. -/
def strB (S : ByteArray) : List Int := S.data.toList.map fun b => (b.toNat : Int)

/-- Bytes as a text. -/
def byB (zs : List Int) : ByteArray := ⟨(zs.map fun z => UInt8.ofNat z.toNat).toArray⟩

theorem byB_size (zs : List Int) : (byB zs).size = zs.length := by
  show (zs.map fun z => UInt8.ofNat z.toNat).toArray.size = _
  rw [List.size_toArray, List.length_map]

theorem byte_back {z : Int} (h : 0 ≤ z ∧ z ≤ 255) : ((UInt8.ofNat z.toNat).toNat : Int) = z := by
  rw [UInt8.toNat_ofNat']
  omega

theorem strB_byB {zs : List Int} (h : Byt zs) : strB (byB zs) = zs := by
  show ((zs.map fun z => UInt8.ofNat z.toNat).toArray.toList).map (fun b => (b.toNat : Int)) = zs
  rw [List.toList_toArray, List.map_map]
  conv => rhs; rw [← List.map_id zs]
  exact List.map_congr_left (fun z hz => byte_back (h z hz))

theorem conv_row (dst : TypeId) (w : World) (ao : Option Addr) (l c : Nat) (zs : List Int) (h : Row w ao l c zs) (hd : Try.prog.underlying dst = some .string) : (convert 26 dst (.slice ao l c)).run Try.prog w = .ok (.string (byB zs)) w := by
  have hl : (zs.map fun z => UInt8.ofNat z.toNat).length = l := by rw [List.length_map]; exact h.size
  rcases ao with _ | a
  · obtain ⟨rfl, rfl⟩ := h.none_zero rfl
    have hz : zs = [] := List.eq_nil_of_length_eq_zero h.size
    subst hz
    rw [run_convert_bytes_string w 26 dst 5 none 0 0 Try.underlying26 Try.underlying5 hd]
    rfl
  · have := run_convert_bytes_back (P := Try.prog) w 26 dst 5 a c (zs.map fun z => UInt8.ofNat z.toNat) Try.underlying26 Try.underlying5 hd (by
      intro j hj
      have hj' : j < zs.length := by simpa using hj
      rw [h.news a rfl j _ (cB_get zs j hj')]
      have hb := getD_byte h.byte j
      have e : (zs.map fun z => UInt8.ofNat z.toNat)[j] = UInt8.ofNat (zs.getD j 0).toNat := by simp [List.getD_eq_getElem?_getD, hj']
      rw [e, byte_back hb])
    rw [hl] at this
    exact this

theorem byB_strB (S : ByteArray) : byB (strB S) = S := by
  have h : (strB S).map (fun z => UInt8.ofNat z.toNat) = S.data.toList := by
    unfold strB
    rw [List.map_map]
    conv => rhs; rw [← List.map_id S.data.toList]
    exact List.map_congr_left (fun b _ => by
      show UInt8.ofNat ((b.toNat : Int)).toNat = b
      rw [Int.toNat_natCast]
      exact UInt8.ofNat_toNat)
  unfold byB
  rw [h]

/-- A part's bytes. -/
def tlvB (tag : Int) (body : List Int) : List Int := [tag] ++ lenB body.length ++ body

def TlvOk (tag : Int) (body : List Int) : Prop := ¬ (tag < 0 ∨ 255 < tag ∨ 250 < body.length)

theorem put_part {tag : Int} {body : List Int} (h : TlvOk tag body) (b : List Int) : putTlv b tag body = b ++ tlvB tag body := putTlv_ok b tag body h

/-- A part with whatever behind it. -/
theorem tlv_mid (b : List Int) (tag : Int) (body r : List Int) (ht : TlvOk tag body) :
    getTlv (b ++ (tlvB tag body ++ r)) b.length = (tag, body, ((b.length + (tlvB tag body).length : Nat) : Int), true) := by
  unfold TlvOk at ht
  unfold tlvB
  by_cases hn : body.length < 128
  · have el : lenB body.length = [(body.length : Int)] := by simp [lenB, hn]
    rw [el]
    have e0 : (b ++ ([tag] ++ [(body.length : Int)] ++ body ++ r)).getD b.length 0 = tag := by simp
    have e1 : (b ++ ([tag] ++ [(body.length : Int)] ++ body ++ r)).getD (b.length + 1) 0 = body.length := by simp
    have hl : (b ++ ([tag] ++ [(body.length : Int)] ++ body ++ r)).length = b.length + (body.length + 2) + r.length := by simp; omega
    have e2 : ((b ++ ([tag] ++ [(body.length : Int)] ++ body ++ r)).drop (b.length + 2)).take body.length = body := by
      have : (b ++ ([tag] ++ [(body.length : Int)] ++ body ++ r)) = (b ++ [tag, (body.length : Int)]) ++ (body ++ r) := by simp
      rw [this, List.drop_left' (by simp)]; simp
    generalize hq : b ++ ([tag] ++ [(body.length : Int)] ++ body ++ r) = q at *
    rw [getTlv_yes q b.length body.length (b.length + 2) (by omega) (by rw [lenAt_short q (b.length + 1) body.length (by omega) e1 (by omega)]; rfl) (by omega), e0, e2]
    simp; omega
  · have el : lenB body.length = [129, (body.length : Int)] := by simp [lenB, hn]
    rw [el]
    have e0 : (b ++ ([tag] ++ [129, (body.length : Int)] ++ body ++ r)).getD b.length 0 = tag := by simp
    have e1 : (b ++ ([tag] ++ [129, (body.length : Int)] ++ body ++ r)).getD (b.length + 1) 0 = 129 := by simp
    have e3 : (b ++ ([tag] ++ [129, (body.length : Int)] ++ body ++ r)).getD (b.length + 2) 0 = body.length := by simp
    have hl : (b ++ ([tag] ++ [129, (body.length : Int)] ++ body ++ r)).length = b.length + (body.length + 3) + r.length := by simp; omega
    have e2 : ((b ++ ([tag] ++ [129, (body.length : Int)] ++ body ++ r)).drop (b.length + 3)).take body.length = body := by
      have : (b ++ ([tag] ++ [129, (body.length : Int)] ++ body ++ r)) = (b ++ [tag, 129, (body.length : Int)]) ++ (body ++ r) := by simp
      rw [this, List.drop_left' (by simp)]; simp
    generalize hq : b ++ ([tag] ++ [129, (body.length : Int)] ++ body ++ r) = q at *
    rw [getTlv_yes q b.length body.length (b.length + 3) (by omega) (by rw [lenAt_long q (b.length + 1) body.length (by omega) e1 e3, decide_eq_true (by omega), decide_eq_true (by omega)]; rfl) (by omega), e0, e2]
    simp; omega

theorem take_drop_split (z : List Int) (p q : Nat) (h : p ≤ q) : z.drop p = (z.drop p).take (q - p) ++ z.drop q := by
  have : z.drop q = (z.drop p).drop (q - p) := by rw [List.drop_drop]; congr 1; omega
  rw [this, List.take_append_drop]

/-- What is read at a place lies there. -/
theorem tlv_lies {z : List Int} (hz : Byt z) {t k next : Int} {x : List Int} (h : getTlv z t = (k, x, next, true)) :
    ∃ p q : Nat, t = p ∧ next = q ∧ p < q ∧ q ≤ z.length ∧ TlvOk k x ∧ z.drop p = tlvB k x ++ z.drop q := by
  obtain ⟨p, q, rfl, rfl, h1, h2, h3⟩ := tlv_read z hz t k next x h
  have hp : p < z.length := by
    by_cases hp : p < z.length
    · exact hp
    · unfold getTlv at h; rw [if_pos (.inr (by omega))] at h; simp at h
  have hT : TlvOk k x := by
    intro hbad
    have hnil : putTlv [] k x = [] := by unfold putTlv; rw [if_pos hbad]
    rw [hnil] at h3
    have hl : ((z.drop p).take (q - p)).length = 0 := by rw [← h3]; rfl
    simp at hl
    have hpq : p = q := by omega
    subst hpq
    unfold getTlv at h
    rw [if_neg (by omega)] at h
    simp only [Int.toNat_natCast] at h
    split at h
    · rename_i hy
      obtain ⟨n, f, hl', hn, hf, hf1, hf2⟩ := lenAt_ok hz hy.1
      rw [hl'] at h
      simp only [Prod.mk.injEq] at h
      omega
    · cases h
  have h4 : tlvB k x = (z.drop p).take (q - p) := by rw [← h3, put_part hT]; rfl
  have hlt : p < q := by
    have : 0 < (tlvB k x).length := by simp [tlvB]
    rw [h4] at this
    simp at this
    omega
  exact ⟨p, q, rfl, rfl, hlt, h2, hT, by rw [h4]; exact take_drop_split z p q h1⟩

def numB (n : Int) : List Int := tlvB 2 (putInt n)

/-- The next part, which must have this tag: its bytes, the place behind it. -/
def partM (zs : List Int) (t tag : Int) : Option (List Int × Int) :=
  if (getTlv zs t).2.2.2 = true ∧ (getTlv zs t).1 = tag then some ((getTlv zs t).2.1, (getTlv zs t).2.2.1) else none

def numM (zs : List Int) (t : Int) : Option (Int × Int) :=
  match partM zs t 2 with
  | some (b, nx) => if (getInt b).2 = true then some ((getInt b).1, nx) else none
  | none => none

theorem part_some {zs : List Int} {t tag : Int} {b : List Int} {nx : Int} (h : partM zs t tag = some (b, nx)) : getTlv zs t = (tag, b, nx, true) := by
  unfold partM at h
  split at h
  · rename_i hc
    simp only [Option.some.injEq, Prod.mk.injEq] at h
    rcases hg : getTlv zs t with ⟨k, x, n, ok⟩
    rw [hg] at h hc
    obtain ⟨rfl, rfl⟩ := h
    obtain ⟨h1, h2⟩ := hc
    simp at h1 h2
    rw [h1, h2]
  · cases h

theorem part_of {zs : List Int} {t tag : Int} {b : List Int} {nx : Int} (h : getTlv zs t = (tag, b, nx, true)) : partM zs t tag = some (b, nx) := by
  unfold partM; rw [h]; simp

theorem tlvB_len (tag : Int) (body : List Int) : 2 ≤ (tlvB tag body).length := by unfold tlvB lenB; split <;> simp <;> omega

theorem lenB_le (n : Nat) : (lenB n).length ≤ 2 := lenB_length n

theorem byt_of_part {z : List Int} (hz : Byt z) {t k nx : Int} {x : List Int} {ok : Bool} (h : getTlv z t = (k, x, nx, ok)) : Byt x := by
  have := getTlv_byte z t hz; rw [h] at this; exact this

theorem numM_back (pre r : List Int) (n : Int) : numM (pre ++ (numB n ++ r)) pre.length = some (clip n, ((pre.length + (numB n).length : Nat) : Int)) := by
  have h1 := tlv_mid pre 2 (putInt n) r (by have := putInt_length n; unfold TlvOk; omega)
  unfold numM
  rw [show pre ++ (numB n ++ r) = pre ++ (tlvB 2 (putInt n) ++ r) from rfl, part_of h1]
  simp [int_back, numB]

theorem numM_read {z : List Int} (hz : Byt z) {t n nx : Int} (h : numM z t = some (n, nx)) :
    ∃ p q : Nat, t = p ∧ nx = q ∧ p < q ∧ q ≤ z.length ∧ z.drop p = numB n ++ z.drop q := by
  unfold numM at h
  split at h
  · rename_i b nx' hp
    split at h
    · rename_i hi
      simp only [Option.some.injEq, Prod.mk.injEq] at h
      obtain ⟨rfl, rfl⟩ := h
      have hT := part_some hp
      obtain ⟨p, q, rfl, rfl, hpq, hql, hok, hlie⟩ := tlv_lies hz hT
      refine ⟨p, q, rfl, rfl, hpq, hql, ?_⟩
      have hi' : getInt b = ((getInt b).1, true) := Prod.ext rfl hi
      unfold numB
      rw [int_read b (byt_of_part hz hT) _ hi']
      exact hlie
    · cases h
  · cases h

theorem numB_ok (n : Int) : TlvOk 2 (putInt n) := by have := putInt_length n; unfold TlvOk; omega

theorem clip_in {n : Int} (h : -2147483648 ≤ n ∧ n ≤ 2147483647) : clip n = n := by unfold clip; rw [if_neg (by omega), if_neg (by omega)]

theorem numM_some {zs : List Int} {t m nx : Int} (h : numM zs t = some (m, nx)) : ∃ b, getTlv zs t = (2, b, nx, true) ∧ getInt b = (m, true) := by
  unfold numM at h
  split at h
  · rename_i b nx' hp
    split at h
    · rename_i hi
      simp only [Option.some.injEq, Prod.mk.injEq] at h
      obtain ⟨rfl, rfl⟩ := h
      exact ⟨b, part_some hp, Prod.ext rfl hi⟩
    · cases h
  · cases h

theorem numM_none {zs : List Int} {t : Int} (h : numM zs t = none) : partM zs t 2 = none ∨ ∃ b nx m, getTlv zs t = (2, b, nx, true) ∧ getInt b = (m, false) := by
  unfold numM at h
  split at h
  · rename_i b nx' hp
    split at h
    · cases h
    · rename_i hi
      exact .inr ⟨b, nx', (getInt b).1, part_some hp, Prod.ext rfl (by simpa using hi)⟩
  · exact .inl (by assumption)

theorem tlv_short {zs : List Int} (hz : Byt zs) {t k nx : Int} {b : List Int} (h : getTlv zs t = (k, b, nx, true)) : b.length ≤ 250 := by
  obtain ⟨_, _, _, _, _, _, hT, _⟩ := tlv_lies hz h
  unfold TlvOk at hT
  omega

end Go.Proofs.Ytjkmagpppfnlpaa
