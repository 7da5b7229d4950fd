/-
  Frames cut from the front: what is read of what is left is what is read in the whole.
-/
import Derived.Test.YtanonfdgckanhaaFrameRead
namespace Go.Proofs.Ytanonfdgckanhaa
open Go.RowKit

theorem byt_drop {z : List Int} (hz : Byt z) (p : Nat) : Byt (z.drop p) := fun x hx => hz x (List.mem_of_mem_drop hx)

theorem part_at {z : List Int} (hz : Byt z) {p : Nat} (hp : p ≤ z.length) (tag : Int) : partM z p tag = (partM (z.drop p) 0 tag).map (fun bn => (bn.1, bn.2 + (p : Int))) := by
  cases h1 : partM (z.drop p) 0 tag with
  | some bn =>
    obtain ⟨b, nx⟩ := bn
    obtain ⟨p', q, hp', rfl, hlt, hq, hok, hlie⟩ := tlv_lies (byt_drop hz p) (part_some h1)
    have z0 : p' = 0 := by omega
    subst z0
    rw [List.drop_zero] at hlie
    have hm := tlv_mid (z.take p) tag b ((z.drop p).drop q) hok
    rw [← hlie, List.take_append_drop] at hm
    have hl : (z.take p).length = p := by simp; omega
    rw [hl] at hm
    have hlen : (tlvB tag b).length = q := by
      have h := congrArg List.length hlie
      simp only [List.length_append, List.length_drop] at h hq
      omega
    rw [part_of hm, hlen]
    simp
    omega
  | none =>
    cases h2 : partM z p tag with
    | none => rfl
    | some bn =>
      obtain ⟨b, nx⟩ := bn
      obtain ⟨p', q, hp', rfl, hlt, hq, hok, hlie⟩ := tlv_lies hz (part_some h2)
      have z0 : p' = p := by omega
      subst z0
      have hm := tlv_mid [] tag b (z.drop q) hok
      rw [List.nil_append, ← hlie] at hm
      have hm := part_of hm
      rw [show (([] : List Int).length : Int) = 0 from rfl, h1] at hm
      cases hm

theorem numT_at {z : List Int} (hz : Byt z) {p : Nat} (hp : p ≤ z.length) (tag : Int) : numT tag z p = (numT tag (z.drop p) 0).map (fun bn => (bn.1, bn.2 + (p : Int))) := by
  unfold numT
  rw [part_at hz hp]
  cases partM (z.drop p) 0 tag with
  | none => rfl
  | some bn =>
    obtain ⟨b, nx⟩ := bn
    simp only [Option.map_some]
    split <;> rfl

theorem first_byte {z : List Int} (hz : Byt z) {k nx : Int} {b : List Int} (h : getTlv z 0 = (k, b, nx, true)) : 0 < z.length ∧ z.getD 0 0 = k ∧ ∃ q : Nat, nx = q ∧ q ≤ z.length := by
  obtain ⟨p', q, hp', rfl, hlt, hq, hok, hlie⟩ := tlv_lies hz h
  have z0 : p' = 0 := by omega
  subst z0
  rw [List.drop_zero] at hlie
  refine ⟨by omega, ?_, q, rfl, hq⟩
  rw [hlie]
  simp [tlvB]

theorem tag_iff (z : List Int) (t tag : Int) : ((getTlv z t).2.2.2 = true ∧ (getTlv z t).1 = tag) ↔ (partM z t tag).isSome = true := by
  unfold partM
  split <;> simp_all

/-- A number that was cut, or that could not be. -/
def CutN (tag : Int) (z : List Int) (bad : Bool) (m : Int) (z' : List Int) (bad' : Bool) : Prop :=
  (bad' = bad ∧ ∃ t, numT tag z 0 = some (m, t) ∧ z' = z.drop t.toNat) ∨ (bad' = true ∧ numT tag z 0 = none)

/-- A part that was cut, or that could not be. -/
def CutP (tag : Int) (z : List Int) (bad : Bool) (b : List Int) (z' : List Int) (bad' : Bool) : Prop :=
  (bad' = bad ∧ ∃ t, getTlv z 0 = (tag, b, t, true) ∧ z' = z.drop t.toNat) ∨ (bad' = true ∧ partM z 0 tag = none)

/-- The network that was cut, where there is one. -/
def CutG (z : List Int) (bad : Bool) (g : Int) (z' : List Int) (bad' : Bool) : Prop :=
  ((z.length = 0 ∨ ¬ z.getD 0 0 = 2) ∧ g = 0 ∧ z' = z ∧ bad' = bad) ∨
  (0 < z.length ∧ z.getD 0 0 = 2 ∧ bad' = bad ∧ ¬ g = 0 ∧ ∃ t, numT 2 z 0 = some (g, t) ∧ z' = z.drop t.toNat) ∨
  (0 < z.length ∧ z.getD 0 0 = 2 ∧ bad' = true ∧ (numT 2 z 0 = none ∨ ∃ t, numT 2 z 0 = some (0, t)))

theorem tail_getF {z : List Int} (hz : Byt z) {p : Nat} (hp : p ≤ z.length) {bad bad' : Bool} {x z' : List Int} (h : CutP 3 (z.drop p) bad x z' bad') :
    (bad' = false → partM z p 3 = some (x, ((z.length - z'.length : Nat) : Int)) ∧ z'.length ≤ z.length) ∧ (bad = false → bad' = true → partM z p 3 = none) := by
  rcases h with ⟨rfl, t, hg, rfl⟩ | ⟨rfl, hg⟩
  · obtain ⟨_, _, q, rfl, hq⟩ := first_byte (byt_drop hz p) hg
    refine ⟨fun _ => ?_, fun h1 h2 => by rw [h1] at h2; cases h2⟩
    rw [part_at hz hp, part_of hg]
    simp only [List.length_drop] at hq
    simp
    omega
  · refine ⟨fun h => (by cases h), fun _ _ => ?_⟩
    rw [part_at hz hp, hg]
    rfl

theorem cut_frame {z z1 z2 z3 z4 x : List Int} {d s g : Int} {b1 b2 b3 b4 : Bool} (hz : Byt z) (h1 : CutN 1 z false d z1 b1) (h2 : CutN 1 z1 b1 s z2 b2) (h3 : CutG z2 b2 g z3 b3) (h4 : CutP 3 z3 b3 x z4 b4) :
    gotF z = if b4 = false ∧ z4.length = 0 ∧ okF d s g x.length = true then (d, s, g, x, true) else (0, 0, 0, [], false) := by
  have hb : b4 = false → b3 = false ∧ b2 = false ∧ b1 = false := by
    intro h
    have e3 : b3 = false := by
      rcases h4 with ⟨e, -⟩ | ⟨e, -⟩
      · rw [← e]; exact h
      · rw [h] at e; cases e
    have e2 : b2 = false := by
      rcases h3 with ⟨-, -, -, e⟩ | ⟨-, -, e, -⟩ | ⟨-, -, e, -⟩
      · rw [← e]; exact e3
      · rw [← e]; exact e3
      · rw [e3] at e; cases e
    have e1 : b1 = false := by
      rcases h2 with ⟨e, -⟩ | ⟨e, -⟩
      · rw [← e]; exact e2
      · rw [e2] at e; cases e
    exact ⟨e3, e2, e1⟩
  rcases h1 with ⟨rfl, t1, n1, rfl⟩ | ⟨rfl, n1⟩
  · obtain ⟨_, q1, _, rfl, _, hq1, _⟩ := numT_read hz n1
    rw [Int.toNat_natCast] at h2
    have m1 := numT_at hz hq1 1
    rcases h2 with ⟨rfl, t2, n2, rfl⟩ | ⟨rfl, n2⟩
    · rw [n2] at m1
      simp only [Option.map_some] at m1
      obtain ⟨_, q2, _, rfl, _, hq2, _⟩ := numT_read (byt_drop hz q1) n2
      rw [Int.toNat_natCast, List.drop_drop] at h3
      have hq2' : q1 + q2 ≤ z.length := by rw [List.length_drop] at hq2; omega
      rw [show ((q2 : Int) + (q1 : Int)) = ((q1 + q2 : Nat) : Int) by omega] at m1
      generalize q1 + q2 = p at *
      have hG : gotF z = match (if (getTlv z p).2.2.2 = true ∧ (getTlv z p).1 = 2 then
          match numT 2 z p with
          | some (g, t3) =>
            match partM z t3 3 with
            | some (x, t4) => if t4 = z.length ∧ okF d s g x.length = true ∧ ¬ g = 0 then some (⟨d, s, g, x⟩ : FD) else none
            | none => none
          | none => none
        else
          match partM z p 3 with
          | some (x, t4) => if t4 = z.length ∧ okF d s 0 x.length = true then some ⟨d, s, 0, x⟩ else none
          | none => none) with
        | some y => (y.d, y.s, y.g, y.z, true)
        | none => (0, 0, 0, [], false) := by
        unfold gotF getF
        rw [n1]
        simp only
        rw [m1]
        rfl
      rw [hG]
      clear hG n1 n2 m1
      have hP := part_at hz hq2' 2
      have hN := numT_at hz hq2' 2
      rcases h3 with ⟨hc, rfl, rfl, rfl⟩ | ⟨k0, k1, rfl, hg0, t3, n3, rfl⟩ | ⟨k0, k1, rfl, hno⟩
      · have e0 : partM (z.drop p) 0 2 = none := by
          cases e : partM (z.drop p) 0 2 with
          | none => rfl
          | some bn =>
            obtain ⟨f1, f2, _⟩ := first_byte (byt_drop hz p) (part_some (b := bn.1) (nx := bn.2) e)
            rcases hc with hc | hc
            · omega
            · exact absurd f2 hc
        rw [e0] at hP
        rw [if_neg (by rw [tag_iff, hP]; simp)]
        obtain ⟨ta, tb⟩ := tail_getF hz hq2' h4
        cases b4 with
        | false =>
          obtain ⟨hpp, hle⟩ := ta rfl
          rw [hpp]
          simp only
          by_cases hk : z4.length = 0 ∧ okF d s 0 x.length = true
          · rw [if_pos ⟨by omega, hk.2⟩, if_pos ⟨trivial, hk⟩]
          · rw [if_neg (by rintro ⟨ha, hb⟩; exact hk ⟨by omega, hb⟩), if_neg (fun h => hk h.2)]
        | true =>
          rw [tb rfl rfl]
          simp
      · obtain ⟨bb, hbb, _⟩ := numT_some n3
        have e0 := part_of hbb
        rw [e0] at hP
        rw [if_pos (by rw [tag_iff, hP]; simp)]
        obtain ⟨_, q3, _, rfl, _, hq3, _⟩ := numT_read (byt_drop hz p) n3
        rw [n3] at hN
        simp only [Option.map_some] at hN
        rw [hN]
        simp only
        have hq3' : p + q3 ≤ z.length := by rw [List.length_drop] at hq3; omega
        rw [Int.toNat_natCast, List.drop_drop] at h4
        rw [show ((q3 : Int) + (p : Int)) = ((p + q3 : Nat) : Int) by omega]
        obtain ⟨ta, tb⟩ := tail_getF hz hq3' h4
        cases b4 with
        | false =>
          obtain ⟨hpp, hle⟩ := ta rfl
          rw [hpp]
          simp only
          by_cases hk : z4.length = 0 ∧ okF d s g x.length = true
          · rw [if_pos ⟨by omega, hk.2, hg0⟩, if_pos ⟨trivial, hk⟩]
          · rw [if_neg (by rintro ⟨ha, hb, _⟩; exact hk ⟨by omega, hb⟩), if_neg (fun h => hk h.2)]
        | true =>
          rw [tb rfl rfl]
          simp
      · have e4 : b4 = true := by
          cases b4 with
          | true => rfl
          | false => have := (hb rfl).1; cases this
        rw [if_neg (c := b4 = false ∧ _) (by rw [e4]; simp)]
        have e3 : partM z p 3 = none := by
          rw [part_at hz hq2']
          cases e : partM (z.drop p) 0 3 with
          | none => rfl
          | some bn =>
            obtain ⟨_, f2, _⟩ := first_byte (byt_drop hz p) (part_some (b := bn.1) (nx := bn.2) e)
            omega
        split
        · rename_i y hy
          split at hy
          · rw [hN] at hy
            rcases hno with h0 | ⟨t, h0⟩
            · rw [h0] at hy; cases hy
            · rw [h0] at hy
              simp only [Option.map_some] at hy
              split at hy
              · split at hy
                · rename_i hh; exact absurd trivial hh.2.2
                · cases hy
              · cases hy
          · rw [e3] at hy; cases hy
        · rfl
    · have e4 : ¬ b4 = false := by
        intro h
        have := (hb h).2.1
        cases this
      rw [if_neg (fun h => e4 h.1)]
      rw [n2] at m1
      unfold gotF getF
      rw [n1]
      simp only
      rw [m1]
      rfl
  · have e4 : ¬ b4 = false := by
      intro h
      have := (hb h).2.2
      cases this
    rw [if_neg (fun h => e4 h.1)]
    unfold gotF getF
    rw [n1]

end Go.Proofs.Ytanonfdgckanhaa
