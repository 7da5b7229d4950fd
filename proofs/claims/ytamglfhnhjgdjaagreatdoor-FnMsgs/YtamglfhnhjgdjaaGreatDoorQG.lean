/-
  Requests as plain functions: their bytes, what is read of bytes; what is put comes back, what is read has these bytes.
  What a slice of binds is to the walks: each bind's five cells, its two lists of numbers; how that reading stays; an argument as it is opened.
  Binds that a call owns: the row of their cells, each bind's two lists, all in blocks of their own; how that stays while other blocks, or one bind's own parts, are written.
  The law file's own helpers on binds and requests by their contracts: their size, a copy, whether two are the same.
  A copy of a bind, of binds, of a request: the law file's helpers by their contracts.
-/
import Derived.Test.YtamglfhnhjgdjaaGreatDoorQD
import Derived.Test.YtamglfhnhjgdjaaGreatDoorQF
import Derived.Test.YtamglfhnhjgdjaaGreatDoorValOk
import Derived.Lib.SmallJoins
import Derived.Deep.RegionHeld3
namespace Go.Proofs.YtamglfhnhjgdjaaGreatDoor
open Go.RowKit

/-- A name and its value. -/
structure BD where
  o : List Int
  K : Int
  N : Int
  S : ByteArray
  z : List Int

def okB (x : BD) : Bool := oidOk x.o && okV x.K x.N x.S x.z
/-- The bytes of one bind. -/
def putB (x : BD) : List Int := putV (putTlv [] 6 (putO x.o)) x.K x.N x.S x.z
/-- All binds behind b. -/
def putBs : List Int → List BD → List Int
  | b, [] => b
  | b, x :: r => putBs (putTlv b 48 (putB x)) r

def headP (id a b : Int) : List Int := putTlv (putTlv (putTlv [] 2 (putInt id)) 2 (putInt a)) 2 (putInt b)
def bodyP (id a b : Int) (bs : List BD) : List Int := putTlv (headP id a b) 48 (putBs [] bs)

def kindOk (k : Int) : Bool := decide (k = 160 ∨ k = 161 ∨ k = 162 ∨ k = 163 ∨ k = 165)
def okP (k id a b : Int) (bs : List BD) : Bool :=
  bs.all okB && (decide (k = 162 ∨ k = 165 ∨ (a = 0 ∧ b = 0)) && (kindOk k && (decide (-2147483648 ≤ id ∧ id ≤ 2147483647) && (decide (0 ≤ a ∧ a ≤ 1000) && (decide (0 ≤ b ∧ b ≤ 1000) && decide (bs.length ≤ 10))))))

/-- The bytes of a request; nothing of what is not right or too great. -/
def putP (k id a b : Int) (bs : List BD) : List Int :=
  if okP k id a b bs = true ∧ (putBs [] bs).length ≤ 250 ∧ (bodyP id a b bs).length ≤ 250 then putTlv [] k (bodyP id a b bs) else []

def getB (b : List Int) : Option BD :=
  match partM b 0 6 with
  | some (ob, nx) =>
    match getO ob, getV b nx with
    | some o, (K, N, S, z, end_, true) => if end_ = b.length then some ⟨o, K, N, S, z⟩ else none
    | _, _ => none
  | none => none
/-- All binds from a place on, f at most. -/
def getBs : Nat → List Int → Int → Option (List BD)
  | 0, zs, t => if t = zs.length then some [] else none
  | f + 1, zs, t =>
    if t = zs.length then some []
    else match partM zs t 48 with
      | some (b, nx) =>
        match getB b with
        | some x => (getBs f zs nx).map (x :: ·)
        | none => none
      | none => none

structure PD where
  k : Int
  id : Int
  a : Int
  b : Int
  bs : List BD

/-- What is behind the numbers. -/
def getTail (body : List Int) : Option (Int × Int × Int × List BD) :=
  match numM body 0 with
  | some (id, t1) => match numM body t1 with
    | some (a, t2) => match numM body t2 with
      | some (b, t3) => match partM body t3 48 with
        | some (zs, t4) => if t4 = body.length then (getBs 10 zs 0).map fun l => (id, a, b, l) else none
        | none => none
      | none => none
    | none => none
  | none => none

def getP (z : List Int) : Option PD :=
  if (getTlv z 0).2.2.2 = true ∧ (getTlv z 0).2.2.1 = z.length then
    match getTail (getTlv z 0).2.1 with
    | some (id, a, b, l) => if okP (getTlv z 0).1 id a b l = true then some ⟨(getTlv z 0).1, id, a, b, l⟩ else none
    | none => none
  else none

theorem putO_ok6 (o : List Int) : TlvOk 6 (putO o) := by have := put_length o; unfold TlvOk; omega

theorem putB_eq (x : BD) (h : okB x = true) : putB x = tlvB 6 (putO x.o) ++ tlvB x.K (bodyV x.K x.N x.S x.z) ∧ TlvOk x.K (bodyV x.K x.N x.S x.z) := by
  unfold okB at h
  rw [Bool.and_eq_true] at h
  have hT : TlvOk x.K (bodyV x.K x.N x.S x.z) := by
    have hs := body_small h.2
    unfold TlvOk
    rcases okV_ways h.2 with ⟨hk, -⟩ | ⟨hk, -⟩ | ⟨hk, -⟩ | ⟨hk, -⟩ <;> omega
  refine ⟨?_, hT⟩
  unfold putB putV
  rw [if_pos h.2, put_part hT, put_part (putO_ok6 x.o)]
  rfl

theorem getB_put {x : BD} (h : okB x = true) : getB (putB x) = some x := by
  have hok := h
  unfold okB at h
  rw [Bool.and_eq_true] at h
  obtain ⟨e, hT⟩ := putB_eq x hok
  have h1 : getTlv (putB x) 0 = (6, putO x.o, ((tlvB 6 (putO x.o)).length : Int), true) := by
    rw [e]
    have := tlv_mid [] 6 (putO x.o) (tlvB x.K (bodyV x.K x.N x.S x.z)) (putO_ok6 x.o)
    simpa using this
  have h2 : getV (putB x) ((tlvB 6 (putO x.o)).length : Int) = (x.K, x.N, x.S, x.z, ((putB x).length : Int), true) := by
    have := val_back (putTlv [] 6 (putO x.o)) h.2
    rw [show (putTlv [] 6 (putO x.o)) = tlvB 6 (putO x.o) by rw [put_part (putO_ok6 x.o)]; rfl] at this
    have e2 : putB x = putV (tlvB 6 (putO x.o)) x.K x.N x.S x.z := by
      unfold putB; rw [show (putTlv [] 6 (putO x.o)) = tlvB 6 (putO x.o) by rw [put_part (putO_ok6 x.o)]; rfl]
    rw [e2]; exact this
  unfold getB
  rw [part_of h1]
  simp only [getO_put h.1, h2, if_true]

theorem getB_read {b : List Int} (hb : Byt b) {x : BD} (h : getB b = some x) : okB x = true ∧ putB x = b := by
  unfold getB at h
  split at h
  · rename_i ob nx hp
    have hT := part_some hp
    obtain ⟨p, q, hp0, hq, hpq, hql, hok, hlie⟩ := tlv_lies hb hT
    have hp0' : p = 0 := by omega
    subst hp0'
    split at h
    · rename_i o K N S z end_ ho hv
      split at h
      · rename_i hend
        simp only [Option.some.injEq] at h
        subst h
        obtain ⟨hokv, p2, q2, hp2, hq2, hpq2, hql2, hpl2, hput⟩ := val_read hb hv
        have e1 : p2 = q := by omega
        have e2 : q2 = b.length := by omega
        subst e1 e2
        have hO := getO_is ho
        refine ⟨by unfold okB; rw [hO.1, hokv]; rfl, ?_⟩
        unfold putB
        rw [show putTlv [] 6 (putO o) = tlvB 6 ob by rw [hO.2, put_part hok]; rfl]
        have hval : putV [] K N S z = b.drop p2 := by rw [hput, List.take_of_length_le (by simp)]
        have hcat : putV (tlvB 6 ob) K N S z = tlvB 6 ob ++ putV [] K N S z := by
          have hT2 : TlvOk K (bodyV K N S z) := by
            have hs := body_small hokv
            unfold TlvOk
            rcases okV_ways hokv with ⟨hk, -⟩ | ⟨hk, -⟩ | ⟨hk, -⟩ | ⟨hk, -⟩ <;> omega
          unfold putV
          rw [if_pos hokv, if_pos hokv, put_part hT2, put_part hT2]
          rfl
        rw [hcat, hval]
        simpa using hlie.symm
      · cases h
    · cases h
  · cases h

def flatB (bs : List BD) : List Int := (bs.map fun x => tlvB 48 (putB x)).flatten

theorem putBs_append (bs : List BD) : ∀ b, (∀ x ∈ bs, TlvOk 48 (putB x)) → putBs b bs = b ++ flatB bs := by
  induction bs with
  | nil => intro b _; simp [putBs, flatB]
  | cons x r ih =>
    intro b h2
    unfold putBs
    rw [ih _ (fun y hy => h2 y (List.mem_cons_of_mem _ hy)), put_part (h2 x (List.mem_cons_self ..))]
    simp [flatB]

theorem flatB_cons (x : BD) (r : List BD) : flatB (x :: r) = tlvB 48 (putB x) ++ flatB r := by simp [flatB]

theorem putB_small {x : BD} (h : okB x = true) : (putB x).length ≤ 70 := by
  have hok := h
  unfold okB at h
  rw [Bool.and_eq_true] at h
  obtain ⟨e, _⟩ := putB_eq x hok
  rw [e]
  have h1 := put_length x.o
  have h2 : (bodyV x.K x.N x.S x.z).length ≤ 30 := by
    unfold bodyV
    split
    · have := putInt_length x.N; omega
    · split
      · rw [strB_length]
        rcases okV_ways h.2 with ⟨-, -, hS, -⟩ | ⟨-, -, hS, -⟩ | ⟨-, hl, -, -⟩ | ⟨-, -, -, hS⟩
        · rw [hS]; exact Nat.zero_le _
        · rw [hS]; exact Nat.zero_le _
        · omega
        · rw [hS]; exact Nat.zero_le _
      · split
        · have := put_length x.z; omega
        · simp
  have h3 := lenB_le (putO x.o).length
  have h4 := lenB_le (bodyV x.K x.N x.S x.z).length
  unfold tlvB
  simp only [List.length_append, List.length_cons, List.length_nil]
  omega

theorem putB_ok48 {x : BD} (h : okB x = true) : TlvOk 48 (putB x) := by have := putB_small h; unfold TlvOk; omega

/-- All binds come back. -/
theorem getBs_back : ∀ (bs : List BD) (f : Nat) (pre : List Int), (∀ x ∈ bs, okB x = true) → bs.length ≤ f → getBs f (pre ++ flatB bs) pre.length = some bs := by
  intro bs
  induction bs with
  | nil => intro f pre _ _; cases f <;> simp [getBs, flatB]
  | cons x r ih =>
    intro f pre hok hf
    cases f with
    | zero => simp at hf
    | succ g =>
      have hx := hok x (List.mem_cons_self ..)
      have h1 := tlv_mid pre 48 (putB x) (flatB r) (putB_ok48 hx)
      have h2 := ih g (pre ++ tlvB 48 (putB x)) (fun y hy => hok y (List.mem_cons_of_mem _ hy)) (by simp at hf; omega)
      have hne : ¬ ((pre.length : Int) = ((pre ++ flatB (x :: r)).length : Nat)) := by
        have := tlvB_len 48 (putB x)
        rw [flatB_cons]
        simp only [List.length_append]
        omega
      unfold getBs
      rw [if_neg hne, flatB_cons, part_of h1]
      simp only [getB_put hx]
      rw [show pre ++ (tlvB 48 (putB x) ++ flatB r) = (pre ++ tlvB 48 (putB x)) ++ flatB r by simp, show ((pre.length + (tlvB 48 (putB x)).length : Nat) : Int) = ((pre ++ tlvB 48 (putB x)).length : Nat) by simp, h2]
      rfl

/-- What is read of binds has these bytes. -/
theorem getBs_read : ∀ (f : Nat) (zs : List Int) (t : Int) (l : List BD), Byt zs → 0 ≤ t → t ≤ zs.length → getBs f zs t = some l → (∀ x ∈ l, okB x = true) ∧ l.length ≤ f ∧ zs.drop t.toNat = flatB l := by
  intro f
  induction f with
  | zero =>
    intro zs t l hz h0 h1 h
    unfold getBs at h
    split at h
    · rename_i e
      cases h
      refine ⟨(by intro x hx; cases hx), Nat.le_refl _, ?_⟩
      rw [e]; simp [flatB]
    · cases h
  | succ f ih =>
    intro zs t l hz h0 h1 h
    unfold getBs at h
    split at h
    · rename_i e
      cases h
      refine ⟨(by intro x hx; cases hx), Nat.zero_le _, ?_⟩
      rw [e]; simp [flatB]
    · split at h
      · rename_i b nx hp
        have hT := part_some hp
        obtain ⟨p, q, rfl, rfl, hpq, hql, hok, hlie⟩ := tlv_lies hz hT
        split at h
        · rename_i x hx
          obtain ⟨hxo, hxp⟩ := getB_read (byt_of_part hz hT) hx
          cases hr : getBs f zs q with
          | none => rw [hr] at h; cases h
          | some r =>
            rw [hr] at h
            simp only [Option.map_some, Option.some.injEq] at h
            subst h
            obtain ⟨i1, i2, i3⟩ := ih zs q r hz (by omega) (by omega) hr
            refine ⟨?_, by simp; omega, ?_⟩
            · intro y hy
              rcases List.mem_cons.1 hy with rfl | hy
              · exact hxo
              · exact i1 y hy
            · rw [flatB_cons, hxp, ← i3]
              simpa using hlie
        · cases h
      · cases h

theorem headP_eq (id a b : Int) : headP id a b = numB id ++ (numB a ++ numB b) := by
  unfold headP numB
  rw [put_part (numB_ok id), put_part (numB_ok a), put_part (numB_ok b)]
  simp
theorem bodyP_eq {id a b : Int} {bs : List BD} (h : (putBs [] bs).length ≤ 250) : bodyP id a b bs = numB id ++ (numB a ++ (numB b ++ tlvB 48 (putBs [] bs))) := by
  unfold bodyP
  rw [put_part (by unfold TlvOk; omega), headP_eq]
  simp

theorem okP_parts {k id a b : Int} {bs : List BD} (h : okP k id a b bs = true) :
    (∀ x ∈ bs, okB x = true) ∧ (k = 162 ∨ k = 165 ∨ (a = 0 ∧ b = 0)) ∧ (k = 160 ∨ k = 161 ∨ k = 162 ∨ k = 163 ∨ k = 165) ∧ (-2147483648 ≤ id ∧ id ≤ 2147483647) ∧ (0 ≤ a ∧ a ≤ 1000) ∧ (0 ≤ b ∧ b ≤ 1000) ∧ bs.length ≤ 10 := by
  unfold okP kindOk at h
  simp only [Bool.and_eq_true, List.all_eq_true, decide_eq_true_eq] at h
  exact h

theorem tail_back {id a b : Int} {bs : List BD} (hok : ∀ x ∈ bs, okB x = true) (hl : bs.length ≤ 10) (hi : -2147483648 ≤ id ∧ id ≤ 2147483647) (ha : -2147483648 ≤ a ∧ a ≤ 2147483647) (hb : -2147483648 ≤ b ∧ b ≤ 2147483647) (h : (putBs [] bs).length ≤ 250) :
    getTail (bodyP id a b bs) = some (id, a, b, bs) := by
  have hB : putBs [] bs = flatB bs := by rw [putBs_append bs [] (fun x hx => putB_ok48 (hok x hx))]; rfl
  have e := bodyP_eq (id := id) (a := a) (b := b) h
  have n1 : numM (bodyP id a b bs) 0 = some (id, ((numB id).length : Int)) := by
    have := numM_back [] (numB a ++ (numB b ++ tlvB 48 (putBs [] bs))) id
    rw [clip_in hi] at this
    rw [e]; simpa using this
  have n2 : numM (bodyP id a b bs) ((numB id).length : Int) = some (a, (((numB id) ++ (numB a)).length : Int)) := by
    have := numM_back (numB id) (numB b ++ tlvB 48 (putBs [] bs)) a
    rw [clip_in ha] at this
    rw [e, this]; simp
  have n3 : numM (bodyP id a b bs) (((numB id) ++ (numB a)).length : Int) = some (b, (((numB id) ++ (numB a) ++ (numB b)).length : Int)) := by
    have := numM_back (numB id ++ numB a) (tlvB 48 (putBs [] bs)) b
    rw [clip_in hb] at this
    rw [e, show numB id ++ (numB a ++ (numB b ++ tlvB 48 (putBs [] bs))) = (numB id ++ numB a) ++ (numB b ++ tlvB 48 (putBs [] bs)) by simp, this]
    simp; omega
  have n4 : partM (bodyP id a b bs) (((numB id) ++ (numB a) ++ (numB b)).length : Int) 48 = some (putBs [] bs, ((bodyP id a b bs).length : Int)) := by
    have := tlv_mid (numB id ++ numB a ++ numB b) 48 (putBs [] bs) [] (by unfold TlvOk; omega)
    rw [List.append_nil] at this
    rw [e, show numB id ++ (numB a ++ (numB b ++ tlvB 48 (putBs [] bs))) = (numB id ++ numB a ++ numB b) ++ tlvB 48 (putBs [] bs) by simp]
    rw [part_of this]
    simp; omega
  have n5 := getBs_back bs 10 [] hok hl
  unfold getTail
  rw [n1]
  simp only []
  rw [n2]
  simp only []
  rw [n3]
  simp only []
  rw [n4]
  simp only [if_true]
  rw [hB]
  rw [List.nil_append] at n5
  rw [show (([] : List Int).length : Int) = 0 from rfl] at n5
  rw [n5]
  rfl

/-- A request that has bytes comes back of them. -/
theorem pdu_back {k id a b : Int} {bs : List BD} (h : okP k id a b bs = true) (h1 : (putBs [] bs).length ≤ 250) (h2 : (bodyP id a b bs).length ≤ 250) : getP (putP k id a b bs) = some ⟨k, id, a, b, bs⟩ := by
  obtain ⟨c1, c2, c3, c4, c5, c6, c7⟩ := okP_parts h
  have e : putP k id a b bs = tlvB k (bodyP id a b bs) := by
    unfold putP
    rw [if_pos ⟨h, h1, h2⟩, put_part (by unfold TlvOk; omega)]
    rfl
  have hT : getTlv (putP k id a b bs) 0 = (k, bodyP id a b bs, ((putP k id a b bs).length : Int), true) := by
    have := tlv_mid [] k (bodyP id a b bs) [] (by unfold TlvOk; omega)
    rw [e]
    simpa using this
  unfold getP
  rw [hT]
  simp only [and_self, if_true]
  rw [tail_back c1 c7 c4 (by omega) (by omega) h1]
  simp [h]

theorem tail_read {z : List Int} (hz : Byt z) {id a b : Int} {l : List BD} (h : getTail z = some (id, a, b, l)) : (∀ x ∈ l, okB x = true) ∧ l.length ≤ 10 ∧ (putBs [] l).length ≤ 250 ∧ bodyP id a b l = z := by
  unfold getTail at h
  split at h
  · rename_i i1 t1 e1
    split at h
    · rename_i i2 t2 e2
      split at h
      · rename_i i3 t3 e3
        split at h
        · rename_i zs t4 e4
          split at h
          · rename_i hend
            obtain ⟨p1, q1, hp1, rfl, hl1, hm1, d1⟩ := numM_read hz e1
            obtain ⟨p2, q2, hp2, rfl, hl2, hm2, d2⟩ := numM_read hz e2
            obtain ⟨p3, q3, hp3, rfl, hl3, hm3, d3⟩ := numM_read hz e3
            have hT := part_some e4
            obtain ⟨p4, q4, hp4, hq4, hl4, hm4, hok4, d4⟩ := tlv_lies hz hT
            cases hr : getBs 10 zs 0 with
            | none => rw [hr] at h; cases h
            | some r =>
              rw [hr] at h
              simp only [Option.map_some, Option.some.injEq, Prod.mk.injEq] at h
              obtain ⟨rfl, rfl, rfl, rfl⟩ := h
              obtain ⟨c1, c2, c3⟩ := getBs_read 10 zs 0 r (byt_of_part hz hT) (by omega) (by omega) hr
              have ez : zs = flatB r := by simpa using c3
              have hB : putBs [] r = zs := by rw [putBs_append r [] (fun x hx => putB_ok48 (c1 x hx)), ez]; rfl
              have hzl : zs.length ≤ 250 := by unfold TlvOk at hok4; omega
              refine ⟨c1, c2, by rw [hB]; exact hzl, ?_⟩
              rw [bodyP_eq (by rw [hB]; exact hzl), hB]
              have z1 : p1 = 0 := by omega
              have z2 : p2 = q1 := by omega
              have z3 : p3 = q2 := by omega
              have z4 : p4 = q3 := by omega
              have z5 : q4 = z.length := by omega
              subst z1 z2 z3 z4 z5
              rw [List.drop_length, List.append_nil] at d4
              rw [← d4, ← d3, ← d2]
              simpa using d1.symm
          · cases h
        · cases h
      · cases h
    · cases h
  · cases h

/-- What is read is right, and has these bytes. -/
theorem pdu_read {z : List Int} (hz : Byt z) {x : PD} (h : getP z = some x) : okP x.k x.id x.a x.b x.bs = true ∧ putP x.k x.id x.a x.b x.bs = z ∧ z ≠ [] := by
  unfold getP at h
  split at h
  · rename_i hc
    rcases hT : getTlv z 0 with ⟨k, body, nx, ok⟩
    rw [hT] at h hc
    obtain ⟨hok, hnx⟩ := hc
    simp only at hok hnx h
    subst hok
    split at h
    · rename_i id a b l ht
      split at h
      · rename_i hokp
        simp only [Option.some.injEq] at h
        subst h
        obtain ⟨c1, c2, c3, c4⟩ := tail_read (byt_of_part hz hT) ht
        obtain ⟨p, q, hp, hq, hpq, hql, hokT, hlie⟩ := tlv_lies hz hT
        have hp0 : p = 0 := by omega
        have hq0 : q = z.length := by omega
        subst hp0 hq0
        rw [List.drop_length, List.append_nil] at hlie
        have hz' : z = tlvB k body := by simpa using hlie
        refine ⟨hokp, ?_, ?_⟩
        · show putP k id a b l = z
          unfold putP
          rw [c4, if_pos ⟨hokp, c3, by unfold TlvOk at hokT; omega⟩, put_part hokT, hz']
          rfl
        · intro e
          rw [e] at hpq
          simp at hpq
      · cases h
    · cases h
  · cases h

/-- A bind as it lies in memory: its name, its value, its value's name. -/
structure BI where
  oa : Option Addr
  on : Nat
  oc : Nat
  o : List Int
  K : Int
  N : Int
  S : ByteArray
  za : Option Addr
  zn : Nat
  zc : Nat
  z : List Int

/-- What it says. -/
def BI.d (x : BI) : BD := ⟨x.o, x.K, x.N, x.S, x.z⟩

structure BI.In (w : World) (x : BI) : Prop where
  o : IRow w x.oa x.on x.oc x.o
  z : IRow w x.za x.zn x.zc x.z
  s : x.S.size ≤ maxLen

/-- Its five cells from a place on. -/
def BI.At (w : World) (b p : Nat) (x : BI) : Prop :=
  w.cell? ⟨b, p, none⟩ = some (.slice x.oa x.on x.oc) ∧ w.cell? ⟨b, p + 1, none⟩ = some (.int .i64 x.K) ∧ w.cell? ⟨b, p + 2, none⟩ = some (.int .i64 x.N) ∧ w.cell? ⟨b, p + 3, none⟩ = some (.string x.S) ∧ w.cell? ⟨b, p + 4, none⟩ = some (.slice x.za x.zn x.zc)

structure BRow (w : World) (ao : Option Addr) (len cap : Nat) (l : List BI) : Prop where
  size : l.length = len
  le : len ≤ cap
  top : cap ≤ maxLen
  nil : ao = none → cap = 0
  item : ∀ x ∈ l, x.In w
  cell : len = 0 ∨ ∃ b off, ao = some ⟨b, off, none⟩ ∧ ∀ (i : Nat) (x : BI), l[i]? = some x → x.At w b (off + i * 5)

theorem BI.In.below {w w' : World} {x : BI} (h : x.In w) (hb : Below w.heap.size w w') : x.In w' := ⟨h.o.below hb, h.z.below hb, h.s⟩

theorem BI.At.below {w w' : World} {b p : Nat} {x : BI} (h : x.At w b p) (hb : Below w.heap.size w w') : x.At w' b p := by
  obtain ⟨h0, h1, h2, h3, h4⟩ := h
  exact ⟨(hb.cell (block_lt h0)).trans h0, (hb.cell (block_lt h1)).trans h1, (hb.cell (block_lt h2)).trans h2, (hb.cell (block_lt h3)).trans h3, (hb.cell (block_lt h4)).trans h4⟩

theorem BRow.below {w w' : World} {ao : Option Addr} {len cap : Nat} {l : List BI} (h : BRow w ao len cap l) (hb : Below w.heap.size w w') : BRow w' ao len cap l where
  size := h.size
  le := h.le
  top := h.top
  nil := h.nil
  item := fun x hx => (h.item x hx).below hb
  cell := by
    rcases h.cell with h0 | ⟨b, off, ha, hc⟩
    · exact .inl h0
    · exact .inr ⟨b, off, ha, fun i x hi => (hc i x hi).below hb⟩

theorem brow_nil (w : World) : BRow w none 0 0 [] := ⟨rfl, Nat.le_refl _, Nat.zero_le _, fun _ => rfl, (by intro x hx; cases hx), .inl rfl⟩

theorem BRow.at {w : World} {ao : Option Addr} {len cap : Nat} {l : List BI} (h : BRow w ao len cap l) (i : Nat) (hi : i < len) : ∃ x b off, l[i]? = some x ∧ ao = some ⟨b, off, none⟩ ∧ x.At w b (off + i * 5) ∧ x.In w := by
  have hl := h.size
  rcases h.cell with h0 | ⟨b, off, ha, hc⟩
  · omega
  · have hx : l[i]? = some l[i] := List.getElem?_eq_getElem (by omega)
    exact ⟨_, b, off, hx, ha, hc i _ hx, h.item _ (List.getElem_mem _)⟩

section
variable {H : Type} {enc : TypeId × Value → H} {P : Program} {w : World}

/-- The program's types that a bind is made of. -/
structure BindTypes (P : Program) (ts tb tv tsl ti tstr : TypeId) (fO fV f0 f1 f2 f3 : Field) : Prop where
  s : P.underlying ts = some (.slice tb)
  b : P.underlying tb = some (.struct #[fO, fV])
  v : P.underlying tv = some (.struct #[f0, f1, f2, f3])
  sl : P.underlying tsl = some (.slice ti)
  i : P.underlying ti = some (.int .i64)
  str : P.underlying tstr = some .string
  fO : fO.type = tsl ∧ fO.offset = 0
  fV : fV.type = tv ∧ fV.offset = 1
  f0 : f0.type = ti ∧ f0.offset = 0
  f1 : f1.type = ti ∧ f1.offset = 1
  f2 : f2.type = tstr ∧ f2.offset = 2
  f3 : f3.type = tsl ∧ f3.offset = 3
  cb : P.cellsOf tb = 5
  cv : P.cellsOf tv = 4
  ci : P.cellsOf ti = 1
  csl : P.cellsOf tsl = 1
  cstr : P.cellsOf tstr = 1

open Go.ChangeShapes Go.WideShapes Go.ChangeAt in
theorem irow_trod {tsl ti : TypeId} (hs : P.underlying tsl = some (.slice ti)) (hi : P.underlying ti = some (.int .i64)) (hc : P.cellsOf ti = 1) {fuel : Nat} {v : Value} {x : DataW H × List MemPlace} (h : DataW.trod enc P w 0 (fun _ => true) true fuel tsl [v] = some x) :
    ∃ a l c zs, v = .slice a l c ∧ IRow w a l c zs := by
  rcases open_ints hs hi hc h with ⟨hcs, _⟩ | ⟨a, l, c, zs, hcs, _, hl, hm, hz, _, hcell, hwz⟩
  · simp only [List.cons.injEq, and_true] at hcs
    subst hcs
    exact ⟨none, 0, 0, [], rfl, irow_nil w⟩
  · simp only [List.cons.injEq, and_true] at hcs
    subst hcs
    exact ⟨some a, l, c, zs.take l, rfl, irow_open hl hm (by simpa using hz) hcell hwz⟩

open Go.ChangeShapes Go.WideShapes Go.ChangeAt in
theorem bind_trod {ts tb tv tsl ti tstr : TypeId} {fO fV f0 f1 f2 f3 : Field} (T : BindTypes P ts tb tv tsl ti tstr fO fV f0 f1 f2 f3) {fuel : Nat} {cs : List Value} {x : DataW H × List MemPlace} (h : DataW.trod enc P w 0 (fun _ => true) true fuel tb cs = some x) :
    ∃ y : BI, y.In w ∧ cs = [.slice y.oa y.on y.oc, .int .i64 y.K, .int .i64 y.N, .string y.S, .slice y.za y.zn y.zc] := by
  obtain ⟨xs, n, _, _, hlen, hxl, hf⟩ := DataW.trod_struct T.b h
  rw [T.cb] at hlen
  match xs, hxl, cs, hlen with
  | [y0, y1], _, [v0, v1, v2, v3, v4], _ =>
    have g0 := hf 0 fO rfl
    have g1 := hf 1 fV rfl
    rw [T.fO.1, T.fO.2, T.csl] at g0
    rw [T.fV.1, T.fV.2, T.cv] at g1
    simp at g0 g1
    obtain ⟨oa, on, oc, o, rfl, ho⟩ := irow_trod T.sl T.i T.ci g0
    obtain ⟨xs', n', _, _, _, hxl', hf'⟩ := DataW.trod_struct T.v g1
    match xs', hxl' with
    | [u0, u1, u2, u3], _ =>
      have k0 := hf' 0 f0 rfl
      have k1 := hf' 1 f1 rfl
      have k2 := hf' 2 f2 rfl
      have k3 := hf' 3 f3 rfl
      rw [T.f0.1, T.f0.2, T.ci] at k0
      rw [T.f1.1, T.f1.2, T.ci] at k1
      rw [T.f2.1, T.f2.2, T.cstr] at k2
      rw [T.f3.1, T.f3.2, T.csl] at k3
      simp at k0 k1 k2 k3
      obtain ⟨K, e0, -, -⟩ := DataW.trod_int T.i k0
      obtain ⟨N, e1, -, -⟩ := DataW.trod_int T.i k1
      obtain ⟨S, e2, -, hS⟩ := DataW.trod_string T.str k2
      obtain ⟨za, zn, zc, z, rfl, hz⟩ := irow_trod T.sl T.i T.ci k3
      simp only [List.cons.injEq, and_true] at e0 e1 e2
      subst e0 e1 e2
      exact ⟨⟨oa, on, oc, o, K, N, S, za, zn, zc, z⟩, ⟨ho, hz, hS⟩, rfl⟩

open Go.ChangeShapes Go.WideShapes Go.ChangeAt in
/-- A slice of binds that came in. -/
theorem open_binds {ts tb tv tsl ti tstr : TypeId} {fO fV f0 f1 f2 f3 : Field} (T : BindTypes P ts tb tv tsl ti tstr fO fV f0 f1 f2 f3) {fuel : Nat} {v : Value} {x : DataW H × List MemPlace} (h : DataW.trod enc P w 0 (fun _ => true) true fuel ts [v] = some x) :
    ∃ ao len cap l, v = .slice ao len cap ∧ BRow w ao len cap l := by
  rcases Go.Deep.open_slice T.s h with ⟨hcs, _⟩ | ⟨a, len, cap, m, n, D, Pl, hcs, _, hl, hm, hmm, _, hx⟩
  · simp only [List.cons.injEq, and_true] at hcs
    subst hcs
    exact ⟨none, 0, 0, [], rfl, brow_nil w⟩
  · simp only [List.cons.injEq, and_true] at hcs
    subst hcs
    have hmc : m = cap := by simpa using hmm
    subst hmc
    have each : ∀ i, i < m → ∃ y : BI, y.In w ∧ ∀ j, j < 5 → w.cell? (a.add (i * 5 + j)) = [Value.slice y.oa y.on y.oc, .int .i64 y.K, .int .i64 y.N, .string y.S, .slice y.za y.zn y.zc][j]? := by
      intro i hi
      obtain ⟨cs', h1, h2⟩ := hx i hi
      rw [T.cb] at h1
      obtain ⟨_, _, hcell⟩ := World.cells?_some h1
      obtain ⟨y, hy, rfl⟩ := bind_trod T h2
      refine ⟨y, hy, fun j hj => ?_⟩
      have := hcell j hj
      rw [Go.Deep.add_add] at this
      exact this
    have : Inhabited BI := ⟨⟨none, 0, 0, [], 0, 0, ⟨#[]⟩, none, 0, 0, []⟩⟩
    obtain ⟨q, hq⟩ := Go.Deep.choose_lt each
    refine ⟨some a, len, m, (List.range len).map q, rfl, by simp, hl, hm, (by intro h; cases h), ?_, ?_⟩
    · intro y hy
      obtain ⟨i, hi, rfl⟩ := List.mem_map.1 hy
      exact (hq i (by have := List.mem_range.1 hi; omega)).1
    · by_cases h0 : len = 0
      · exact .inl h0
      · obtain ⟨b, off, spot⟩ := a
        have hspot : spot = none := by
          have := (hq 0 (by omega)).2 0 (by omega)
          simpa [Addr.add] using World.cell?_spot this
        subst hspot
        refine .inr ⟨b, off, rfl, fun i y hy => ?_⟩
        have hi : i < len := by
          have := (List.getElem?_eq_some_iff.1 hy).1
          simpa using this
        have hy' : q i = y := by
          rw [List.getElem?_map, List.getElem?_range hi] at hy
          simpa using hy
        subst hy'
        have c := (hq i (by omega)).2
        have c0 := c 0 (by omega); have c1 := c 1 (by omega); have c2 := c 2 (by omega); have c3 := c 3 (by omega); have c4 := c 4 (by omega)
        rw [add_none] at c0 c1 c2 c3 c4
        refine ⟨by simpa using c0, ?_, ?_, ?_, ?_⟩
        · rw [Nat.add_assoc]; simpa using c1
        · rw [Nat.add_assoc]; simpa using c2
        · rw [Nat.add_assoc]; simpa using c3
        · rw [Nat.add_assoc]; simpa using c4
end

/-- The cells of a bind. -/
def BI.cs (x : BI) : List Value := [.slice x.oa x.on x.oc, .int .i64 x.K, .int .i64 x.N, .string x.S, .slice x.za x.zn x.zc]
def cBs (l : List BI) : List Value := l.flatMap BI.cs

theorem cs_length (x : BI) : x.cs.length = 5 := rfl
theorem cBs_cons (x : BI) (l : List BI) : cBs (x :: l) = x.cs ++ cBs l := by simp [cBs]
theorem cBs_append (a b : List BI) : cBs (a ++ b) = cBs a ++ cBs b := by simp [cBs]
theorem cBs_length (l : List BI) : (cBs l).length = l.length * 5 := by
  induction l with
  | nil => rfl
  | cons x l ih => rw [cBs_cons, List.length_append, ih, cs_length, List.length_cons]; omega

theorem cBs_at (pre : List BI) (x : BI) (post : List BI) (j : Nat) (hj : j < 5) : (cBs (pre ++ x :: post))[pre.length * 5 + j]? = x.cs[j]? := by
  rw [cBs_append, cBs_cons, List.getElem?_append_right (by rw [cBs_length]; omega), cBs_length, Nat.add_sub_cancel_left, List.getElem?_append_left (by rw [cs_length]; exact hj)]

theorem cBs_set (pre : List BI) (x x' : BI) (post : List BI) (j : Nat) (u : Value) (hj : j < 5) (h : x.cs.set j u = x'.cs) : (cBs (pre ++ x :: post)).set (pre.length * 5 + j) u = cBs (pre ++ x' :: post) := by
  rw [cBs_append, cBs_cons, List.set_append_right _ _ (by rw [cBs_length]; omega), cBs_length, Nat.add_sub_cancel_left, List.set_append_left _ _ (by rw [cs_length]; exact hj), h, cBs_append, cBs_cons]

/-- The block of a slice. -/
def blkL (ao : Option Addr) : List Nat := match ao with | some a => [a.block] | none => []
def BI.blks (x : BI) : List Nat := blkL x.oa ++ blkL x.za

theorem mem_blkL {ao : Option Addr} {n c b : Nat} : (Value.slice ao n c).ownBlock = some b ↔ b ∈ blkL ao := by
  cases ao <;> simp [Value.ownBlock, blkL, eq_comm]

theorem apart_row {ao bo : Option Addr} {n c m d : Nat} (h : ∀ b ∈ blkL ao, b ∉ blkL bo) : (Value.slice ao n c).ownBlock = none ∨ (Value.slice ao n c).ownBlock ≠ (Value.slice bo m d).ownBlock := by
  cases ao with
  | none => exact .inl rfl
  | some a =>
    cases bo with
    | none => exact .inr (by simp [Value.ownBlock])
    | some b => exact .inr (by have := h a.block (by simp [blkL]); simpa [Value.ownBlock, blkL] using this)

/-- Of the blocks that were there these alone may have turned. -/
structure Only (bs : List Nat) (w w' : World) : Prop where
  os : w'.os = w.os
  tape : w'.tape = w.tape
  output : w'.output = w.output
  size : w.heap.size ≤ w'.heap.size
  block : ∀ k, k < w.heap.size → k ∉ bs → w'.heap[k]? = w.heap[k]?

theorem Only.refl (bs : List Nat) (w : World) : Only bs w w := ⟨rfl, rfl, rfl, Nat.le_refl _, fun _ _ _ => rfl⟩
theorem Only.trans {bs : List Nat} {a b c : World} (h : Only bs a b) (k : Only bs b c) : Only bs a c :=
  ⟨k.os.trans h.os, k.tape.trans h.tape, k.output.trans h.output, Nat.le_trans h.size k.size, fun i hi hn => (k.block i (Nat.lt_of_lt_of_le hi h.size) hn).trans (h.block i hi hn)⟩
theorem Only.wider {bs cs : List Nat} {a b : World} (h : Only bs a b) (hs : ∀ x ∈ bs, x ∈ cs) : Only cs a b :=
  ⟨h.os, h.tape, h.output, h.size, fun k hk hn => h.block k hk (fun hb => hn (hs k hb))⟩
theorem Only.of_below {bs : List Nat} {a b : World} (h : Below a.heap.size a b) : Only bs a b := ⟨h.os, h.tape, h.output, h.size, fun k hk _ => h.block k hk⟩
theorem Only.of_grown {ao : Option Addr} {n c : Nat} {a b : World} (h : a.grownBy b (Value.slice ao n c).ownBlock) : Only (blkL ao) a b :=
  ⟨h.os, h.tape, h.output, h.size, fun k hk hn => h.block k hk (fun e => hn (mem_blkL.1 e.symm))⟩
theorem Only.set (w : World) (g j : Nat) (u : Value) : Only [g] w (w.setCell ⟨g, j, none⟩ u) :=
  ⟨rfl, rfl, rfl, by simp, fun k _ hn => Below.heap_setCell _ _ _ _ (by intro e; exact hn (by simp [e]))⟩
theorem Only.below {bs : List Nat} {w w' : World} (h : Only bs w w') {B : Nat} (hB : B ≤ w.heap.size) (hs : ∀ b ∈ bs, B ≤ b) : Below B w w' :=
  ⟨h.os, h.tape, h.output, h.size, fun k hk => h.block k (by omega) (fun hb => by have := hs k hb; omega)⟩
theorem Only.kept {bs : List Nat} {w w' : World} (h : Only bs w w') {i : Nat} {o : Obj} (hi : w.heap[i]? = some o) (hn : i ∉ bs) : w'.heap[i]? = some o := by
  rw [h.block i (Array.getElem?_eq_some_iff.1 hi).1 hn]; exact hi
theorem Only.own {bs : List Nat} {w w' : World} {base : Nat} {e : TypeId} {size : Nat} {v : Value} {n : Nat} {xs : List Value} (h : Only bs w w') (ho : w.ownsRow base e size v n xs) (hn : ∀ k, v.ownBlock = some k → k ∉ bs) : w'.ownsRow base e size v n xs := by
  obtain ⟨hl, h0 | ⟨g, cap, cur, rfl, hg, hh, r⟩⟩ := ho
  · exact ⟨hl, .inl h0⟩
  · exact ⟨hl, .inr ⟨g, cap, cur, rfl, hg, h.kept hh (hn g rfl), r⟩⟩

/-- What the call owns stays its own while only younger blocks turn, whatever the elements. -/
theorem own5_below {w w' : World} {base : Nat} {e : TypeId} {size : Nat} {v : Value} {n : Nat} {xs : List Value} (h : w.ownsRow base e size v n xs) (hb : Below w.heap.size w w') : w'.ownsRow base e size v n xs :=
  (Only.of_below (bs := []) hb).own h (by intro k _ hk; cases hk)
theorem own5_lt {w : World} {base : Nat} {e : TypeId} {size : Nat} {v : Value} {n : Nat} {xs : List Value} (h : w.ownsRow base e size v n xs) {base' : Nat} (hle : base' ≤ base) : w.ownsRow base' e size v n xs := by
  obtain ⟨hl, h | ⟨g, cap, cur, rfl, hg, r⟩⟩ := h
  · exact ⟨hl, .inl h⟩
  · exact ⟨hl, .inr ⟨g, cap, cur, rfl, by omega, r⟩⟩

/-- Rows of unlike elements lie in unlike blocks. -/
theorem apart_type {w : World} {base base' : Nat} {e e' : TypeId} {s s' : Nat} {v v' : Value} {n n' : Nat} {xs xs' : List Value} (h : w.ownsRow base e s v n xs) (h' : w.ownsRow base' e' s' v' n' xs') (hne : e ≠ e') {k : Nat} (hk : v.ownBlock = some k) : v'.ownBlock ≠ some k := by
  intro hk'
  rcases h.2 with ⟨rfl, _⟩ | ⟨g, cap, cur, rfl, _, hh, _⟩
  · cases hk
  · rcases h'.2 with ⟨rfl, _⟩ | ⟨g', cap', cur', rfl, _, hh', _⟩
    · cases hk'
    · simp only [Value.ownBlock, Option.some.injEq] at hk hk'
      subst hk hk'
      rw [hh] at hh'
      cases hh'
      exact hne rfl

/-- A bind whose lists the call owns. -/
structure BOwn (w : World) (base : Nat) (x : BI) : Prop where
  o : w.ownsRow base 3 1 (.slice x.oa x.on x.oc) x.on (cI x.o)
  z : w.ownsRow base 3 1 (.slice x.za x.zn x.zc) x.zn (cI x.z)
  ob : I64s x.o
  zb : I64s x.z
  s : x.S.size ≤ maxLen

theorem BOwn.in {w : World} {base : Nat} {x : BI} (h : BOwn w base x) : x.In w := ⟨irow_own h.o h.ob, irow_own h.z h.zb, h.s⟩
theorem BOwn.below {w w' : World} {base : Nat} {x : BI} (h : BOwn w base x) (hb : Below w.heap.size w w') : BOwn w' base x := ⟨own_below h.o hb, own_below h.z hb, h.ob, h.zb, h.s⟩
theorem BOwn.lt {w : World} {base base' : Nat} {x : BI} (h : BOwn w base x) (hb : base' ≤ base) : BOwn w base' x := ⟨own_lt h.o hb, own_lt h.z hb, h.ob, h.zb, h.s⟩
theorem BOwn.only {bs : List Nat} {w w' : World} {base : Nat} {x : BI} (h : BOwn w base x) (ho : Only bs w w') (hn : ∀ b ∈ x.blks, b ∉ bs) : BOwn w' base x :=
  ⟨ho.own h.o (fun k hk => hn k (List.mem_append_left _ (mem_blkL.1 hk))), ho.own h.z (fun k hk => hn k (List.mem_append_right _ (mem_blkL.1 hk))), h.ob, h.zb, h.s⟩
theorem BOwn.blk {w : World} {base : Nat} {x : BI} (h : BOwn w base x) : ∀ b ∈ x.blks, base ≤ b ∧ b < w.heap.size := by
  intro b hb
  rcases List.mem_append.1 hb with hb | hb
  · exact h.o.lt b (mem_blkL.2 hb)
  · exact h.z.lt b (mem_blkL.2 hb)

/-- Binds that the call owns. -/
structure BOwns (w : World) (base : Nat) (ao : Option Addr) (n cap : Nat) (l : List BI) : Prop where
  row : w.ownsRow base 80 5 (.slice ao n cap) n (cBs l)
  item : ∀ x ∈ l, BOwn w base x
  apart : (l.flatMap BI.blks).Nodup

/-- All blocks of binds. -/
def allB (ao : Option Addr) (l : List BI) : List Nat := blkL ao ++ l.flatMap BI.blks

theorem bowns_nil (w : World) (base : Nat) : BOwns w base none 0 0 [] := ⟨World.ownsRow_nil _ _ _ _, (by intro x hx; cases hx), List.nodup_nil⟩

theorem BOwns.size {w : World} {base : Nat} {ao : Option Addr} {n cap : Nat} {l : List BI} (h : BOwns w base ao n cap l) : l.length = n := by
  have := h.row.1; rw [cBs_length] at this; omega

theorem BOwns.below {w w' : World} {base : Nat} {ao : Option Addr} {n cap : Nat} {l : List BI} (h : BOwns w base ao n cap l) (hb : Below w.heap.size w w') : BOwns w' base ao n cap l :=
  ⟨own5_below h.row hb, fun x hx => (h.item x hx).below hb, h.apart⟩
theorem BOwns.lt {w : World} {base base' : Nat} {ao : Option Addr} {n cap : Nat} {l : List BI} (h : BOwns w base ao n cap l) (hb : base' ≤ base) : BOwns w base' ao n cap l :=
  ⟨own5_lt h.row hb, fun x hx => (h.item x hx).lt hb, h.apart⟩
theorem BOwns.only {bs : List Nat} {w w' : World} {base : Nat} {ao : Option Addr} {n cap : Nat} {l : List BI} (h : BOwns w base ao n cap l) (ho : Only bs w w') (hn : ∀ b ∈ allB ao l, b ∉ bs) : BOwns w' base ao n cap l :=
  ⟨ho.own h.row (fun k hk => hn k (List.mem_append_left _ (mem_blkL.1 hk))), fun x hx => (h.item x hx).only ho (fun b hb => hn b (List.mem_append_right _ (List.mem_flatMap.2 ⟨x, hx, hb⟩))), h.apart⟩
theorem BOwns.blk {w : World} {base : Nat} {ao : Option Addr} {n cap : Nat} {l : List BI} (h : BOwns w base ao n cap l) : ∀ b ∈ allB ao l, base ≤ b ∧ b < w.heap.size := by
  intro b hb
  rcases List.mem_append.1 hb with hb | hb
  · exact h.row.lt b (mem_blkL.2 hb)
  · obtain ⟨x, hx, hb⟩ := List.mem_flatMap.1 hb
    exact (h.item x hx).blk b hb

theorem BOwns.brow {w : World} {base : Nat} {ao : Option Addr} {n cap : Nat} {l : List BI} (h : BOwns w base ao n cap l) : BRow w ao n cap l := by
  have hl := h.size
  have hin := fun x hx => (h.item x hx).in
  rcases h.row.2 with ⟨e, h0⟩ | ⟨g, cap', cur, e, _, _, h1, h2, _⟩
  · cases e
    exact ⟨hl, Nat.le_refl _, Nat.zero_le _, fun _ => rfl, hin, .inl rfl⟩
  · cases e
    refine ⟨hl, h1, h2, (by intro h; cases h), hin, .inr ⟨g, 0, rfl, fun i x hi => ?_⟩⟩
    obtain ⟨hil, hx⟩ := List.getElem?_eq_some_iff.1 hi
    have el : l = l.take i ++ x :: l.drop (i + 1) := by rw [← hx, ← List.drop_eq_getElem_cons hil, List.take_append_drop]
    have at_ : ∀ j, j < 5 → w.cell? ⟨g, i * 5 + j, none⟩ = x.cs[j]? := by
      intro j hj
      rw [h.row.cellAt _ (by omega)]
      have := cBs_at (l.take i) x (l.drop (i + 1)) j hj
      rw [← el, List.length_take, Nat.min_eq_left (by omega)] at this
      exact this
    have a0 := at_ 0 (by omega); have a1 := at_ 1 (by omega); have a2 := at_ 2 (by omega); have a3 := at_ 3 (by omega); have a4 := at_ 4 (by omega)
    unfold BI.At
    rw [Nat.zero_add]
    exact ⟨a0, a1, a2, a3, a4⟩

theorem BOwns.type_apart {w : World} {base : Nat} {ao : Option Addr} {n cap : Nat} {l : List BI} (h : BOwns w base ao n cap l) {x : BI} (hx : x ∈ l) : ∀ b ∈ x.blks, b ∉ blkL ao := by
  intro b hb hc
  have hne : (3 : Nat) ≠ 80 := by decide
  rcases List.mem_append.1 hb with hb | hb
  · exact apart_type (h.item x hx).o h.row hne (mem_blkL.2 hb) (mem_blkL.2 hc)
  · exact apart_type (h.item x hx).z h.row hne (mem_blkL.2 hb) (mem_blkL.2 hc)

theorem apart_mid {pre post : List BI} {x : BI} (h : ((pre ++ x :: post).flatMap BI.blks).Nodup) : x.blks.Nodup ∧ ∀ y, y ∈ pre ∨ y ∈ post → ∀ b ∈ y.blks, b ∉ x.blks := by
  rw [List.flatMap_append, List.flatMap_cons] at h
  obtain ⟨h1, h2, h3⟩ := List.nodup_append.1 h
  obtain ⟨h4, h5, h6⟩ := List.nodup_append.1 h2
  refine ⟨h4, fun y hy b hb hx => ?_⟩
  rcases hy with hy | hy
  · exact h3 b (List.mem_flatMap.2 ⟨y, hy, hb⟩) b (List.mem_append_left _ hx) rfl
  · exact h6 b hx b (List.mem_flatMap.2 ⟨y, hy, hb⟩) rfl

/-- One bind's parts turn, its blocks stay the same. -/
theorem BOwns.turn {bs : List Nat} {w w' : World} {base : Nat} {ao : Option Addr} {n cap : Nat} {pre post : List BI} {x x' : BI} (h : BOwns w base ao n cap (pre ++ x :: post)) (hb : x'.blks = x.blks) (ho : Only bs w w') (hs : ∀ b ∈ bs, b ∈ x.blks ∨ b ∈ blkL ao)
    (hr : w'.ownsRow base 80 5 (.slice ao n cap) n (cBs (pre ++ x' :: post))) (hx : BOwn w' base x') : BOwns w' base ao n cap (pre ++ x' :: post) where
  row := hr
  item := by
    intro y hy
    have hm := (apart_mid h.apart).2
    have keep : (y ∈ pre ∨ y ∈ post) → y ∈ pre ++ x :: post → BOwn w' base y := fun hy hy' => (h.item y hy').only ho (fun b hb hbs => by
      rcases hs b hbs with h1 | h1
      · exact hm y hy b hb h1
      · exact h.type_apart hy' b hb h1)
    rcases List.mem_append.1 hy with hy | hy
    · exact keep (.inl hy) (List.mem_append_left _ hy)
    · rcases List.mem_cons.1 hy with rfl | hy
      · exact hx
      · exact keep (.inr hy) (List.mem_append_right _ (List.mem_cons_of_mem _ hy))
  apart := by
    have := h.apart
    rw [List.flatMap_append, List.flatMap_cons] at this ⊢
    rw [hb]; exact this

theorem BOwns.setO {w w' : World} {base : Nat} {ao : Option Addr} {n cap : Nat} {pre post : List BI} {x : BI} {o' : List Int} (h : BOwns w base ao n cap (pre ++ x :: post)) (hg : w.grownBy w' (Value.slice x.oa x.on x.oc).ownBlock)
    (ho : w'.ownsRow base 3 1 (.slice x.oa x.on x.oc) x.on (cI o')) (hb : I64s o') : BOwns w' base ao n cap (pre ++ { x with o := o' } :: post) := by
  have O := Only.of_grown hg
  have hx : x ∈ pre ++ x :: post := by simp
  have I := h.item x hx
  have nd := (apart_mid h.apart).1
  refine h.turn (bs := blkL x.oa) (x' := { x with o := o' }) rfl O (fun b hb => .inl (List.mem_append_left _ hb)) ?_ ⟨ho, ?_, hb, I.zb, I.s⟩
  · have e : cBs (pre ++ { x with o := o' } :: post) = cBs (pre ++ x :: post) := by simp [cBs, BI.cs]
    rw [e]
    exact O.own h.row (fun k hk hk' => h.type_apart hx k (List.mem_append_left _ hk') (mem_blkL.1 hk))
  · exact O.own I.z (fun k hk hk' => (List.nodup_append.1 nd).2.2 k hk' k (mem_blkL.1 hk) rfl)

theorem BOwns.setZ {w w' : World} {base : Nat} {ao : Option Addr} {n cap : Nat} {pre post : List BI} {x : BI} {z' : List Int} (h : BOwns w base ao n cap (pre ++ x :: post)) (hg : w.grownBy w' (Value.slice x.za x.zn x.zc).ownBlock)
    (ho : w'.ownsRow base 3 1 (.slice x.za x.zn x.zc) x.zn (cI z')) (hb : I64s z') : BOwns w' base ao n cap (pre ++ { x with z := z' } :: post) := by
  have O := Only.of_grown hg
  have hx : x ∈ pre ++ x :: post := by simp
  have I := h.item x hx
  have nd := (apart_mid h.apart).1
  refine h.turn (bs := blkL x.za) (x' := { x with z := z' }) rfl O (fun b hb => .inl (List.mem_append_right _ hb)) ?_ ⟨?_, ho, I.ob, hb, I.s⟩
  · have e : cBs (pre ++ { x with z := z' } :: post) = cBs (pre ++ x :: post) := by simp [cBs, BI.cs]
    rw [e]
    exact O.own h.row (fun k hk hk' => h.type_apart hx k (List.mem_append_right _ hk') (mem_blkL.1 hk))
  · exact O.own I.o (fun k hk hk' => (List.nodup_append.1 nd).2.2 k (mem_blkL.1 hk) k hk' rfl)

theorem BOwns.at {w : World} {base : Nat} {ao : Option Addr} {n cap : Nat} {pre post : List BI} {x : BI} (h : BOwns w base ao n cap (pre ++ x :: post)) : ∃ g, ao = some ⟨g, 0, none⟩ ∧ x.At w g (pre.length * 5) ∧ x.In w ∧ ∀ j, w.frozen? ⟨g, j, none⟩ = false := by
  have hl := h.size
  have B := h.brow
  rcases h.row.2 with ⟨e, h0⟩ | ⟨g, cap', cur, e, _, _, h1, h2, _⟩
  · simp at hl; omega
  · cases e
    rcases B.cell with h0 | ⟨b, off, ha, hc⟩
    · simp at hl; omega
    · cases ha
      have := hc pre.length x (by simp)
      rw [Nat.zero_add] at this
      exact ⟨g, rfl, this, B.item x (by simp), fun j => h.row.frozenAt j⟩

theorem BOwns.store {w : World} {base : Nat} {g n cap : Nat} {pre post : List BI} {x x' : BI} {j : Nat} {u : Value} (h : BOwns w base (some ⟨g, 0, none⟩) n cap (pre ++ x :: post)) (hj : j < 5) (hc : x.cs.set j u = x'.cs) (hb : x'.blks = x.blks) (hx : BOwn w base x → BOwn w base x') :
    BOwns (w.setCell ⟨g, pre.length * 5 + j, none⟩ u) base (some ⟨g, 0, none⟩) n cap (pre ++ x' :: post) := by
  have hm : x ∈ pre ++ x :: post := by simp
  have R := (h.row.stored (pre.length * 5 + j) u).1
  rw [cBs_set pre x x' post j u hj hc] at R
  have O := Only.set w g (pre.length * 5 + j) u
  refine h.turn hb O (fun b hb => .inr (by simpa [blkL] using hb)) R ?_
  exact (hx (h.item x hm)).only O (fun b hb' hb2 => h.type_apart hm b (hb ▸ hb') (by simpa [blkL] using hb2))

theorem BOwns.setK {w : World} {base : Nat} {g n cap : Nat} {pre post : List BI} {x : BI} (h : BOwns w base (some ⟨g, 0, none⟩) n cap (pre ++ x :: post)) (K : Int) : BOwns (w.setCell ⟨g, pre.length * 5 + 1, none⟩ (.int .i64 K)) base (some ⟨g, 0, none⟩) n cap (pre ++ { x with K := K } :: post) :=
  h.store (by omega) rfl rfl (fun I => ⟨I.o, I.z, I.ob, I.zb, I.s⟩)
theorem BOwns.setN {w : World} {base : Nat} {g n cap : Nat} {pre post : List BI} {x : BI} (h : BOwns w base (some ⟨g, 0, none⟩) n cap (pre ++ x :: post)) (N : Int) : BOwns (w.setCell ⟨g, pre.length * 5 + 2, none⟩ (.int .i64 N)) base (some ⟨g, 0, none⟩) n cap (pre ++ { x with N := N } :: post) :=
  h.store (by omega) rfl rfl (fun I => ⟨I.o, I.z, I.ob, I.zb, I.s⟩)
theorem BOwns.setS {w : World} {base : Nat} {g n cap : Nat} {pre post : List BI} {x : BI} (h : BOwns w base (some ⟨g, 0, none⟩) n cap (pre ++ x :: post)) (S : ByteArray) (hS : S.size ≤ maxLen) : BOwns (w.setCell ⟨g, pre.length * 5 + 3, none⟩ (.string S)) base (some ⟨g, 0, none⟩) n cap (pre ++ { x with S := S } :: post) :=
  h.store (by omega) rfl rfl (fun I => ⟨I.o, I.z, I.ob, I.zb, hS⟩)

/-- One bind more, by append. -/
theorem BOwns.push {w w' : World} {base : Nat} {ao ao' : Option Addr} {n cap cap' : Nat} {l : List BI} {x : BI} (h : BOwns w base ao n cap l) (hx : BOwn w base x) (hnd : x.blks.Nodup) (hap : ∀ y ∈ l, ∀ b ∈ y.blks, b ∉ x.blks) (hg : w.grownBy w' (Value.slice ao n cap).ownBlock)
    (hr : w'.ownsRow base 80 5 (.slice ao' (n + 1) cap') (n + 1) (cBs l ++ x.cs)) : BOwns w' base ao' (n + 1) cap' (l ++ [x]) where
  row := by rw [cBs_append]; simpa [cBs] using hr
  item := by
    have O := Only.of_grown hg
    intro y hy
    rcases List.mem_append.1 hy with hy | hy
    · exact (h.item y hy).only O (h.type_apart hy)
    · rw [List.mem_singleton] at hy
      subst hy
      have hne : (3 : Nat) ≠ 80 := by decide
      refine hx.only O fun b hb hc => ?_
      rcases List.mem_append.1 hb with hb | hb
      · exact apart_type hx.o h.row hne (mem_blkL.2 hb) (mem_blkL.2 hc)
      · exact apart_type hx.z h.row hne (mem_blkL.2 hb) (mem_blkL.2 hc)
  apart := by
    rw [List.flatMap_append, List.nodup_append]
    refine ⟨h.apart, by simpa using hnd, ?_⟩
    intro b hb c hc e
    subst e
    obtain ⟨y, hy, hb⟩ := List.mem_flatMap.1 hb
    exact hap y hy b hb (by simpa using hc)

theorem BI.In.le {w : World} {x : BI} (h : x.In w) : x.on ≤ maxLen ∧ x.zn ≤ maxLen := ⟨Nat.le_trans h.o.le h.o.top, Nat.le_trans h.z.le h.z.top⟩

def BI.wt (x : BI) : Nat := x.on + x.S.size + x.zn
def bulk (l : List BI) : Nat := (l.map BI.wt).sum
theorem bulk_append (a b : List BI) : bulk (a ++ b) = bulk a + bulk b := by simp [bulk]
theorem bulk_cons (x : BI) (l : List BI) : bulk (x :: l) = x.wt + bulk l := by simp [bulk]
theorem bulk_mem {l : List BI} {x : BI} (h : x ∈ l) : x.wt ≤ bulk l := by
  obtain ⟨a, b, rfl⟩ := List.append_of_mem h
  rw [bulk_append, bulk_cons]; omega
theorem take_one {α : Type} {l : List α} {i : Nat} {x : α} (h : l[i]? = some x) : l.take (i + 1) = l.take i ++ [x] := by
  obtain ⟨hl, rfl⟩ := List.getElem?_eq_some_iff.1 h
  rw [List.take_succ_eq_append_getElem hl]
theorem bulk_take (l : List BI) (i : Nat) : bulk (l.take i) ≤ bulk l := by
  conv => rhs; rw [← List.take_append_drop i l, bulk_append]
  omega
theorem bulk_next {l : List BI} {i : Nat} {x : BI} (h : l[i]? = some x) : bulk (l.take (i + 1)) = bulk (l.take i) + x.wt := by
  rw [take_one h, bulk_append]; simp [bulk]

/-- A bind that was just made: its lists are the call's own, in blocks of their own. -/
structure BNew (w : World) (base : Nat) (x : BI) : Prop where
  own : BOwn w base x
  nd : x.blks.Nodup

theorem blks_new {w1 w2 : World} {base : Nat} {x : BI} {s : Nat} {o z : List Value} (ho : w1.ownsRow base 3 1 (.slice x.oa x.on x.oc) x.on o) (hz : w2.ownsRow s 3 1 (.slice x.za x.zn x.zc) x.zn z) (hs : w1.heap.size ≤ s) : x.blks.Nodup := by
  have one : ∀ ao : Option Addr, (blkL ao).Nodup := by intro ao; cases ao <;> simp [blkL]
  unfold BI.blks
  rw [List.nodup_append]
  refine ⟨one _, one _, ?_⟩
  intro a ha b hb e
  subst e
  have h1 := (ho.lt a (mem_blkL.2 ha)).2
  have h2 := (hz.lt a (mem_blkL.2 hb)).1
  omega

/-- A bind of nothing. -/
def BI.zero : BI := ⟨none, 0, 0, [], 0, 0, ⟨#[]⟩, none, 0, 0, []⟩

theorem Tryz.infoBind : (Tryz.prog.info? 80).map (fun i => (i.zero, i.size, i.bytes)) = some (some (.agg #[.slice none 0 0, .int .i64 0, .int .i64 0, .string ⟨#[]⟩, .slice none 0 0]), 5, 80) := by kernel_rfl

theorem made5 (n : Nat) : (madeCells #[.slice none 0 0, .int .i64 0, .int .i64 0, .string ⟨#[]⟩, .slice none 0 0] (n * 5)).toList = cBs (List.replicate n BI.zero) := by
  apply List.ext_getElem?
  intro j
  by_cases hj : j < n * 5
  · have hi : j / 5 < n := by omega
    have e : List.replicate n BI.zero = List.replicate (j / 5) BI.zero ++ BI.zero :: List.replicate (n - j / 5 - 1) BI.zero := by
      rw [← List.replicate_succ, List.replicate_append_replicate]
      congr 1
      omega
    have := cBs_at (List.replicate (j / 5) BI.zero) BI.zero (List.replicate (n - j / 5 - 1) BI.zero) (j % 5) (by omega)
    rw [← e, List.length_replicate, show j / 5 * 5 + j % 5 = j by omega] at this
    rw [this]
    have hm : j % 5 < 5 := Nat.mod_lt _ (by omega)
    simp only [madeCells, Array.toList_map, Array.toList_range, List.getElem?_map, List.getElem?_range hj, Option.map_some]
    generalize j % 5 = m at hm
    match m, hm with
    | 0, _ => rfl
    | 1, _ => rfl
    | 2, _ => rfl
    | 3, _ => rfl
    | 4, _ => rfl
  · rw [List.getElem?_eq_none (by simp [madeCells]; omega), List.getElem?_eq_none (by rw [cBs_length]; simp; omega)]

theorem zero_own (w : World) (base : Nat) : BOwn w base BI.zero := ⟨World.ownsRow_nil _ _ _ _, World.ownsRow_nil _ _ _ _, (by intro z hz; cases hz), (by intro z hz; cases hz), Nat.zero_le _⟩

theorem zeros_apart (n : Nat) : (List.replicate n BI.zero).flatMap BI.blks = [] := by
  rw [List.flatMap_eq_nil_iff]
  intro x hx
  rw [List.eq_of_mem_replicate hx]
  rfl

/-- A bind is laid over another one. -/
theorem BOwns.put {w : World} {base : Nat} {g n cap : Nat} {pre post : List BI} {x y : BI} (h : BOwns w base (some ⟨g, 0, none⟩) n cap (pre ++ x :: post)) (hy : BNew w base y) (hap : ∀ z, z ∈ pre ∨ z ∈ post → ∀ b ∈ z.blks, b ∉ y.blks) :
    BOwns (((((w.setCell ⟨g, pre.length * 5, none⟩ (.slice y.oa y.on y.oc)).setCell ⟨g, pre.length * 5 + 1, none⟩ (.int .i64 y.K)).setCell ⟨g, pre.length * 5 + 2, none⟩ (.int .i64 y.N)).setCell ⟨g, pre.length * 5 + 3, none⟩ (.string y.S)).setCell ⟨g, pre.length * 5 + 4, none⟩ (.slice y.za y.zn y.zc)) base (some ⟨g, 0, none⟩) n cap (pre ++ y :: post) := by
  have R0 := (h.row.stored (pre.length * 5 + 0) (.slice y.oa y.on y.oc)).1
  rw [cBs_set pre x ⟨y.oa, y.on, y.oc, x.o, x.K, x.N, x.S, x.za, x.zn, x.zc, x.z⟩ post 0 (.slice y.oa y.on y.oc) (by omega) rfl] at R0
  have R1 := (R0.stored (pre.length * 5 + 1) (.int .i64 y.K)).1
  rw [cBs_set pre ⟨y.oa, y.on, y.oc, x.o, x.K, x.N, x.S, x.za, x.zn, x.zc, x.z⟩ ⟨y.oa, y.on, y.oc, x.o, y.K, x.N, x.S, x.za, x.zn, x.zc, x.z⟩ post 1 (.int .i64 y.K) (by omega) rfl] at R1
  have R2 := (R1.stored (pre.length * 5 + 2) (.int .i64 y.N)).1
  rw [cBs_set pre ⟨y.oa, y.on, y.oc, x.o, y.K, x.N, x.S, x.za, x.zn, x.zc, x.z⟩ ⟨y.oa, y.on, y.oc, x.o, y.K, y.N, x.S, x.za, x.zn, x.zc, x.z⟩ post 2 (.int .i64 y.N) (by omega) rfl] at R2
  have R3 := (R2.stored (pre.length * 5 + 3) (.string y.S)).1
  rw [cBs_set pre ⟨y.oa, y.on, y.oc, x.o, y.K, y.N, x.S, x.za, x.zn, x.zc, x.z⟩ ⟨y.oa, y.on, y.oc, x.o, y.K, y.N, y.S, x.za, x.zn, x.zc, x.z⟩ post 3 (.string y.S) (by omega) rfl] at R3
  have R4 := (R3.stored (pre.length * 5 + 4) (.slice y.za y.zn y.zc)).1
  rw [cBs_set pre ⟨y.oa, y.on, y.oc, x.o, y.K, y.N, y.S, x.za, x.zn, x.zc, x.z⟩ y post 4 (.slice y.za y.zn y.zc) (by omega) rfl, Nat.add_zero] at R4
  have O : Only [g] w (((((w.setCell ⟨g, pre.length * 5, none⟩ (.slice y.oa y.on y.oc)).setCell ⟨g, pre.length * 5 + 1, none⟩ (.int .i64 y.K)).setCell ⟨g, pre.length * 5 + 2, none⟩ (.int .i64 y.N)).setCell ⟨g, pre.length * 5 + 3, none⟩ (.string y.S)).setCell ⟨g, pre.length * 5 + 4, none⟩ (.slice y.za y.zn y.zc)) :=
    ((((Only.set _ _ _ _).trans (Only.set _ _ _ _)).trans (Only.set _ _ _ _)).trans (Only.set _ _ _ _)).trans (Only.set _ _ _ _)
  have hne : (3 : Nat) ≠ 80 := by decide
  have ya : ∀ b ∈ y.blks, b ∉ [g] := by
    intro b hb hc
    have hc' : (Value.slice (some ⟨g, 0, none⟩) n cap).ownBlock = some b := by simp only [List.mem_singleton] at hc; simp [Value.ownBlock, hc]
    rcases List.mem_append.1 hb with hb | hb
    · exact apart_type hy.own.o h.row hne (mem_blkL.2 hb) hc'
    · exact apart_type hy.own.z h.row hne (mem_blkL.2 hb) hc'
  have keep : ∀ z, z ∈ pre ++ x :: post → BOwn (((((w.setCell ⟨g, pre.length * 5, none⟩ (.slice y.oa y.on y.oc)).setCell ⟨g, pre.length * 5 + 1, none⟩ (.int .i64 y.K)).setCell ⟨g, pre.length * 5 + 2, none⟩ (.int .i64 y.N)).setCell ⟨g, pre.length * 5 + 3, none⟩ (.string y.S)).setCell ⟨g, pre.length * 5 + 4, none⟩ (.slice y.za y.zn y.zc)) base z :=
    fun z hz => (h.item z hz).only O (h.type_apart hz)
  refine ⟨R4, ?_, ?_⟩
  · intro z hz
    rcases List.mem_append.1 hz with hz | hz
    · exact keep z (List.mem_append_left _ hz)
    · rcases List.mem_cons.1 hz with rfl | hz
      · exact hy.own.only O ya
      · exact keep z (List.mem_append_right _ (List.mem_cons_of_mem _ hz))
  · have ha := h.apart
    rw [List.flatMap_append, List.flatMap_cons] at ha ⊢
    obtain ⟨h1, h2, h3⟩ := List.nodup_append.1 ha
    obtain ⟨-, h5, -⟩ := List.nodup_append.1 h2
    refine List.nodup_append.2 ⟨h1, List.nodup_append.2 ⟨hy.nd, h5, ?_⟩, ?_⟩
    · intro a ha b hb e
      subst e
      obtain ⟨z, hz, hb⟩ := List.mem_flatMap.1 hb
      exact hap z (.inr hz) a hb ha
    · intro a ha b hb e
      subst e
      rcases List.mem_append.1 hb with hb | hb
      · obtain ⟨z, hz, ha⟩ := List.mem_flatMap.1 ha
        exact hap z (.inl hz) a ha hb
      · exact h3 a ha a (List.mem_append_right _ hb) rfl

/-- k of n binds are copied. -/
def Half (w wr : World) (l : List BI) (n k : Nat) : Prop :=
  ∃ ys : List BI, ys.length = k ∧ ys.map BI.d = (l.take k).map BI.d ∧ ys.map BI.wt = (l.take k).map BI.wt ∧ BOwns wr w.heap.size (some ⟨w.heap.size, 0, none⟩) n n (ys ++ List.replicate (n - k) BI.zero)

theorem BOwns.set_below {w : World} {base : Nat} {ao : Option Addr} {n cap : Nat} {l : List BI} {g j : Nat} {u : Value} (h : BOwns w base ao n cap l) (hg : g < base) : BOwns (w.setCell ⟨g, j, none⟩ u) base ao n cap l :=
  h.only (Only.set _ _ _ _) (fun b hb hc => by have := (h.blk b hb).1; simp only [List.mem_singleton] at hc; omega)

end Go.Proofs.YtamglfhnhjgdjaaGreatDoor
