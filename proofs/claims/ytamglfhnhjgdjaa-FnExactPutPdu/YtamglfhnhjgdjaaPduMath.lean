/-
  Requests as plain functions: their bytes, what is read of bytes; what is put comes back, what is read has these bytes.
-/
import Derived.Test.YtamglfhnhjgdjaaPartMath
import Derived.Test.YtamglfhnhjgdjaaValMath
namespace Go.Proofs.Ytamglfhnhjgdjaa
open Go.RowKit

/-- A name and its value. -/
structure BD where
  o : List Int
  K : Int
  N : Int
  S : ByteArray
  z : List Int

def okB (x : BD) : Bool := oidOk x.o && okV x.K x.N x.S x.z
/-- The bytes of one bind. -/
def putB (x : BD) : List Int := putV (putTlv [] 6 (putO x.o)) x.K x.N x.S x.z
/-- All binds behind b. -/
def putBs : List Int → List BD → List Int
  | b, [] => b
  | b, x :: r => putBs (putTlv b 48 (putB x)) r

def headP (id a b : Int) : List Int := putTlv (putTlv (putTlv [] 2 (putInt id)) 2 (putInt a)) 2 (putInt b)
def bodyP (id a b : Int) (bs : List BD) : List Int := putTlv (headP id a b) 48 (putBs [] bs)

def kindOk (k : Int) : Bool := decide (k = 160 ∨ k = 161 ∨ k = 162 ∨ k = 163 ∨ k = 165)
def okP (k id a b : Int) (bs : List BD) : Bool :=
  bs.all okB && (decide (k = 162 ∨ k = 165 ∨ (a = 0 ∧ b = 0)) && (kindOk k && (decide (-2147483648 ≤ id ∧ id ≤ 2147483647) && (decide (0 ≤ a ∧ a ≤ 1000) && (decide (0 ≤ b ∧ b ≤ 1000) && decide (bs.length ≤ 10))))))

/-- The bytes of a request; nothing of what is not right or too great. -/
def putP (k id a b : Int) (bs : List BD) : List Int :=
  if okP k id a b bs = true ∧ (putBs [] bs).length ≤ 250 ∧ (bodyP id a b bs).length ≤ 250 then putTlv [] k (bodyP id a b bs) else []

def getB (b : List Int) : Option BD :=
  match partM b 0 6 with
  | some (ob, nx) =>
    match getO ob, getV b nx with
    | some o, (K, N, S, z, end_, true) => if end_ = b.length then some ⟨o, K, N, S, z⟩ else none
    | _, _ => none
  | none => none
/-- All binds from a place on, f at most. -/
def getBs : Nat → List Int → Int → Option (List BD)
  | 0, zs, t => if t = zs.length then some [] else none
  | f + 1, zs, t =>
    if t = zs.length then some []
    else match partM zs t 48 with
      | some (b, nx) =>
        match getB b with
        | some x => (getBs f zs nx).map (x :: ·)
        | none => none
      | none => none

structure PD where
  k : Int
  id : Int
  a : Int
  b : Int
  bs : List BD

/-- What is behind the numbers. -/
def getTail (body : List Int) : Option (Int × Int × Int × List BD) :=
  match numM body 0 with
  | some (id, t1) => match numM body t1 with
    | some (a, t2) => match numM body t2 with
      | some (b, t3) => match partM body t3 48 with
        | some (zs, t4) => if t4 = body.length then (getBs 10 zs 0).map fun l => (id, a, b, l) else none
        | none => none
      | none => none
    | none => none
  | none => none

def getP (z : List Int) : Option PD :=
  if (getTlv z 0).2.2.2 = true ∧ (getTlv z 0).2.2.1 = z.length then
    match getTail (getTlv z 0).2.1 with
    | some (id, a, b, l) => if okP (getTlv z 0).1 id a b l = true then some ⟨(getTlv z 0).1, id, a, b, l⟩ else none
    | none => none
  else none

theorem putO_ok6 (o : List Int) : TlvOk 6 (putO o) := by have := put_length o; unfold TlvOk; omega

theorem putB_eq (x : BD) (h : okB x = true) : putB x = tlvB 6 (putO x.o) ++ tlvB x.K (bodyV x.K x.N x.S x.z) ∧ TlvOk x.K (bodyV x.K x.N x.S x.z) := by
  unfold okB at h
  rw [Bool.and_eq_true] at h
  have hT : TlvOk x.K (bodyV x.K x.N x.S x.z) := by
    have hs := body_small h.2
    unfold TlvOk
    rcases okV_ways h.2 with ⟨hk, -⟩ | ⟨hk, -⟩ | ⟨hk, -⟩ | ⟨hk, -⟩ <;> omega
  refine ⟨?_, hT⟩
  unfold putB putV
  rw [if_pos h.2, put_part hT, put_part (putO_ok6 x.o)]
  rfl

theorem getB_put {x : BD} (h : okB x = true) : getB (putB x) = some x := by
  have hok := h
  unfold okB at h
  rw [Bool.and_eq_true] at h
  obtain ⟨e, hT⟩ := putB_eq x hok
  have h1 : getTlv (putB x) 0 = (6, putO x.o, ((tlvB 6 (putO x.o)).length : Int), true) := by
    rw [e]
    have := tlv_mid [] 6 (putO x.o) (tlvB x.K (bodyV x.K x.N x.S x.z)) (putO_ok6 x.o)
    simpa using this
  have h2 : getV (putB x) ((tlvB 6 (putO x.o)).length : Int) = (x.K, x.N, x.S, x.z, ((putB x).length : Int), true) := by
    have := val_back (putTlv [] 6 (putO x.o)) h.2
    rw [show (putTlv [] 6 (putO x.o)) = tlvB 6 (putO x.o) by rw [put_part (putO_ok6 x.o)]; rfl] at this
    have e2 : putB x = putV (tlvB 6 (putO x.o)) x.K x.N x.S x.z := by
      unfold putB; rw [show (putTlv [] 6 (putO x.o)) = tlvB 6 (putO x.o) by rw [put_part (putO_ok6 x.o)]; rfl]
    rw [e2]; exact this
  unfold getB
  rw [part_of h1]
  simp only [getO_put h.1, h2, if_true]

theorem getB_read {b : List Int} (hb : Byt b) {x : BD} (h : getB b = some x) : okB x = true ∧ putB x = b := by
  unfold getB at h
  split at h
  · rename_i ob nx hp
    have hT := part_some hp
    obtain ⟨p, q, hp0, hq, hpq, hql, hok, hlie⟩ := tlv_lies hb hT
    have hp0' : p = 0 := by omega
    subst hp0'
    split at h
    · rename_i o K N S z end_ ho hv
      split at h
      · rename_i hend
        simp only [Option.some.injEq] at h
        subst h
        obtain ⟨hokv, p2, q2, hp2, hq2, hpq2, hql2, hpl2, hput⟩ := val_read hb hv
        have e1 : p2 = q := by omega
        have e2 : q2 = b.length := by omega
        subst e1 e2
        have hO := getO_is ho
        refine ⟨by unfold okB; rw [hO.1, hokv]; rfl, ?_⟩
        unfold putB
        rw [show putTlv [] 6 (putO o) = tlvB 6 ob by rw [hO.2, put_part hok]; rfl]
        have hval : putV [] K N S z = b.drop p2 := by rw [hput, List.take_of_length_le (by simp)]
        have hcat : putV (tlvB 6 ob) K N S z = tlvB 6 ob ++ putV [] K N S z := by
          have hT2 : TlvOk K (bodyV K N S z) := by
            have hs := body_small hokv
            unfold TlvOk
            rcases okV_ways hokv with ⟨hk, -⟩ | ⟨hk, -⟩ | ⟨hk, -⟩ | ⟨hk, -⟩ <;> omega
          unfold putV
          rw [if_pos hokv, if_pos hokv, put_part hT2, put_part hT2]
          rfl
        rw [hcat, hval]
        simpa using hlie.symm
      · cases h
    · cases h
  · cases h

def flatB (bs : List BD) : List Int := (bs.map fun x => tlvB 48 (putB x)).flatten

theorem putBs_append (bs : List BD) : ∀ b, (∀ x ∈ bs, TlvOk 48 (putB x)) → putBs b bs = b ++ flatB bs := by
  induction bs with
  | nil => intro b _; simp [putBs, flatB]
  | cons x r ih =>
    intro b h2
    unfold putBs
    rw [ih _ (fun y hy => h2 y (List.mem_cons_of_mem _ hy)), put_part (h2 x (List.mem_cons_self ..))]
    simp [flatB]

theorem flatB_cons (x : BD) (r : List BD) : flatB (x :: r) = tlvB 48 (putB x) ++ flatB r := by simp [flatB]

theorem putB_small {x : BD} (h : okB x = true) : (putB x).length ≤ 70 := by
  have hok := h
  unfold okB at h
  rw [Bool.and_eq_true] at h
  obtain ⟨e, _⟩ := putB_eq x hok
  rw [e]
  have h1 := put_length x.o
  have h2 : (bodyV x.K x.N x.S x.z).length ≤ 30 := by
    unfold bodyV
    split
    · have := putInt_length x.N; omega
    · split
      · rw [strB_length]
        rcases okV_ways h.2 with ⟨-, -, hS, -⟩ | ⟨-, -, hS, -⟩ | ⟨-, hl, -, -⟩ | ⟨-, -, -, hS⟩
        · rw [hS]; exact Nat.zero_le _
        · rw [hS]; exact Nat.zero_le _
        · omega
        · rw [hS]; exact Nat.zero_le _
      · split
        · have := put_length x.z; omega
        · simp
  have h3 := lenB_le (putO x.o).length
  have h4 := lenB_le (bodyV x.K x.N x.S x.z).length
  unfold tlvB
  simp only [List.length_append, List.length_cons, List.length_nil]
  omega

theorem putB_ok48 {x : BD} (h : okB x = true) : TlvOk 48 (putB x) := by have := putB_small h; unfold TlvOk; omega

/-- All binds come back. -/
theorem getBs_back : ∀ (bs : List BD) (f : Nat) (pre : List Int), (∀ x ∈ bs, okB x = true) → bs.length ≤ f → getBs f (pre ++ flatB bs) pre.length = some bs := by
  intro bs
  induction bs with
  | nil => intro f pre _ _; cases f <;> simp [getBs, flatB]
  | cons x r ih =>
    intro f pre hok hf
    cases f with
    | zero => simp at hf
    | succ g =>
      have hx := hok x (List.mem_cons_self ..)
      have h1 := tlv_mid pre 48 (putB x) (flatB r) (putB_ok48 hx)
      have h2 := ih g (pre ++ tlvB 48 (putB x)) (fun y hy => hok y (List.mem_cons_of_mem _ hy)) (by simp at hf; omega)
      have hne : ¬ ((pre.length : Int) = ((pre ++ flatB (x :: r)).length : Nat)) := by
        have := tlvB_len 48 (putB x)
        rw [flatB_cons]
        simp only [List.length_append]
        omega
      unfold getBs
      rw [if_neg hne, flatB_cons, part_of h1]
      simp only [getB_put hx]
      rw [show pre ++ (tlvB 48 (putB x) ++ flatB r) = (pre ++ tlvB 48 (putB x)) ++ flatB r by simp, show ((pre.length + (tlvB 48 (putB x)).length : Nat) : Int) = ((pre ++ tlvB 48 (putB x)).length : Nat) by simp, h2]
      rfl

/-- What is read of binds has these bytes. -/
theorem getBs_read : ∀ (f : Nat) (zs : List Int) (t : Int) (l : List BD), Byt zs → 0 ≤ t → t ≤ zs.length → getBs f zs t = some l → (∀ x ∈ l, okB x = true) ∧ l.length ≤ f ∧ zs.drop t.toNat = flatB l := by
  intro f
  induction f with
  | zero =>
    intro zs t l hz h0 h1 h
    unfold getBs at h
    split at h
    · rename_i e
      cases h
      refine ⟨(by intro x hx; cases hx), Nat.le_refl _, ?_⟩
      rw [e]; simp [flatB]
    · cases h
  | succ f ih =>
    intro zs t l hz h0 h1 h
    unfold getBs at h
    split at h
    · rename_i e
      cases h
      refine ⟨(by intro x hx; cases hx), Nat.zero_le _, ?_⟩
      rw [e]; simp [flatB]
    · split at h
      · rename_i b nx hp
        have hT := part_some hp
        obtain ⟨p, q, rfl, rfl, hpq, hql, hok, hlie⟩ := tlv_lies hz hT
        split at h
        · rename_i x hx
          obtain ⟨hxo, hxp⟩ := getB_read (byt_of_part hz hT) hx
          cases hr : getBs f zs q with
          | none => rw [hr] at h; cases h
          | some r =>
            rw [hr] at h
            simp only [Option.map_some, Option.some.injEq] at h
            subst h
            obtain ⟨i1, i2, i3⟩ := ih zs q r hz (by omega) (by omega) hr
            refine ⟨?_, by simp; omega, ?_⟩
            · intro y hy
              rcases List.mem_cons.1 hy with rfl | hy
              · exact hxo
              · exact i1 y hy
            · rw [flatB_cons, hxp, ← i3]
              simpa using hlie
        · cases h
      · cases h

theorem headP_eq (id a b : Int) : headP id a b = numB id ++ (numB a ++ numB b) := by
  unfold headP numB
  rw [put_part (numB_ok id), put_part (numB_ok a), put_part (numB_ok b)]
  simp
theorem bodyP_eq {id a b : Int} {bs : List BD} (h : (putBs [] bs).length ≤ 250) : bodyP id a b bs = numB id ++ (numB a ++ (numB b ++ tlvB 48 (putBs [] bs))) := by
  unfold bodyP
  rw [put_part (by unfold TlvOk; omega), headP_eq]
  simp

theorem okP_parts {k id a b : Int} {bs : List BD} (h : okP k id a b bs = true) :
    (∀ x ∈ bs, okB x = true) ∧ (k = 162 ∨ k = 165 ∨ (a = 0 ∧ b = 0)) ∧ (k = 160 ∨ k = 161 ∨ k = 162 ∨ k = 163 ∨ k = 165) ∧ (-2147483648 ≤ id ∧ id ≤ 2147483647) ∧ (0 ≤ a ∧ a ≤ 1000) ∧ (0 ≤ b ∧ b ≤ 1000) ∧ bs.length ≤ 10 := by
  unfold okP kindOk at h
  simp only [Bool.and_eq_true, List.all_eq_true, decide_eq_true_eq] at h
  exact h

theorem tail_back {id a b : Int} {bs : List BD} (hok : ∀ x ∈ bs, okB x = true) (hl : bs.length ≤ 10) (hi : -2147483648 ≤ id ∧ id ≤ 2147483647) (ha : -2147483648 ≤ a ∧ a ≤ 2147483647) (hb : -2147483648 ≤ b ∧ b ≤ 2147483647) (h : (putBs [] bs).length ≤ 250) :
    getTail (bodyP id a b bs) = some (id, a, b, bs) := by
  have hB : putBs [] bs = flatB bs := by rw [putBs_append bs [] (fun x hx => putB_ok48 (hok x hx))]; rfl
  have e := bodyP_eq (id := id) (a := a) (b := b) h
  have n1 : numM (bodyP id a b bs) 0 = some (id, ((numB id).length : Int)) := by
    have := numM_back [] (numB a ++ (numB b ++ tlvB 48 (putBs [] bs))) id
    rw [clip_in hi] at this
    rw [e]; simpa using this
  have n2 : numM (bodyP id a b bs) ((numB id).length : Int) = some (a, (((numB id) ++ (numB a)).length : Int)) := by
    have := numM_back (numB id) (numB b ++ tlvB 48 (putBs [] bs)) a
    rw [clip_in ha] at this
    rw [e, this]; simp
  have n3 : numM (bodyP id a b bs) (((numB id) ++ (numB a)).length : Int) = some (b, (((numB id) ++ (numB a) ++ (numB b)).length : Int)) := by
    have := numM_back (numB id ++ numB a) (tlvB 48 (putBs [] bs)) b
    rw [clip_in hb] at this
    rw [e, show numB id ++ (numB a ++ (numB b ++ tlvB 48 (putBs [] bs))) = (numB id ++ numB a) ++ (numB b ++ tlvB 48 (putBs [] bs)) by simp, this]
    simp; omega
  have n4 : partM (bodyP id a b bs) (((numB id) ++ (numB a) ++ (numB b)).length : Int) 48 = some (putBs [] bs, ((bodyP id a b bs).length : Int)) := by
    have := tlv_mid (numB id ++ numB a ++ numB b) 48 (putBs [] bs) [] (by unfold TlvOk; omega)
    rw [List.append_nil] at this
    rw [e, show numB id ++ (numB a ++ (numB b ++ tlvB 48 (putBs [] bs))) = (numB id ++ numB a ++ numB b) ++ tlvB 48 (putBs [] bs) by simp]
    rw [part_of this]
    simp; omega
  have n5 := getBs_back bs 10 [] hok hl
  unfold getTail
  rw [n1]
  simp only []
  rw [n2]
  simp only []
  rw [n3]
  simp only []
  rw [n4]
  simp only [if_true]
  rw [hB]
  rw [List.nil_append] at n5
  rw [show (([] : List Int).length : Int) = 0 from rfl] at n5
  rw [n5]
  rfl

/-- A request that has bytes comes back of them. -/
theorem pdu_back {k id a b : Int} {bs : List BD} (h : okP k id a b bs = true) (h1 : (putBs [] bs).length ≤ 250) (h2 : (bodyP id a b bs).length ≤ 250) : getP (putP k id a b bs) = some ⟨k, id, a, b, bs⟩ := by
  obtain ⟨c1, c2, c3, c4, c5, c6, c7⟩ := okP_parts h
  have e : putP k id a b bs = tlvB k (bodyP id a b bs) := by
    unfold putP
    rw [if_pos ⟨h, h1, h2⟩, put_part (by unfold TlvOk; omega)]
    rfl
  have hT : getTlv (putP k id a b bs) 0 = (k, bodyP id a b bs, ((putP k id a b bs).length : Int), true) := by
    have := tlv_mid [] k (bodyP id a b bs) [] (by unfold TlvOk; omega)
    rw [e]
    simpa using this
  unfold getP
  rw [hT]
  simp only [and_self, if_true]
  rw [tail_back c1 c7 c4 (by omega) (by omega) h1]
  simp [h]

theorem tail_read {z : List Int} (hz : Byt z) {id a b : Int} {l : List BD} (h : getTail z = some (id, a, b, l)) : (∀ x ∈ l, okB x = true) ∧ l.length ≤ 10 ∧ (putBs [] l).length ≤ 250 ∧ bodyP id a b l = z := by
  unfold getTail at h
  split at h
  · rename_i i1 t1 e1
    split at h
    · rename_i i2 t2 e2
      split at h
      · rename_i i3 t3 e3
        split at h
        · rename_i zs t4 e4
          split at h
          · rename_i hend
            obtain ⟨p1, q1, hp1, rfl, hl1, hm1, d1⟩ := numM_read hz e1
            obtain ⟨p2, q2, hp2, rfl, hl2, hm2, d2⟩ := numM_read hz e2
            obtain ⟨p3, q3, hp3, rfl, hl3, hm3, d3⟩ := numM_read hz e3
            have hT := part_some e4
            obtain ⟨p4, q4, hp4, hq4, hl4, hm4, hok4, d4⟩ := tlv_lies hz hT
            cases hr : getBs 10 zs 0 with
            | none => rw [hr] at h; cases h
            | some r =>
              rw [hr] at h
              simp only [Option.map_some, Option.some.injEq, Prod.mk.injEq] at h
              obtain ⟨rfl, rfl, rfl, rfl⟩ := h
              obtain ⟨c1, c2, c3⟩ := getBs_read 10 zs 0 r (byt_of_part hz hT) (by omega) (by omega) hr
              have ez : zs = flatB r := by simpa using c3
              have hB : putBs [] r = zs := by rw [putBs_append r [] (fun x hx => putB_ok48 (c1 x hx)), ez]; rfl
              have hzl : zs.length ≤ 250 := by unfold TlvOk at hok4; omega
              refine ⟨c1, c2, by rw [hB]; exact hzl, ?_⟩
              rw [bodyP_eq (by rw [hB]; exact hzl), hB]
              have z1 : p1 = 0 := by omega
              have z2 : p2 = q1 := by omega
              have z3 : p3 = q2 := by omega
              have z4 : p4 = q3 := by omega
              have z5 : q4 = z.length := by omega
              subst z1 z2 z3 z4 z5
              rw [List.drop_length, List.append_nil] at d4
              rw [← d4, ← d3, ← d2]
              simpa using d1.symm
          · cases h
        · cases h
      · cases h
    · cases h
  · cases h

/-- What is read is right, and has these bytes. -/
theorem pdu_read {z : List Int} (hz : Byt z) {x : PD} (h : getP z = some x) : okP x.k x.id x.a x.b x.bs = true ∧ putP x.k x.id x.a x.b x.bs = z ∧ z ≠ [] := by
  unfold getP at h
  split at h
  · rename_i hc
    rcases hT : getTlv z 0 with ⟨k, body, nx, ok⟩
    rw [hT] at h hc
    obtain ⟨hok, hnx⟩ := hc
    simp only at hok hnx h
    subst hok
    split at h
    · rename_i id a b l ht
      split at h
      · rename_i hokp
        simp only [Option.some.injEq] at h
        subst h
        obtain ⟨c1, c2, c3, c4⟩ := tail_read (byt_of_part hz hT) ht
        obtain ⟨p, q, hp, hq, hpq, hql, hokT, hlie⟩ := tlv_lies hz hT
        have hp0 : p = 0 := by omega
        have hq0 : q = z.length := by omega
        subst hp0 hq0
        rw [List.drop_length, List.append_nil] at hlie
        have hz' : z = tlvB k body := by simpa using hlie
        refine ⟨hokp, ?_, ?_⟩
        · show putP k id a b l = z
          unfold putP
          rw [c4, if_pos ⟨hokp, c3, by unfold TlvOk at hokT; omega⟩, put_part hokT, hz']
          rfl
        · intro e
          rw [e] at hpq
          simp at hpq
      · cases h
    · cases h
  · cases h

end Go.Proofs.Ytamglfhnhjgdjaa
