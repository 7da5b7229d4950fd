/-
  The specification's GetOid by its contract.
-/
import Derived.Test.YtfjojchenmdhdaaOidNum
import Derived.Test.YtfjojchenmdhdaaOidOk
import Derived.Test.YtfjojchenmdhdaaIHelp
namespace Go.Proofs.Ytfjojchenmdhdaa
open Go.RowKit

/-- What is read of a number when k groups are behind it, and whether it goes on. -/
structure Inn (z : List Int) (p k : Nat) (x : Int) (mo : Bool) : Prop where
  k4 : k ≤ 4
  le : p + k ≤ z.length
  lo : 0 ≤ x
  hi : x.toNat < 128 ^ k
  go : mo = true → Rd (z.drop p) k x.toNat
  done : mo = false → 1 ≤ k ∧ dec 0 (z.drop p) = (x.toNat, z.drop (p + k)) ∧ ((groups x.toNat).length = k → z.drop p = groups x.toNat ++ z.drop (p + k))

/-- The four variables of the inner loop. -/
def Inner (z : List Int) (p : Nat) (t5 t6 t7 t8 : Value) : Prop := ∃ (k : Nat) (x : Int) (mo : Bool), t5 = .int .i64 ((p + k : Nat) : Int) ∧ t6 = .int .i64 x ∧ t7 = .int .i64 (k : Int) ∧ t8 = .bool mo ∧ Inn z p k x mo

theorem Inn.start {z : List Int} {p : Nat} (h : p ≤ z.length) : Inn z p 0 0 true := ⟨by omega, by omega, by omega, by simp, fun _ => rd_start _, by intro h; cases h⟩

theorem Inn.small {z : List Int} {p k : Nat} {x : Int} {mo : Bool} (h : Inn z p k x mo) : x < 268435456 := by
  have h1 := h.hi
  have h2 : 128 ^ k ≤ 128 ^ 4 := Nat.pow_le_pow_right (by omega) h.k4
  have h3 := h.lo
  omega

theorem Inn.small3 {z : List Int} {p k : Nat} {x : Int} {mo : Bool} (h : Inn z p k x mo) (hk : k < 4) : x < 2097152 := by
  have h1 := h.hi
  have h2 : 128 ^ k ≤ 128 ^ 3 := Nat.pow_le_pow_right (by omega) (by omega)
  have h3 := h.lo
  omega

theorem Inn.more {z : List Int} {p k : Nat} {x y : Int} (h : Inn z p k x true) (hk : k < 4) (hl : p + k < z.length) (hy : z.getD (p + k) 0 = y) (h0 : 127 < y) (h1 : y ≤ 255) : Inn z p (k + 1) (x * 128 + y % 128) true where
  k4 := by omega
  le := by omega
  lo := by have := h.lo; omega
  hi := by have := h.hi; have := h.lo; rw [Nat.pow_succ]; omega
  go := fun _ => num_more (h.go rfl) hl h.lo hy (by omega) h1
  done := by intro h; cases h

theorem Inn.last {z : List Int} {p k : Nat} {x y : Int} (h : Inn z p k x true) (hk : k < 4) (hl : p + k < z.length) (hy : z.getD (p + k) 0 = y) (h0 : 0 ≤ y) (h1 : y ≤ 127) : Inn z p (k + 1) (x * 128 + y) false where
  k4 := by omega
  le := by omega
  lo := by have := h.lo; omega
  hi := by have := h.hi; have := h.lo; rw [Nat.pow_succ]; omega
  go := by intro h; cases h
  done := by
    intro _
    have hk : k < (z.drop p).length := by simp; omega
    have hz : (z.drop p).getD k 0 = y := by rw [getD_drop]; exact hy
    obtain ⟨e1, e2, _⟩ := rd_last (h.go rfl) hk hz h0 (by omega)
    have ev : x.toNat * 128 + y.toNat = (x * 128 + y).toNat := by have := h.lo; omega
    rw [ev, List.drop_drop] at e1 e2
    exact ⟨by omega, e1, e2⟩

theorem Inn.bad {z : List Int} {p k : Nat} {x : Int} (h : Inn z p k x true) (he : ¬ p + k < z.length ∨ ¬ k < 4) : NoNum (z.drop p) := by
  rcases he with he | he
  · exact num_end (h.go rfl) (by have := h.le; omega)
  · obtain rfl : k = 4 := by have := h.k4; omega
    intro m hm y
    exact no_end4 (h.go rfl).2.1 hm y

theorem Inn.bad_size {z : List Int} {p k : Nat} {x : Int} (h : Inn z p k x false) (hl : (groups x.toNat).length ≠ k) : NoNum (z.drop p) := by
  obtain ⟨_, e1, _⟩ := h.done rfl
  rw [← List.drop_drop] at e1
  exact Go.Proofs.Ytfjojchenmdhdaa.bad_size e1 (by have := h.le; simp; omega) hl

/-- What is read of a name. -/
structure Out (z : List Int) (p : Nat) (o : List Int) : Prop where
  le : p ≤ z.length
  len : o.length ≤ 11
  rng : ∀ x ∈ o, 0 ≤ x ∧ x < 268435456
  is : flatO o ++ z.drop p = z

theorem Out.start (z : List Int) : Out z 0 [] := ⟨Nat.zero_le _, by simp, by simp, by simp [flatO]⟩
theorem Out.none {z : List Int} {p : Nat} {o : List Int} (h : Out z p o) (hp : p < z.length) (hn : NoNum (z.drop p)) : getO z = none :=
  getO_none (none_bad h.is (fun x hx => (h.rng x hx).1) (by intro e; have := congrArg List.length e; simp at this; omega) hn)
theorem Out.more {z : List Int} {p k : Nat} {o : List Int} {x : Int} (h : Out z p o) (ho : o.length ≤ 10) (hi : Inn z p k x false) (hl : (groups x.toNat).length = k) : Out z (p + k) (o ++ [x]) where
  le := hi.le
  len := by simp; omega
  rng := by
    intro y hy
    rcases List.mem_append.1 hy with h1 | h1
    · exact h.rng y h1
    · simp at h1; rw [h1]; exact ⟨hi.lo, hi.small⟩
  is := by
    obtain ⟨_, _, e2⟩ := hi.done rfl
    rw [flat_snoc, List.append_assoc, ← e2 hl]; exact h.is
theorem Out.long {z : List Int} {p : Nat} {o : List Int} (h : Out z p o) (ho : 10 < o.length) : getO z = Option.none :=
  getO_none (none_long h.is (fun x hx => (h.rng x hx).1) (.inl ho))
theorem Out.end {z : List Int} {o : List Int} (h : Out z z.length o) : getO z = if oidOk o = true then some o else Option.none := by
  have hf : flatO o = z := by have := h.is; simpa using this
  by_cases hok : oidOk o = true
  · rw [if_pos hok]; exact getO_some hok hf
  · rw [if_neg hok]; exact getO_none (none_not hf (fun x hx => (h.rng x hx).1) hok)

set_option maxRecDepth 100000 in
set_option maxHeartbeats 2000000 in
theorem specGetO_made (a1 : Option Addr) (l1 c1 : Nat) (z1 : List Int) (r : Option (List Int)) (hr : getO z1 = r) (w : World) (h1 : Row w a1 l1 c1 z1) (hs : l1 ≤ 1048576) :
    Calls Try.prog 45 #[.slice a1 l1 c1] w fun e w' => ∃ ao cap, e = .returned (.tuple #[.slice ao (r.getD []).length cap, .bool r.isSome]) ∧
      w'.ownsRow w.heap.size 3 1 (.slice ao (r.getD []).length cap) (r.getD []).length (cI (r.getD [])) ∧ Below w.heap.size w w' := by
  obtain ⟨i0, hi, hz0, hz1, hz2⟩ := info_parts Try.infoI64
  have s1 := h1.size
  have hby := h1.byte
  have HR := hide hr
  have hcell := h1.cell
  have hout := Out.start z1
  clear hr h1
  go_enter Try.func45, Try.ntmps45
  go_wp2
  go_loopw [4, 5] (fun v i wr => ∃ (p : Nat) (o : List Int), i = .int .i64 p ∧ Out z1 p o ∧ wr.ownsRow w.heap.size 3 1 v o.length (cI o) ∧ Below w.heap.size w wr) (fun _ i _ => l1 - (intOf i).toNat)
  case atStart => exact ⟨0, [], rfl, hout, World.ownsRow_lit w #[] 0 (Nat.le_refl _) (Nat.zero_le _) rfl, (Below.refl _ _).alloc (Nat.le_refl _) _⟩
  case round =>
    obtain ⟨p, o, rfl, ho, how, hb⟩ := hrel
    clear hout
    have hle := ho.le
    have hol := ho.len
    have hbw := hb.size
    rw [s1] at hle
    obtain ⟨ao, cp, rfl⟩ := own_shape how
    have hoI : I64s o := fun y hy => by have := ho.rng y hy; omega
    by_cases hlt : p < l1
    · rcases hcell with h0 | ⟨b, off, rfl, hc⟩
      · omega
      have hc' : ∀ i, i < l1 → wr.cell? ⟨b, off + i, none⟩ = some (.int .u8 (z1.getD i 0)) := fun i hi => by rw [hb.cell (block_lt (hc i hi))]; exact hc i hi
      have HC := hide hc'
      clear hc hc'
      by_cases ho10 : o.length ≤ 10
      · have hst := Inn.start (z := z1) (p := p) (by omega)
        go_wp2
        go_loop [5, 6, 7, 8] (fun t5 t6 t7 t8 => Inner z1 p t5 t6 t7 t8) (fun i _ _ _ => l1 - (intOf i).toNat)
        case atStart => exact ⟨0, 0, true, by simp, rfl, rfl, rfl, hst⟩
        case round =>
          obtain ⟨k, x, mo, rfl, rfl, rfl, rfl, hin⟩ := hrel
          clear hst
          have hk4 := hin.k4
          have hkl := hin.le
          have hxl := hin.lo
          have hxh := hin.small
          rw [s1] at hkl
          cases mo with
          | false =>
            generalize hG : groups x.toNat = G
            have HG := hide hG
            have hg4 := groups_four (n := x.toNat) (by omega)
            rw [hG] at hg4
            clear hG
            have HI := hide hin
            clear hin
            go_wp2_with fail
            refine (specGroup_made x G HG.out _ hxl hxh).mono ?_
            rintro e w2 ⟨ao2, cp2, rfl, -, r2, hb2⟩
            have hs2 := hb2.size
            have how2 := own_below how hb2
            have hbn := hb.trans (hb2.mono hbw)
            clear r2
            by_cases hsz : G.length = k
            · have hne : ((G.length : Int) != (k : Int)) = false := by simp [hsz]
              have hmo : Out z1 (p + k) (o ++ [x]) := ho.more ho10 HI.out (by rw [HG.out]; exact hsz)
              have HM := hide hmo
              have hk1 := (HI.out.done rfl).1
              clear hmo HI HG
              go_wp2_with (at_builtin; refine wpList_append_irow _ rfl _ _ 24 rfl w.heap.size Try.underlying24 Try.infoI64 _ o.length o rfl (how2.alloc _) hoI _ 1 1 [x] rfl (irow_one w2 x (by omega)) (by omega) (by simp; omega) ?_)
              intro ao3 cp3 w3 how3 r3 hb3
              have hb4 : Below w.heap.size w w3 := (hbn.alloc (by omega) _).trans hb3
              have how4 : w3.ownsRow w.heap.size 3 1 (.slice ao3 (o.length + 1) cp3) (o ++ [x]).length (cI (o ++ [x])) := by
                rw [List.length_append]; exact how3
              clear how how2 how3 r3 hb hb2 hb3 hbn
              go_wp2
              go_roundw
              case rel => exact ⟨p + k, _, by go_num, HM.out, how4, hb4⟩
              case measure => simp [intOf]; omega
            · have hne : ((G.length : Int) != (k : Int)) = true := by simp; omega
              have hno := ho.none (by omega) (HI.out.bad_size (by rw [HG.out]; exact hsz))
              rw [HR.out] at hno
              subst hno
              clear HI HG
              go_wp2
              go_ret2
              exact ⟨_, _, rfl, World.ownsRow_lit w2 #[] 0 (by omega) (Nat.zero_le _) rfl, hbn.alloc (by omega) _⟩
          | true =>
            by_cases hlk : p + k < l1
            · by_cases hk : k < 4
              · have cy := HC.out (p + k) hlk
                have bz := hby.at (p + k)
                have hx3 := hin.small3 hk
                generalize hy : z1.getD (p + k) 0 = y at cy bz
                have HY := hide hy
                clear hy
                have e1 := and127b y bz
                have e2 := or_group x (y % 128) ⟨hxl, by omega⟩ (by omega)
                by_cases hz : 127 < y
                · have HI := hide (hin.more hk (by omega) HY.out hz bz.2)
                  clear hin
                  go_wp2
                  go_round
                  case rel =>
                    refine ⟨_, _, _, _, ?_, rfl, rfl, rfl, rfl⟩
                    exact ⟨k + 1, _, true, by rw [← Nat.add_assoc]; go_num, rfl, by go_num, rfl, HI.out⟩
                  case measure => simp [intOf]; omega
                · have HI := hide (hin.last hk (by omega) HY.out bz.1 (by omega))
                  have hzm : y % 128 = y := by omega
                  rw [hzm] at e1 e2
                  clear hin hzm
                  go_wp2
                  go_round
                  case rel =>
                    refine ⟨_, _, _, _, ?_, rfl, rfl, rfl, rfl⟩
                    exact ⟨k + 1, _, false, by rw [← Nat.add_assoc]; go_num, rfl, by go_num, rfl, HI.out⟩
                  case measure => simp [intOf]; omega
              · have hno := ho.none (by omega) (hin.bad (.inr hk))
                rw [HR.out] at hno
                subst hno
                clear hin
                go_wp2
                go_ret2
                exact ⟨_, _, rfl, World.ownsRow_lit wr #[] 0 (by omega) (Nat.zero_le _) rfl, hb.alloc (by omega) _⟩
            · have hno := ho.none (by omega) (hin.bad (.inl (by omega)))
              rw [HR.out] at hno
              subst hno
              clear hin
              go_wp2
              go_ret2
              exact ⟨_, _, rfl, World.ownsRow_lit wr #[] 0 (by omega) (Nat.zero_le _) rfl, hb.alloc (by omega) _⟩
      · have hno := ho.long (by omega)
        rw [HR.out] at hno
        subst hno
        have hne : ((p : Int) != (l1 : Int)) = true := by simp; omega
        go_wp2
        go_ret2
        exact ⟨_, _, rfl, World.ownsRow_lit wr #[] 0 (by omega) (Nat.zero_le _) rfl, hb.alloc (by omega) _⟩
    · obtain rfl : p = l1 := by omega
      have hrow := irow_own how hoI
      have hend : getO z1 = if oidOk o = true then some o else Option.none := by rw [← s1] at ho; exact ho.end
      rw [HR.out] at hend
      cases hok : oidOk o with
      | true =>
        rw [hok, if_pos rfl] at hend
        subst hend
        have HOK := hide hok
        clear hok
        go_wp2_with fail
        refine (specOk_any _ _ _ o _ hrow).mono ?_
        rintro e w1 ⟨rfl, rfl⟩
        rw [HOK.out]
        go_wp2
        go_ret2
        exact ⟨_, _, rfl, how, hb⟩
      | false =>
        rw [hok, if_neg (by simp)] at hend
        subst hend
        have HOK := hide hok
        clear hok
        go_wp2_with fail
        refine (specOk_any _ _ _ o _ hrow).mono ?_
        rintro e w1 ⟨rfl, rfl⟩
        rw [HOK.out]
        go_wp2
        go_ret2
        exact ⟨_, _, rfl, World.ownsRow_lit w1 #[] 0 (by omega) (Nat.zero_le _) rfl, hb.alloc (by omega) _⟩

end Go.Proofs.Ytfjojchenmdhdaa
