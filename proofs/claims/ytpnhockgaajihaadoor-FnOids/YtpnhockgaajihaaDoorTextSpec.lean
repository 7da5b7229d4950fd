/-
  The specification's l2Split and ParseOid by contracts.
-/
import Derived.Test.YtpnhockgaajihaaDoorTextNum
import Derived.Test.YtpnhockgaajihaaDoorIHelp
namespace Go.Proofs.YtpnhockgaajihaaDoor
open Go.RowKit

def cS (ws : List ByteArray) : List Value := ws.map Value.string
def lists (ws : List ByteArray) : List (List UInt8) := ws.map (·.data.toList)

theorem ext_list (s : ByteArray) (a b : Nat) : (s.extract a b).data.toList = (s.data.toList.drop a).take (b - a) := by rw [Go.Lib.extract_eq]

/-- Words on their way: the place, where the word at hand begins, the words that are read. -/
structure Wds (l : List UInt8) (k f : Nat) (ws : List ByteArray) : Prop where
  fk : f ≤ k
  le : k ≤ l.length
  dots : ∀ j, f ≤ j → j < k → l.getD j 0 ≠ 46
  is : splitD l = lists ws ++ splitD (l.drop f)
  len : ws.length ≤ f

theorem Wds.start (l : List UInt8) : Wds l 0 0 [] := ⟨Nat.le_refl _, Nat.zero_le _, by intro j h1 h2; omega, by simp [lists], Nat.le_refl _⟩
theorem Wds.skip {l : List UInt8} {k f : Nat} {ws : List ByteArray} (h : Wds l k f ws) (hk : k < l.length) (hd : l.getD k 0 ≠ 46) : Wds l (k + 1) f ws where
  fk := by have := h.fk; omega
  le := by omega
  dots := by
    intro j h1 h2
    by_cases hj : j = k
    · rw [hj]; exact hd
    · exact h.dots j h1 (by omega)
  is := h.is
  len := h.len

theorem mid_nodot {l : List UInt8} {k f : Nat} (hk : k ≤ l.length) (h : ∀ j, f ≤ j → j < k → l.getD j 0 ≠ 46) : ∀ b ∈ (l.drop f).take (k - f), b ≠ 46 := by
  intro b hb e
  obtain ⟨j, hj, hj2⟩ := List.mem_iff_getElem.1 hb
  have hj' : j < k - f := by simp at hj; omega
  have hl : f + j < l.length := by omega
  refine h (f + j) (by omega) (by omega) ?_
  rw [List.getElem_take, List.getElem_drop] at hj2
  rw [List.getD_eq_getElem?_getD, List.getElem?_eq_getElem hl, ← e, ← hj2]
  rfl

theorem Wds.word {s : ByteArray} {k f : Nat} {ws : List ByteArray} (h : Wds s.data.toList k f ws) (hk : k < s.data.toList.length) (hd : s.data.toList.getD k 0 = 46) : Wds s.data.toList (k + 1) (k + 1) (ws ++ [s.extract f k]) where
  fk := Nat.le_refl _
  le := by omega
  dots := by intro j h1 h2; omega
  is := by
    have e : s.data.toList.drop f = (s.data.toList.drop f).take (k - f) ++ 46 :: s.data.toList.drop (k + 1) := by
      have h1 := h.fk
      have h2 : (s.data.toList.drop f).drop (k - f) = 46 :: s.data.toList.drop (k + 1) := by
        rw [List.drop_drop, show f + (k - f) = k by omega, List.drop_eq_getElem_cons hk]
        congr 1
        rw [← hd, List.getD_eq_getElem?_getD, List.getElem?_eq_getElem hk]
        rfl
      rw [← h2, List.take_append_drop]
    rw [h.is, e, splitD_at _ _ (mid_nodot h.le h.dots)]
    simp [lists]
  len := by have := h.len; have := h.fk; simp; omega

theorem Wds.end {s : ByteArray} {f : Nat} {ws : List ByteArray} (h : Wds s.data.toList s.data.toList.length f ws) : splitD s.data.toList = lists (ws ++ [s.extract f s.size]) := by
  have hn := mid_nodot h.le h.dots
  have e : (s.data.toList.drop f).take (s.data.toList.length - f) = s.data.toList.drop f := List.take_of_length_le (by simp)
  rw [e] at hn
  rw [h.is, splitD_none _ hn]
  simp only [lists, List.map_append, List.map_cons, List.map_nil, ext_list]
  rw [← size_list, e]

/-- The whole loop: on its way, or behind its last round. -/
def Split (s : ByteArray) (k : Nat) (f : Int) (ws : List ByteArray) : Prop :=
  (∃ f' : Nat, f = (f' : Int) ∧ Wds s.data.toList k f' ws) ∨ (k = s.size + 1 ∧ lists ws = splitD s.data.toList)

theorem str_one (w : World) (x : ByteArray) : ∀ j u, [Value.string x][j]? = some u → (w.alloc (.cells #[.string x] 9)).cell? ((⟨w.heap.size, 0, none⟩ : Addr).add j) = some u := by
  intro j u hu
  cases j with
  | zero => simp at hu; subst hu; simp [Addr.add]
  | succ j => simp at hu

set_option maxRecDepth 100000 in
set_option maxHeartbeats 1000000 in
theorem specSplit_any (s : ByteArray) (w : World) (hs : s.size ≤ 1048576) :
    Calls Tryd.prog 34 #[.string s, .int .u8 46] w fun e w' => ∃ (v : Value) (ws : List ByteArray), e = .returned v ∧ lists ws = splitD s.data.toList ∧ w'.ownsRow w.heap.size 9 1 v ws.length (cS ws) ∧ Below w.heap.size w w' := by
  obtain ⟨i0, hi, hz0, hz1, hz2⟩ := info_parts Tryd.infoStr
  have hsz := size_list s
  have hst := Wds.start s.data.toList
  go_enter Tryd.func34, Tryd.ntmps34
  go_wp2
  go_loopw [5, 6, 7] (fun v fr i wr => ∃ (k : Nat) (f : Int) (ws : List ByteArray), k ≤ s.size + 1 ∧ i = .int .i64 k ∧ fr = .int .i64 f ∧ Split s k f ws ∧ ws.length ≤ k ∧ wr.ownsRow w.heap.size 9 1 v ws.length (cS ws) ∧ Below w.heap.size w wr) (fun _ _ i _ => s.size + 1 - (intOf i).toNat)
  case atStart => exact ⟨0, 0, [], Nat.zero_le _, rfl, rfl, .inl ⟨0, rfl, hst⟩, Nat.le_refl _, World.ownsRow_lit w #[] 0 (Nat.le_refl _) (Nat.zero_le _) rfl, (Below.refl _ _).alloc (Nat.le_refl _) _⟩
  case round =>
    obtain ⟨k, f, ws, hk, rfl, rfl, hsp, hwl, how, hb⟩ := hrel
    clear hst
    obtain ⟨ao, cp, rfl⟩ := own_shape how
    have hbw := hb.size
    by_cases hle : k ≤ s.size
    · rcases hsp with ⟨f', rfl, hW⟩ | ⟨he, _⟩
      · have hfk := hW.fk
        by_cases hlt : k < s.size
        · have hbk := byte_at s k hlt
          have hne : ((k : Int) == (s.size : Int)) = false := by rw [beq_eq_false_iff_ne]; omega
          by_cases hd : s.data.toList.getD k 0 = 46
          · have hsk : (s[k]'hlt).toNat = 46 := by rw [← hbk, hd]; rfl
            have HW := hide (hW.word (by omega) hd)
            have g1 : (0 : Int) ≤ f' := by omega
            have g2 : (f' : Int) ≤ k := by omega
            have g3 : (k : Int) ≤ s.size := by omega
            clear hbk hd hW
            go_wp2_with (at_builtin; refine wpList_append_own _ rfl _ _ 42 rfl w.heap.size 9 i0 (.string ⟨#[]⟩) 1 16 Tryd.underlying42 hi hz0 hz1 hz2 rfl (by decide) _ ws.length (cS ws) rfl (how.alloc _) ⟨wr.heap.size, 0, none⟩ 1 1 [.string (s.extract f' k)] rfl rfl (str_one _ _) ?c2 ?c3 ?c4 ?c5 ?_)
            case c2 => intro u hu; simp at hu; subst hu; rfl
            case c3 => unfold maxLen; omega
            case c4 => omega
            case c5 => simp; omega
            intro v1 w1 how1 hgr1 _
            have hlt1 := how.lt
            have hb1 : Below w.heap.size w w1 := (hb.alloc hbw _).grown hgr1 (by simp; omega) (by intro j hj; exact (hlt1 j hj).1)
            have how2 : w1.ownsRow w.heap.size 9 1 v1 (ws ++ [s.extract f' k]).length (cS (ws ++ [s.extract f' k])) := by
              rw [List.length_append]; simpa [cS] using how1
            clear how1 hgr1 how hb
            go_wp2
            go_roundw
            case rel => exact ⟨k + 1, _, _, by omega, by go_num, rfl, .inl ⟨k + 1, by go_num, HW.out⟩, by simp; omega, how2, hb1⟩
            case measure => simp [intOf]; omega
          · have hsk : ((((s[k]'hlt).toNat : Nat) : Int) == 46) = false := by
              rw [beq_eq_false_iff_ne, ← hbk]
              intro e
              apply hd
              exact byte_inj (n := 46) (by omega) (by omega)
            have HW := hide (hW.skip (by omega) hd)
            clear hbk hd hW
            go_wp2
            go_roundw
            case rel => exact ⟨k + 1, _, ws, by omega, by go_num, rfl, .inl ⟨f', rfl, HW.out⟩, by omega, how, hb⟩
            case measure => simp [intOf]; omega
        · obtain rfl : k = s.size := by omega
          rw [← hsz] at hW
          have HW := hide hW.end
          have heq : ((s.size : Int) == (s.size : Int)) = true := by simp
          have g1 : (0 : Int) ≤ f' := by omega
          have g2 : (f' : Int) ≤ s.size := by omega
          clear hW
          go_wp2_with (at_builtin; refine wpList_append_own _ rfl _ _ 42 rfl w.heap.size 9 i0 (.string ⟨#[]⟩) 1 16 Tryd.underlying42 hi hz0 hz1 hz2 rfl (by decide) _ ws.length (cS ws) rfl (how.alloc _) ⟨wr.heap.size, 0, none⟩ 1 1 [.string (s.extract f' s.size)] rfl rfl (str_one _ _) ?c2 ?c3 ?c4 ?c5 ?_)
          case c2 => intro u hu; simp at hu; subst hu; rfl
          case c3 => unfold maxLen; omega
          case c4 => omega
          case c5 => simp; omega
          intro v1 w1 how1 hgr1 _
          have hlt1 := how.lt
          have hb1 : Below w.heap.size w w1 := (hb.alloc hbw _).grown hgr1 (by simp; omega) (by intro j hj; exact (hlt1 j hj).1)
          have how2 : w1.ownsRow w.heap.size 9 1 v1 (ws ++ [s.extract f' s.size]).length (cS (ws ++ [s.extract f' s.size])) := by
            rw [List.length_append]; simpa [cS] using how1
          clear how1 hgr1 how hb
          go_wp2
          go_roundw
          case rel => exact ⟨s.size + 1, _, _, by omega, by go_num, rfl, .inr ⟨rfl, HW.out.symm⟩, by simp; omega, how2, hb1⟩
          case measure => simp [intOf]
      · omega
    · rcases hsp with ⟨f', rfl, hW⟩ | ⟨he, hws⟩
      · have := hW.le; omega
      · go_wp2
        go_ret
        exact ⟨_, ws, rfl, hws, how, hb⟩

/-- A row of one kind stays while one of another kind is written. -/
theorem own_apart {w w' : World} {b1 b2 : Nat} {e1 e2 : TypeId} {v1 v2 : Value} {n1 n2 : Nat} {x1 x2 : List Value} (h1 : w.ownsRow b1 e1 1 v1 n1 x1) (h2 : w.ownsRow b2 e2 1 v2 n2 x2) (hne : e1 ≠ e2) (hg : w.grownBy w' v2.ownBlock) : w'.ownsRow b1 e1 1 v1 n1 x1 := by
  refine h1.kept hg ?_
  cases hv : v1.ownBlock with
  | none => exact .inl rfl
  | some k =>
    refine .inr ?_
    intro e
    rcases h1.2 with ⟨rfl, _⟩ | ⟨g, cap, cur, rfl, _, hh, _⟩
    · cases hv
    · rcases h2.2 with ⟨rfl, _⟩ | ⟨g2, cap2, cur2, rfl, _, hh2, _⟩
      · cases e
      · simp [Value.ownBlock] at hv e
        subst hv
        subst e
        rw [hh] at hh2
        cases hh2
        exact hne rfl

theorem parse_i64 (ws : List ByteArray) : I64s ((lists ws).map (parseW 7)) := by
  intro z hz
  simp only [List.mem_map] at hz
  obtain ⟨l, _, rfl⟩ := hz
  have := parse_range l
  omega

theorem nums_take (ws : List ByteArray) (k : Nat) (h : k < ws.length) : (lists (ws.take (k + 1))).map (parseW 7) = (lists (ws.take k)).map (parseW 7) ++ [parseW 7 (ws[k]).data.toList] := by
  rw [List.take_succ_eq_append_getElem h]
  unfold lists
  rw [List.map_append, List.map_append]
  rfl

set_option maxRecDepth 100000 in
set_option maxHeartbeats 1000000 in
theorem specParse_made (s : ByteArray) (r : Option (List Int)) (hr : getT s.data.toList = r) (w : World) (hs : s.size ≤ 1048576) :
    Calls Tryd.prog 13 #[.string s] w fun e w' => ∃ ao cap, e = .returned (.tuple #[.slice ao (r.getD []).length cap, .bool r.isSome]) ∧
      w'.ownsRow w.heap.size 3 1 (.slice ao (r.getD []).length cap) (r.getD []).length (cI (r.getD [])) ∧ Below w.heap.size w w' := by
  obtain ⟨i0, hi, hz0, hz1, hz2⟩ := info_parts Tryd.infoI64
  have HR := hide hr
  have hsl := splitD_length s.data.toList
  have hsz := size_list s
  clear hr
  go_enter Tryd.func13, Tryd.ntmps13
  go_wp2_with fail
  refine (specSplit_any s _ hs).mono ?_
  rintro e w1 ⟨v, ws, rfl, hws, how1, hb1⟩
  have HWS := hide hws
  have hwl : ws.length ≤ 1048577 := by
    have : (lists ws).length = ws.length := by simp [lists]
    rw [hws] at this
    omega
  clear hws hsl
  have hown0 : (w.alloc (.cells #[] 3)).ownsRow w.heap.size 3 1 (.slice (some ⟨w.heap.size, 0, none⟩) 0 0) 0 (cI []) := World.ownsRow_lit w #[] 0 (Nat.le_refl _) (Nat.zero_le _) rfl
  have hown1 := own_below hown0 hb1
  have hbn : Below w.heap.size w w1 := ((Below.refl _ w).alloc (Nat.le_refl _) (.cells #[] 3)).trans (hb1.mono (by simp))
  have hows := own_lt how1 (base' := w.heap.size) (by simp)
  clear how1 hb1 hown0
  obtain ⟨aw, cw, rfl⟩ := own_shape hows
  go_wp2
  go_loopw [4, 6] (fun v i wr => ∃ k : Nat, k ≤ ws.length ∧ i = .int .i64 k ∧ wr.ownsRow w.heap.size 3 1 v k (cI ((lists (ws.take k)).map (parseW 7))) ∧ wr.ownsRow w.heap.size 9 1 (.slice aw ws.length cw) ws.length (cS ws) ∧ Below w.heap.size w wr) (fun _ i _ => ws.length - (intOf i).toNat)
  case atStart => exact ⟨0, Nat.zero_le _, rfl, hown1, hows, hbn⟩
  case round =>
    obtain ⟨k, hk, rfl, how, hss, hb⟩ := hrel
    clear hown1 hows hbn
    obtain ⟨ao, cp, rfl⟩ := own_shape how
    have hbw := hb.size
    by_cases hlt : k < ws.length
    · obtain ⟨g, rfl⟩ : ∃ g, aw = some ⟨g, 0, none⟩ := by
        rcases hss.2 with ⟨h, h0⟩ | ⟨g, cap, cur, h, _⟩
        · omega
        · cases h; exact ⟨g, rfl⟩
      have cx : wr.cell? ⟨g, k, none⟩ = some (.string ws[k]) := by
        rw [hss.cellAt k (by omega)]
        simp [cS, hlt]
      have HN := hide (nums_take ws k hlt)
      generalize hxx : ws[k] = x at cx HN
      have hxs : x.size ≤ 1048576 := by
        have hm : x.data.toList ∈ splitD s.data.toList := by
          rw [← HWS.out, ← hxx]
          exact List.mem_map_of_mem (List.getElem_mem hlt)
        have := splitD_word s.data.toList _ hm
        rw [size_list, size_list] at this
        omega
      clear hxx
      go_wp2_with fail
      refine (specParse_any x _ hxs).mono ?_
      rintro e w2 ⟨rfl, hw2⟩
      subst hw2
      have hpr := parse_range x.data.toList
      generalize parseW 7 x.data.toList = y at hpr HN
      go_wp2_with (at_builtin; refine wpList_append_own _ rfl _ _ 24 rfl w.heap.size 3 i0 (.int .i64 0) 1 8 Tryd.underlying24 hi hz0 hz1 hz2 rfl (by decide) _ k (cI ((lists (ws.take k)).map (parseW 7))) rfl (how.alloc _) ⟨w2.heap.size, 0, none⟩ 1 1 [.int .i64 y] rfl rfl ?c1 ?c2 ?c3 ?c4 ?c5 ?_)
      case c1 => intro j u hu; cases j with
        | zero => simp at hu; subst hu; simp [Addr.add]
        | succ j => simp at hu
      case c2 => intro u hu; simp at hu; subst hu; rfl
      case c3 => unfold maxLen; omega
      case c4 => omega
      case c5 => simp; omega
      intro v1 w3 how3 hgr3 _
      have hlt1 := how.lt
      have hb3 : Below w.heap.size w w3 := (hb.alloc hbw _).grown hgr3 (by simp; omega) (by intro j hj; exact (hlt1 j hj).1)
      have hss3 := own_apart (hss.alloc (.cells #[.int .i64 y] 3)) (how.alloc (.cells #[.int .i64 y] 3)) (by decide) hgr3
      have how4 : w3.ownsRow w.heap.size 3 1 v1 (k + 1) (cI ((lists (ws.take (k + 1))).map (parseW 7))) := by
        rw [HN.out]; simpa [cI] using how3
      clear how3 hgr3 how hb hss
      go_wp2
      go_roundw
      case rel => exact ⟨k + 1, by omega, by go_num, how4, hss3, hb3⟩
      case measure => simp [intOf]; omega
    · have hkk : k = ws.length := by omega
      subst hkk
      have hT : (lists (ws.take ws.length)).map (parseW 7) = textNums s.data.toList := by rw [List.take_length, HWS.out]; rfl
      have hlen : (textNums s.data.toList).length = ws.length := by rw [← hT, List.take_length]; simp [lists]
      have hI : I64s (textNums s.data.toList) := by rw [← hT, List.take_length]; exact parse_i64 ws
      rw [hT] at how
      have hget : getT s.data.toList = if oidOk (textNums s.data.toList) = true then some (textNums s.data.toList) else none := rfl
      rw [HR.out] at hget
      clear hT
      generalize textNums s.data.toList = O at how hlen hI hget
      have hrow := irow_own how hI
      cases hok : oidOk O with
      | true =>
        rw [hok, if_pos rfl] at hget
        subst hget
        have HOK := hide hok
        clear hok
        go_wp2_with fail
        refine (specOk_any _ _ _ O _ hrow).mono ?_
        rintro e w2 ⟨rfl, hw2⟩
        subst hw2
        rw [HOK.out]
        go_wp2
        go_ret2
        exact ⟨ao, cp, by simp [hlen], by simpa [hlen] using how, hb⟩
      | false =>
        rw [hok, if_neg (by simp)] at hget
        subst hget
        have HOK := hide hok
        clear hok
        go_wp2_with fail
        refine (specOk_any _ _ _ O _ hrow).mono ?_
        rintro e w2 ⟨rfl, hw2⟩
        subst hw2
        rw [HOK.out]
        go_wp2
        go_ret2
        exact ⟨_, _, rfl, World.ownsRow_lit w2 #[] 0 (by omega) (Nat.zero_le _) rfl, hb.alloc (by omega) _⟩

end Go.Proofs.YtpnhockgaajihaaDoor
