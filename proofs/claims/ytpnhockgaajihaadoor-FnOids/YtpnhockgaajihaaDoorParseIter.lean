/-
  The iterator over a name's text by its contract, and the program's ParseOid.
-/
import Derived.Test.YtpnhockgaajihaaDoorTextPlain
import Derived.Test.YtpnhockgaajihaaDoorGather
namespace Go.Proofs.YtpnhockgaajihaaDoor
open Go.RowKit Go.Shelf

attribute [local go_sem] Oper.semAt_some

/-- What is handed out of a word; of a text. -/
def itemW (l : List UInt8) : Int × Bool := (if okW 6 l = true then (valW l : Int) else 0, okW 6 l)
def items (t : List UInt8) : List (Int × Bool) := (splitD t).map itemW

theorem items_range (t : List UInt8) : ∀ x ∈ items t, -9223372036854775808 ≤ x.1 ∧ x.1 ≤ 9223372036854775807 := by
  intro x hx
  simp only [items, List.mem_map] at hx
  obtain ⟨l, _, rfl⟩ := hx
  unfold itemW
  split
  · rename_i h
    have := valW_lt h
    have e : (10 : Nat) ^ 6 = 1000000 := by decide
    rw [e] at this
    show -9223372036854775808 ≤ (valW l : Int) ∧ (valW l : Int) ≤ 9223372036854775807
    omega
  · show -9223372036854775808 ≤ (0 : Int) ∧ (0 : Int) ≤ 9223372036854775807
    omega

theorem items_is {t : List UInt8} (ha : ∀ x ∈ items t, x.2 = true) : getT t = if oidOk (nums (items t)) = true then some (nums (items t)) else none := by
  have e : nums (items t) = textNums t := by
    unfold nums items textNums
    rw [List.map_map]
    apply List.map_congr_left
    intro l hl
    have h := ha (itemW l) (List.mem_map_of_mem hl)
    have h6 : okW 6 l = true := h
    rw [parse_ok h6]
    simp [itemW, h6]
  rw [e]
  rfl

theorem items_bad {t : List UInt8} {pre : List (Int × Bool)} (hp : pre <+: items t) (hb : Bad pre) : getT t = none := by
  have hno : oidOk (textNums t) = false := by
    rcases hb with ⟨x, hx, h0⟩ | h0
    · have hm := hp.subset hx
      simp only [items, List.mem_map] at hm
      obtain ⟨l, hl, rfl⟩ := hm
      have h6 : okW 6 l = false := h0
      exact oid_no (List.mem_map_of_mem hl) (parse_no (by rw [h6]; simp))
    · refine oid_long ?_
      have := hp.length_le
      simp only [items, List.length_map] at this
      simp only [textNums, List.length_map]
      omega
  simp [getT, hno]

theorem ext_upto (s : ByteArray) (k : Nat) : (s.extract 0 k).data.toList = s.data.toList.take k := by rw [Go.Lib.extract_eq]; simp

theorem items_cut (s : ByteArray) (i : Nat) (h : Go.Lib.indexByte s.data.toList 46 = i) : items s.data.toList = itemW (s.extract 0 i).data.toList :: items (s.extract (i + 1) s.size).data.toList := by
  unfold items
  rw [(splitD_cut s.data.toList i h).2, ext_upto, Go.Lib.extract_to_end]
  rfl

theorem items_miss (s : ByteArray) (h : Go.Lib.indexByte s.data.toList 46 = -1) : items s.data.toList = [itemW s.data.toList] := by
  unfold items
  rw [splitD_miss s.data.toList h]
  rfl

theorem items_ne (t : List UInt8) : 1 ≤ (items t).length := by
  unfold items
  cases h : splitD t with
  | nil => exact absurd h (splitD_ne t)
  | cons a l => simp

def strLen : Value → Nat
  | .string s => s.size
  | _ => 0
def flagOf : Value → Nat
  | .bool true => 1
  | _ => 0

/-- Where the iterator stands: what is left, whether more comes, what has come. -/
def TextAt (t : List UInt8) (rest mo : Value) (pre : List (Int × Bool)) : Prop :=
  (∃ s : ByteArray, rest = .string s ∧ mo = .bool true ∧ s.size ≤ 1048576 ∧ items t = pre ++ items s.data.toList) ∨ (∃ s : ByteArray, rest = .string s ∧ mo = .bool false ∧ items t = pre)

theorem plain_item {l : List UInt8} {e : Ending} (h : PlainAns l e) : e = .returned (.tuple #[.int .i64 (itemW l).1, .bool (itemW l).2]) := by
  rcases h with ⟨h1, rfl⟩ | ⟨h1, rfl⟩
  · simp [itemW, h1]
  · have h2 : okW 6 l = false := by simpa using h1
    simp [itemW, h2]

theorem grown_none {a b : World} (h : Below a.heap.size a b) : a.grownBy b none where
  os := h.os
  tape := h.tape
  output := h.output
  size := h.size
  block := fun k hk _ => h.block k hk

set_option maxRecDepth 100000 in
set_option maxHeartbeats 2000000 in
theorem text_stops (n Bn : Nat) (hn : 1 ≤ n) (s : ByteArray) (w : World) (hbox : w.cell? ⟨Bn, 0, none⟩ = some (.string s)) (hs : s.size ≤ 1048576) (W0 : World) (hW0 : Below w.heap.size w W0) :
    SeqStopsK Fence.wide n Tryd.prog 47 #[.pointer (some ⟨Bn, 0, none⟩)] encs (Below w.heap.size) (fun ys => ys = items s.data.toList) (fun pre => pre <+: items s.data.toList) (items s.data.toList).length W0 := fun l J Jx W hW hJa _ hY h0 => by
  have hbW : Below w.heap.size w W := hW0.trans (hW.mono hW0.size)
  have hBn := block_lt hbox
  have cb : W.cell? ⟨Bn, 0, none⟩ = some (.string s) := by rw [hbW.cell (p := ⟨Bn, 0, none⟩) hBn]; exact hbox
  have hst : TextAt s.data.toList (.string s) (.bool true) [] := .inl ⟨s, rfl, rfl, hs, rfl⟩
  generalize s.data.toList = t at *
  clear hW hW0
  refine callsIn_of_wp Tryd.func47 rfl trivial ?_ rfl
  simp only [Tryd.ntmps47, List.size_toArray, List.length_cons, List.length_nil, Nat.reduceAdd, Nat.reduceSub, Array.replicate_succ, Array.replicate_zero, List.push_toArray, List.append_toArray, List.nil_append, List.cons_append]
  gi_wp2
  gi_loopw [3, 4] (fun rest mo wr => ∃ pre, TextAt t rest mo pre ∧ J pre wr ∧ Below w.heap.size w wr) (fun rest mo _ => 2 * strLen rest + flagOf mo)
  case atStart => exact ⟨[], hst, h0, hbW⟩
  case round =>
    obtain ⟨pre, hat, hJ, hb⟩ := hrel
    clear hst cb
    rcases hat with ⟨s', rfl, rfl, hs', hit⟩ | ⟨s', rfl, rfl, hit⟩
    · have HI := hide hit
      have hlen : pre.length < (items t).length := by have := items_ne s'.data.toList; rw [hit]; simp; omega
      clear hit
      gi_wp2
      refine ⟨trivial, (callsIn_wide.2 (cut_any s' wr hs')).mono ?_⟩
      rintro e w1 ⟨hc, nd, hw1⟩
      have hb1 : Below wr.heap.size wr w1 := by rw [hw1]; exact below_drewN (Below.refl _ _) nd
      have hJ1 : J pre w1 := hJa pre wr w1 none hJ (grown_none hb1) (fun r h => by cases h)
      have hbw1 : Below w.heap.size w w1 := hb.trans (hb1.mono hb.size)
      clear hw1 hJ
      rcases hc with ⟨hx, rfl⟩ | ⟨i, hx, hi, rfl⟩
      · have hit := items_miss s' hx
        rw [hit] at HI
        clear hit hx
        gi_wp2
        refine ⟨trivial, (callsIn_wide.2 (plain_any s' w1 hs')).mono ?_⟩
        rintro e w2 ⟨hpl, hb2⟩
        have he := plain_item hpl
        subst he
        clear hpl
        have hJ2 : J pre w2 := hJa pre w1 w2 none hJ1 (grown_none hb2) (fun r h => by cases h)
        have hbw2 : Below w.heap.size w w2 := hbw1.trans (hb2.mono hbw1.size)
        generalize itemW s'.data.toList = x at *
        obtain ⟨x1, x2⟩ := x
        obtain ⟨fn, tmps, assign, body, hy, hR⟩ := hY pre (x1, x2) w2 hJ2 hlen
        dsimp only [encs] at hy
        clear hJ2 hJ1
        gi_wp2
        refine hR.mono ?_
        rintro e W3 (⟨rfl, hJ3, hk3⟩ | ⟨rfl, hJx3⟩)
        · gi_wp2
          go_roundw
          case rel => exact ⟨_, .inr ⟨⟨#[]⟩, rfl, rfl, HI.out⟩, hJ3, hbw2.trans hk3⟩
          case measure =>
            have h0 : (⟨#[]⟩ : ByteArray).size = 0 := rfl
            simp only [strLen, flagOf, h0]
            simp
        · gi_wp2
          refine bodyPost_ret (results_none rfl _ _ _) rfl ?_
          exact ⟨⟨_, rfl⟩, .inr ⟨_, by rw [HI.out]; exact List.prefix_refl _, hJx3⟩⟩
      · have hit := items_cut s' i hx
        have hz1 : (s'.extract 0 i).size ≤ 1048576 := by rw [ByteArray.size_extract]; omega
        have hz2 : (s'.extract (i + 1) s'.size).size = s'.size - (i + 1) := by rw [ByteArray.size_extract]; omega
        rw [hit] at HI
        clear hit hx
        generalize s'.extract 0 i = sw at *
        generalize s'.extract (i + 1) s'.size = sr at *
        gi_wp2
        refine ⟨trivial, (callsIn_wide.2 (plain_any sw w1 hz1)).mono ?_⟩
        rintro e w2 ⟨hpl, hb2⟩
        have he := plain_item hpl
        subst he
        clear hpl
        have hJ2 : J pre w2 := hJa pre w1 w2 none hJ1 (grown_none hb2) (fun r h => by cases h)
        have hbw2 : Below w.heap.size w w2 := hbw1.trans (hb2.mono hbw1.size)
        generalize itemW sw.data.toList = x at *
        obtain ⟨x1, x2⟩ := x
        obtain ⟨fn, tmps, assign, body, hy, hR⟩ := hY pre (x1, x2) w2 hJ2 hlen
        dsimp only [encs] at hy
        clear hJ2 hJ1
        gi_wp2
        refine hR.mono ?_
        rintro e W3 (⟨rfl, hJ3, hk3⟩ | ⟨rfl, hJx3⟩)
        · gi_wp2
          go_roundw
          case rel => exact ⟨_, .inl ⟨sr, rfl, rfl, by omega, by rw [HI.out]; simp⟩, hJ3, hbw2.trans hk3⟩
          case measure => simp [strLen, flagOf]; omega
        · gi_wp2
          refine bodyPost_ret (results_none rfl _ _ _) rfl ?_
          exact ⟨⟨_, rfl⟩, .inr ⟨_, by rw [HI.out]; exact ⟨items sr.data.toList, by simp⟩, hJx3⟩⟩
    · gi_wp2
      go_end0
      exact ⟨⟨_, rfl⟩, .inl ⟨pre, hit.symm, hJ⟩⟩

set_option maxRecDepth 100000 in
set_option maxHeartbeats 400000 in
theorem inText_any (s : ByteArray) (w : World) :
    Calls Tryd.prog 33 #[.string s] w fun e w' => e = .returned (.func (.func 47) #[] #[.pointer (some ⟨w.heap.size, 0, none⟩)]) ∧ w' = w.alloc (.cells #[.string s] 9) := by
  go_enter Tryd.func33, Tryd.ntmps33
  go_wp2
  go_ret
  exact ⟨rfl, rfl⟩

/-- The program's ParseOid: the name that the text says, and true; nothing and false. -/
theorem implParse_made (s : ByteArray) (r : Option (List Int)) (hr : getT s.data.toList = r) (w : World) (hs : s.size ≤ 1048576) :
    Calls Tryd.prog 12 #[.string s] w fun e w' => ∃ ao cap, e = .returned (.tuple #[.slice ao (r.getD []).length cap, .bool r.isSome]) ∧
      w'.ownsRow w.heap.size 3 1 (.slice ao (r.getD []).length cap) (r.getD []).length (cI (r.getD [])) ∧ Below w.heap.size w w' := by
  have hb1 : Below w.heap.size w (w.alloc (.cells #[.string s] 9)) := (Below.refl _ _).alloc (Nat.le_refl _) _
  have hbox : (w.alloc (.cells #[.string s] 9)).cell? ⟨w.heap.size, 0, none⟩ = some (.string s) := (Boxed.new w _ _).cell
  have hsz : (w.alloc (.cells #[.string s] 9)).heap.size = w.heap.size + 1 := by simp
  have hg := callsIn_wide.1 (gather_in 47 #[.pointer (some ⟨w.heap.size, 0, none⟩)] 4 (by omega) (enters_of Tryd.func47 (by kernel_rfl) rfl) (fun ys => ys = items s.data.toList) (fun pre => pre <+: items s.data.toList) (items s.data.toList).length
    (fun ys h => by rw [h]; exact items_range _) _ r (fun ys h ha => by rw [← hr, h]; rw [h] at ha; exact items_is ha) (fun pre h hb => by rw [← hr]; exact items_bad h hb) (fun W hW => text_stops 3 _ (by omega) s _ hbox hs W hW))
  have HG := hide hg
  clear hg
  go_enter Tryd.func12, Tryd.ntmps12
  go_wp2_with fail
  refine (inText_any s _).mono ?_
  rintro e w1 ⟨rfl, rfl⟩
  go_wp2_with fail
  refine HG.out.mono ?_
  rintro e w2 ⟨ao, cap, rfl, how, hb2⟩
  have hbn : Below w.heap.size w w2 := hb1.trans (hb2.mono (by omega))
  have hown := own_lt how (base' := w.heap.size) (by omega)
  clear how hb2 HG
  go_wp2
  go_ret2
  exact ⟨ao, cap, rfl, hown, hbn⟩

end Go.Proofs.YtpnhockgaajihaaDoor
