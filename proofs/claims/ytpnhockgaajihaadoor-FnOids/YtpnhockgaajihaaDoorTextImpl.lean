/-
  A name's text by the program's OidText.
-/
import Derived.Test.YtpnhockgaajihaaDoorTextPut
import Derived.Test.YtpnhockgaajihaaDoorShelf
import Derived.Lib.AppendIntMem
namespace Go.Proofs.YtpnhockgaajihaaDoor
open Go.RowKit
open Go.Lib (decDigits)

/-- The table of powers of ten lies as the program's own text lays it. -/
abbrev Tab (w : World) : Prop := Go.Lib.TabIs Tryd.prog w "internal/strconv.uint64pow10" .u64 Go.Lib.pow10Tab

theorem tab_below {w w' : World} (h : Tab w) (hb : Below w.heap.size w w') : Tab w' := (Go.Lib.tabBelow_of_tabIs h) w' hb

theorem itoa_made (n : Int) (w : World) (h0 : 0 ≤ n) (h2 : n ≤ 100000) (ht : Tab w) :
    Calls Tryd.prog 22 #[.int .i64 n] w fun e w' => ∃ S : ByteArray, e = .returned (.string S) ∧ S.data.toList = decDigits n.toNat ∧ Below w.heap.size w w' := by
  refine (Tryd.strconv_Itoa n (by omega) (by omega) w ht).mono ?_
  rintro e w' ⟨rfl, k, os, rfl⟩
  refine ⟨_, rfl, ?_, Go.Lib.below_grow _ _ (Nat.le_refl _) k os⟩
  have : Go.Lib.itoa n = decDigits n.toNat := by unfold Go.Lib.itoa; rw [if_neg (by omega)]
  simp [this]

def digs (o : List Int) : List (List UInt8) := o.map fun z => decDigits z.toNat
def strs (ws : List ByteArray) : List Value := ws.map Value.string

/-- The words of a name on their way. -/
structure Wrd (w wr : World) (o : List Int) (k : Nat) (ws : List ByteArray) : Prop where
  size : ws.length = k
  own : wr.ownsRow w.heap.size 9 1 (.slice (some ⟨w.heap.size, 0, none⟩) k o.length) k (strs ws)
  is : ws.map (·.data.toList) = digs (o.take k)

set_option maxRecDepth 100000 in
set_option maxHeartbeats 1000000 in
theorem implText_any (a1 : Option Addr) (l1 c1 : Nat) (z1 : List Int) (T : List UInt8) (hT : textO z1 = T) (w : World) (h1 : IRow w a1 l1 c1 z1) (htab : Tab w) :
    Calls Tryd.prog 7 #[.slice a1 l1 c1] w fun e w' => e = .returned (.string ⟨T.toArray⟩) ∧ Below w.heap.size w w' := by
  have s1 := h1.size
  obtain ⟨i0, hi, hz0, hz1, hz2⟩ := info_parts Tryd.infoStr
  by_cases hok : oidOk z1 = true
  · obtain ⟨hz, hl1, hl2⟩ := ok_all hok
    have hw := txt_whole z1 hok
    rw [hT] at hw
    have htl := txt_length z1 hz z1.length (Nat.le_refl _)
    rw [hw] at htl
    have HTW := hide hw
    have HZ := hide hz
    have hcell := h1.cell
    have HOK := hide hok
    have HTB := hide htab
    clear hw hz hok hT htab
    go_enter Tryd.func7, Tryd.ntmps7
    go_wp2_with fail
    refine (implOk_any _ _ _ z1 _ h1).mono ?_
    rintro e w1 ⟨rfl, hw1⟩
    subst hw1
    rw [HOK.out]
    go_wp2_with (at_make; refine wpList_make_own _ rfl _ _ 42 rfl w1.heap.size 9 i0 (.string ⟨#[]⟩) 1 Tryd.underlying42 hi hz0 hz1 .i64 .i64 _ l1 rfl rfl rfl ?c1 ?c2 ?c3 ?_)
    case c1 => rw [hz2]; omega
    case c2 => unfold maxLen; omega
    case c3 => exact Nat.le_refl _
    intro w2 how2 hgr2
    have hb2 : Below w1.heap.size w1 w2 := (Below.refl _ _).grown hgr2 (Nat.le_refl _) (by intro k hk; cases hk)
    have hp2 : Wrd w1 w2 z1 0 [] := ⟨rfl, by rw [s1]; exact how2, rfl⟩
    have hsz : w1.heap.size < w2.heap.size := (how2.lt _ rfl).2
    clear how2 hgr2
    go_wp2
    go_loopw [3, 14] (fun v i wr => ∃ (k : Nat) (ws : List ByteArray), k ≤ l1 ∧ i = .int .i64 k ∧ v = .slice (some ⟨w1.heap.size, 0, none⟩) k l1 ∧ Wrd w1 wr z1 k ws ∧ Below w1.heap.size w1 wr ∧ w1.heap.size < wr.heap.size) (fun _ i _ => l1 - (intOf i).toNat)
    case atStart => exact ⟨0, [], Nat.zero_le _, rfl, rfl, hp2, hb2, hsz⟩
    case round =>
      obtain ⟨k, ws, hk, rfl, rfl, hp, hb, hsz⟩ := hrel
      clear hp2 hb2
      have hbw := hb.size
      by_cases hlt : k < l1
      · rcases hcell with h0 | ⟨b, off, rfl, hc⟩
        · omega
        have cx : wr.cell? ⟨b, off + k, none⟩ = some (.int .i64 (z1.getD k 0)) := by rw [hb.cell (block_lt (hc k hlt))]; exact hc k hlt
        have hx := HZ.out (z1.getD k 0) (by rw [List.getD_eq_getElem?_getD, List.getElem?_eq_getElem (by omega)]; exact List.getElem_mem _)
        clear hc
        generalize hxx : z1.getD k 0 = x at cx hx
        have HX := hide hxx
        clear hxx
        go_wp2_with fail
        refine (itoa_made x _ hx.1 hx.2 (tab_below HTB.out hb)).mono ?_
        rintro e w3 ⟨S, rfl, hS, hb3⟩
        have hs3 := hb3.size
        have how3 := own_below hp.own hb3
        rw [s1] at how3
        have how4 := how3.alloc (.cells #[.string S] 9)
        go_wp2_with (at_builtin; refine wpList_append_fits_any _ rfl _ _ 42 rfl w1.heap.size 9 i0 1 Tryd.underlying42 hi hz1 w1.heap.size k l1 _ rfl how4 (some ⟨w3.heap.size, 0, none⟩) 1 1 [.string S] rfl rfl ?e2 ?e3 ?e4 ?e5 ?_)
        case e2 => intro h; cases h
        case e3 => intro ad ha j u hu; cases ha; cases j with
          | zero => simp at hu; subst hu; simp [Addr.add]
          | succ j => simp at hu
        case e4 => intro u hu; simp at hu; subst hu; rfl
        case e5 => omega
        intro w4 how5 hgr5
        rw [← s1] at how5
        have hp4 : Wrd w1 w4 z1 (k + 1) (ws ++ [S]) := ⟨by simp [hp.size], by simpa [strs] using how5, by
          rw [List.map_append, hp.is, take_succ_getD _ _ (by omega)]
          unfold digs
          rw [List.map_append, HX.out]
          simp [hS]⟩
        have hb4 : Below w1.heap.size w1 w4 := ((hb.trans (hb3.mono hbw)).alloc (by omega) _).grown hgr5 (by simp; omega) (by intro j hj; cases hj; exact Nat.le_refl _)
        have hsz4 : w1.heap.size < w4.heap.size := by have := hgr5.size; simp at this; omega
        clear how3 how4 how5 hgr5 hb3 hp hb hS
        go_wp2
        go_roundw
        case rel => exact ⟨k + 1, _, by omega, by go_num, rfl, hp4, hb4, hsz4⟩
        case measure => simp [intOf]; omega
      · obtain rfl : k = l1 := by omega
        have hlen := hp.size
        have hj : Go.Lib.join (ws.map (·.data.toList)) (⟨#[46]⟩ : ByteArray).data.toList = T := by
          rw [hp.is, ← HTW.out, ← s1]
          rfl
        have HJ := hide hj
        have hcells : ∀ (j : Nat) x, ws[j]? = some x → wr.cell? ⟨w1.heap.size, 0 + j, none⟩ = some (.string x) := by
          intro j x hx
          have hj2 : j < ws.length := by
            by_cases h : j < ws.length
            · exact h
            · rw [List.getElem?_eq_none (by omega)] at hx; cases hx
          rw [Nat.zero_add, hp.own.cellAt j (by omega)]
          simp [strs, hx]
        have hcall := Tryd.strings_Join w1.heap.size 0 k ws ⟨#[46]⟩ wr hcells hsz (by omega) (by omega) (by rw [hj]; omega)
        rw [hj, hlen] at hcall
        clear hj hcells
        go_wp2_with fail
        refine hcall.mono ?_
        rintro e w3 ⟨rfl, hb3⟩
        go_wp2
        go_ret
        exact ⟨rfl, hb.trans (hb3.mono hbw)⟩
  · have hT0 : T = [] := by rw [← hT]; simp [textO, hok]
    subst hT0
    have hok' : oidOk z1 = false := by simpa using hok
    have HOK := hide hok'
    clear hok hok' hT
    go_enter Tryd.func7, Tryd.ntmps7
    go_wp2_with fail
    refine (implOk_any _ _ _ z1 _ h1).mono ?_
    rintro e w1 ⟨rfl, hw1⟩
    subst hw1
    rw [HOK.out]
    go_wp2
    go_ret
    exact ⟨rfl, Below.refl _ _⟩

end Go.Proofs.YtpnhockgaajihaaDoor
