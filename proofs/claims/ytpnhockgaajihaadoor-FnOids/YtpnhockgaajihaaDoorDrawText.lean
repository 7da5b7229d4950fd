/-
  What is drawn for names: a name, bytes, a text.
-/
import Derived.Test.YtpnhockgaajihaaDoorDrawc
import Derived.Test.YtpnhockgaajihaaDoorDrawStr
import Derived.Test.YtpnhockgaajihaaDoorDrawOid
import Derived.Test.YtpnhockgaajihaaDoorOidPut
import Derived.Test.YtpnhockgaajihaaDoorTextPut
namespace Go.Proofs.YtpnhockgaajihaaDoor
open Go.RowKit

theorem textO_length (o : List Int) : (textO o).length ≤ 70 := by
  by_cases h : oidOk o = true
  · obtain ⟨h1, _, h3⟩ := ok_all h
    rw [← txt_whole o h]
    have := txt_length o h1 o.length (Nat.le_refl _)
    omega
  · simp [textO, h]

/-- A name, bytes, a text that were drawn. -/
def DrawnName (w w' : World) (e : Ending) : Prop := ∃ ao n cap zs, e = .returned (.slice ao n cap) ∧ IRow w' ao n cap zs ∧ Below w.heap.size w w'
def DrawnBytes (w w' : World) (e : Ending) : Prop := ∃ ao n cap zs, e = .returned (.slice ao n cap) ∧ n ≤ 2001 ∧ Row w' ao n cap zs ∧ Below w.heap.size w w'
def DrawnText (w w' : World) (e : Ending) : Prop := ∃ S : ByteArray, e = .returned (.string S) ∧ S.size ≤ 200 ∧ Below w.heap.size w w'

theorem drawPut_any (a0 : Option Addr) (l0 c0 : Nat) (z0 : List Int) (w : World) (h0 : Row w a0 l0 c0 z0) (hs : l0 ≤ 1048576) :
    Calls Tryd.prog 5 #[.slice a0 l0 c0] w fun e w' => DrawnName w w' e := by
  go_enter Tryd.func5, Tryd.ntmps5
  go_wp2_with fail
  refine (new_any a0 l0 c0 z0 _ h0 hs).mono ?_
  rintro e w1 ⟨rfl, cur1, hb1⟩
  have hlt := cur1.lt
  go_wp2_with fail
  refine (oidAny_any _ a0 l0 c0 z0 _ cur1).mono ?_
  rintro e w2 ⟨ao, n, cap, zs, rfl, -, hn, hz, hi, how2, went2⟩
  have low2 : Below w.heap.size w w2 := hb1.trans (below_of_grown went2.grown (Nat.le_refl _) (Nat.le_of_lt hlt))
  have r2 := irow_own how2 hi
  go_wp2
  go_ret
  exact ⟨ao, n, cap, zs, rfl, r2, low2⟩

theorem drawGet_any (a0 : Option Addr) (l0 c0 : Nat) (z0 : List Int) (w : World) (h0 : Row w a0 l0 c0 z0) (hs : l0 ≤ 1048576) :
    Calls Tryd.prog 8 #[.slice a0 l0 c0] w fun e w' => DrawnBytes w w' e := by
  go_enter Tryd.func8, Tryd.ntmps8
  go_wp2_with fail
  refine (new_any a0 l0 c0 z0 _ h0 hs).mono ?_
  rintro e w1 ⟨rfl, cur1, hb1⟩
  have hlt := cur1.lt
  go_wp2_with fail
  refine (oidDraw_any _ a0 l0 c0 z0 _ cur1).mono ?_
  rintro e w2 ⟨ao, n, cap, zs, rfl, -, hn, hz, hok, how2, went2⟩
  have hs2 := went2.grown.size
  have r2 := irow_own how2 hok.i64
  have hlp := put_length zs
  have hbp := put_byte zs
  generalize hP : putO zs = P at hlp hbp
  have HP := hide hP
  clear hP how2
  go_wp2_with fail
  refine (specPut_made _ _ _ zs P HP.out _ r2).mono ?_
  rintro e w3 ⟨ao3, cp3, rfl, how3, -, hb3⟩
  have wn3 := went2.made hb3
  have hs3 := hb3.size
  have low3 : Below w.heap.size w w3 := hb1.trans (below_of_grown wn3.grown (Nat.le_refl _) (Nat.le_of_lt hlt))
  clear r2
  go_wp2_with fail
  refine (bend_any _ a0 l0 c0 z0 w2.heap.size _ _ _ _ _ wn3.cur (by omega) (by omega) how3 hbp (by omega)).mono ?_
  rintro e w5 ⟨ao5, n5, cp5, zs5, rfl, hn5, hby5, hz5, how5, cur5, low5⟩
  have r5 := row_own how5 hby5
  go_wp2
  go_ret
  exact ⟨ao5, n5, cp5, zs5, rfl, hn5, r5, low3.trans low5⟩

set_option maxRecDepth 100000 in
set_option maxHeartbeats 1000000 in
theorem drawParse_any (a0 : Option Addr) (l0 c0 : Nat) (z0 : List Int) (w : World) (h0 : Row w a0 l0 c0 z0) (hs : l0 ≤ 1048576) :
    Calls Tryd.prog 9 #[.slice a0 l0 c0] w fun e w' => DrawnText w w' e := by
  go_enter Tryd.func9, Tryd.ntmps9
  go_wp2_with fail
  refine (new_any a0 l0 c0 z0 _ h0 hs).mono ?_
  rintro e w1 ⟨rfl, cur1, hb1⟩
  have hlt := cur1.lt
  go_wp2_with fail
  refine (oidDraw_any _ a0 l0 c0 z0 _ cur1).mono ?_
  rintro e w2 ⟨ao, n, cap, zs, rfl, -, hn, hz, hok, how2, went2⟩
  have r2 := irow_own how2 hok.i64
  have htl := textO_length zs
  generalize hP : textO zs = P at htl
  have HP := hide hP
  clear hP how2
  go_wp2_with fail
  refine (specText_any _ _ _ zs P HP.out _ r2).mono ?_
  rintro e w3 ⟨rfl, hb3⟩
  have wn3 := went2.made hb3
  have hTs : (⟨P.toArray⟩ : ByteArray).size ≤ 70 := by rw [Go.Lib.size_eq]; simpa using htl
  generalize (⟨P.toArray⟩ : ByteArray) = T at *
  clear r2 htl went2 hb3
  go_wp2_with fail
  refine (below_any _ a0 l0 c0 z0 4 _ wn3.cur (by omega)).mono ?_
  rintro e w4 ⟨x, rfl, hx0, hx1, hx2, went4⟩
  have wn4 := wn3.trans went4
  have low4 : Below w.heap.size w w4 := hb1.trans (below_of_grown wn4.grown (Nat.le_refl _) (Nat.le_of_lt hlt))
  clear hx1 hx2 went4
  by_cases e0 : x = 0
  · subst e0
    go_wp2_with fail
    refine (pickS_any _ a0 l0 c0 z0 _ _ _ w4 wn4.cur rfl ?h1a ?h2a ?h3a ?h4a).mono ?_
    case h1a => rfl
    case h2a => kernel_rfl
    case h3a => decide
    case h4a => decide
    rintro e w5 ⟨S, hSs, rfl, went5⟩
    go_wp2
    go_ret
    exact ⟨S, rfl, by omega, low4.trans (below_of_grown went5.grown (by omega) (Nat.le_of_lt wn4.cur.lt))⟩
  have x0 : (x == 0) = false := by simp [e0]
  by_cases e1 : x = 1
  · subst e1
    go_wp2_with fail
    refine (pickS_any _ a0 l0 c0 z0 _ _ _ w4 wn4.cur rfl ?h1b ?h2b ?h3b ?h4b).mono ?_
    case h1b => rfl
    case h2b => kernel_rfl
    case h3b => decide
    case h4b => decide
    rintro e w5 ⟨S, hSs, rfl, went5⟩
    have hle : ¬ 9223372036854775807 < T.size + S.size := by omega
    have hsz : (T ++ S).size ≤ 200 := by rw [ByteArray.size_append]; omega
    have HSZ := hide hsz
    clear hsz
    go_wp2
    go_ret
    exact ⟨_, rfl, HSZ.out, low4.trans (below_of_grown went5.grown (by omega) (Nat.le_of_lt wn4.cur.lt))⟩
  have x1 : (x == 1) = false := by simp [e1]
  go_wp2
  go_ret
  exact ⟨T, rfl, by omega, low4⟩

end Go.Proofs.YtpnhockgaajihaaDoor
