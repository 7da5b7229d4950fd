/-
  FnOids answers true at all bytes: a drawn name comes back of its bytes and of its text; what is read has these. The table of powers of ten that the library reads is tied to the program's text.
-/
import Derived.Test.YtpnhockgaajihaaDoorDrawText
import Derived.Test.YtpnhockgaajihaaDoorOidGet
import Derived.Test.YtpnhockgaajihaaDoorOidParse
import Derived.Test.YtpnhockgaajihaaDoorOidSame
import Derived.Test.YtpnhockgaajihaaDoorTextImpl
import Derived.Test.YtpnhockgaajihaaDoorTextLaws
import Derived.Test.YtpnhockgaajihaaDoorSame
import Derived.Test.YtpnhockgaajihaaDoorBig
import Derived.WalkKit
import Derived.ProofKit
import Derived.OpenShut
import Derived.ShutString
import Derived.ChangeOld
import Derived.Below
import Derived.LaidMore
import Derived.Stop.Joined
import Derived.Lib.LaidTab
import Derived.Stop.LaidErr
import Derived.SevenTiedAt
import Derived.Test.YtpnhockgaajihaaDoorCards
import Derived.Test.YtpnhockgaajihaaDoorTie
namespace Go.Proofs.YtpnhockgaajihaaDoor
open Go.RowKit

set_option maxRecDepth 100000 in
set_option maxHeartbeats 4000000 in
theorem oids_walk (a0 : Option Addr) (l0 c0 : Nat) (z0 : List Int) (w : World) (h0 : Row w a0 l0 c0 z0) (htab : Tab w) :
    Calls Tryd.prog 3 #[.slice a0 l0 c0] w fun e w' => e = .returned (.bool true) ∧ Below w.heap.size w w' := by
  by_cases g0 : 1048576 < l0
  · have i1 : (1048576 : Int) < l0 := by omega
    have hbig : Calls Tryd.prog 4 #[.slice a0 l0 c0] w fun e w' => e = .returned (.bool true) ∧ w' = w := by
      go_enter Tryd.func4, Tryd.ntmps4
      go_wp2
      go_ret
      exact ⟨rfl, rfl⟩
    go_enter Tryd.func3, Tryd.ntmps3
    go_wp2_with fail
    refine hbig.mono ?_
    rintro e w' ⟨rfl, rfl⟩
    go_wp2
    go_ret
    exact ⟨rfl, Below.refl _ _⟩
  have HTB := hide htab
  clear htab
  go_enter Tryd.func3, Tryd.ntmps3
  go_wp2_with fail
  refine (big_no _ _ _ _ g0).mono ?_
  rintro e w' ⟨rfl, hw'⟩
  subst hw'
  go_wp2_with fail
  refine (drawPut_any _ _ _ z0 _ h0 (by omega)).mono ?_
  rintro e w1 ⟨aoO, nO, cO, o, rfl, rO, f1⟩
  generalize hB : putO o = B
  have HB := hide hB
  have hBl := put_length o
  rw [hB] at hBl
  clear hB
  go_wp2_with fail
  refine (implPut_made _ _ _ o B HB.out _ rO).mono ?_
  rintro e w2 ⟨ao2, c2, rfl, -, r2, hb2⟩
  have f2 := f1.trans (hb2.mono f1.size)
  have rO := rO.below hb2
  clear hb2 f1
  generalize hS : textO o = S
  have HS := hide hS
  have hSl := textO_length o
  rw [hS] at hSl
  clear hS
  go_wp2_with fail
  refine (implText_any _ _ _ o S HS.out _ rO (tab_below HTB.out f2)).mono ?_
  rintro e w3 ⟨rfl, hb3⟩
  have f3 := f2.trans (hb3.mono f2.size)
  have rO := rO.below hb3
  have r2 := r2.below hb3
  clear hb3 f2
  go_wp2_with fail
  refine (drawGet_any _ _ _ z0 _ (h0.below f3) (by omega)).mono ?_
  rintro e w4 ⟨ao4, n4, c4, C, rfl, hn4, r4, hb4⟩
  have f4 := f3.trans (hb4.mono f3.size)
  have rO := rO.below hb4
  have r2 := r2.below hb4
  clear hb4 f3
  go_wp2_with fail
  refine (drawParse_any _ _ _ z0 _ (h0.below f4) (by omega)).mono ?_
  rintro e w5 ⟨T, rfl, hT, hb5⟩
  have f5 := f4.trans (hb5.mono f4.size)
  have rO := rO.below hb5
  have r2 := r2.below hb5
  have r4 := r4.below hb5
  clear hb5 f4
  generalize hY : (getO C).getD [] = Y
  generalize hI : (getO C).isSome = is
  have HY := hide hY
  have HI := hide hI
  have hread : is = true → putO Y = C := by
    intro h
    cases hg : getO C with
    | none => rw [hg] at hI; rw [← hI] at h; cases h
    | some y => rw [hg] at hY; rw [← hY]; exact (getO_is hg).2
  have HRD := hide hread
  clear hY hI hread
  go_wp2_with fail
  refine (implGet_row _ _ _ C Y is HY.out HI.out _ r4 (by omega)).mono ?_
  rintro e w6 ⟨ao6, c6, rfl, -, r6, hb6⟩
  have f6 := f5.trans (hb6.mono f5.size)
  have rO := rO.below hb6
  have r2 := r2.below hb6
  have r4 := r4.below hb6
  clear hb6 f5
  go_wp2_with fail
  refine (specGet_row _ _ _ C Y is HY.out HI.out _ r4 (by omega)).mono ?_
  rintro e w7 ⟨ao7, c7, rfl, -, -, hb7⟩
  have f7 := f6.trans (hb7.mono f6.size)
  have rO := rO.below hb7
  have r2 := r2.below hb7
  have r4 := r4.below hb7
  have r6 := r6.below hb7
  clear hb7 f6
  generalize hZ : (getT T.data.toList).getD [] = Z
  generalize hCn : (getT T.data.toList).isSome = can
  have HZ := hide hZ
  have HCN := hide hCn
  have hread2 : can = true → (⟨(textO Z).toArray⟩ : ByteArray) = T := by
    intro h
    cases hg : getT T.data.toList with
    | none => rw [hg] at hCn; rw [← hCn] at h; cases h
    | some y =>
      rw [hg] at hZ
      rw [← hZ, show (some y).getD [] = y from rfl, (text_getT hg).2]
  have HRD2 := hide hread2
  clear hZ hCn hread2
  go_wp2_with fail
  refine (implParse_row T Z can HZ.out HCN.out _ (by omega)).mono ?_
  rintro e w8 ⟨ao8, c8, rfl, -, r8, hb8⟩
  have f8 := f7.trans (hb8.mono f7.size)
  have rO := rO.below hb8
  have r2 := r2.below hb8
  have r4 := r4.below hb8
  have r6 := r6.below hb8
  clear hb8 f7
  go_wp2_with fail
  refine (specParse_row T Z can HZ.out HCN.out _ (by omega)).mono ?_
  rintro e w9 ⟨ao9, c9, rfl, -, -, hb9⟩
  have f9 := f8.trans (hb9.mono f8.size)
  have rO := rO.below hb9
  have r2 := r2.below hb9
  have r4 := r4.below hb9
  have r6 := r6.below hb9
  have r8 := r8.below hb9
  clear hb9 f8
  have f := f9
  clear f9
  cases is with
  | false =>
    cases can with
    | false =>
      cases hok : oidOk o with
      | false =>
        obtain rfl : B = [] := by rw [← HB.out]; simp [putO, hok]
        obtain rfl : S = [] := by rw [← HS.out]; simp [textO, hok]
        have HOK := hide hok
        clear hok
        go_wp2_with fail
        refine (specOk_any _ _ _ o _ rO).mono ?_
        rintro e wa ⟨rfl, hwa⟩
        subst hwa
        rw [HOK.out]
        go_wp2_with fail
        refine (implOk_any _ _ _ o _ rO).mono ?_
        rintro e wb ⟨rfl, hwb⟩
        subst hwb
        rw [HOK.out]
        go_wp2
        go_ret
        exact ⟨rfl, f⟩
      | true =>
        have hgo : getO B = some o := by rw [← HB.out]; exact getO_put hok
        have hgt : getT (⟨S.toArray⟩ : ByteArray).data.toList = some o := by
          rw [← HS.out]
          exact getT_text hok
        have HG1 := hide (show (getO B).getD [] = o by rw [hgo]; rfl)
        have HG2 := hide (show (getO B).isSome = true by rw [hgo]; rfl)
        have HG3 := hide (show (getT (⟨S.toArray⟩ : ByteArray).data.toList).getD [] = o by rw [hgt]; rfl)
        have HG4 := hide (show (getT (⟨S.toArray⟩ : ByteArray).data.toList).isSome = true by rw [hgt]; rfl)
        have hSz : (⟨S.toArray⟩ : ByteArray).size ≤ 1048576 := by rw [Go.Lib.size_eq]; simp; omega
        have HOK := hide hok
        clear hok hgo hgt
        go_wp2_with fail
        refine (specOk_any _ _ _ o _ rO).mono ?_
        rintro e wa ⟨rfl, hwa⟩
        subst hwa
        rw [HOK.out]
        go_wp2_with fail
        refine (implGet_row _ _ _ B o true HG1.out HG2.out _ r2 (by omega)).mono ?_
        rintro e wc ⟨aoc, cc, rfl, -, rc, hbc⟩
        have f := f.trans (hbc.mono f.size)
        have rO := rO.below hbc
        clear hbc
        go_wp2_with fail
        refine (implParse_row ⟨S.toArray⟩ o true HG3.out HG4.out _ hSz).mono ?_
        rintro e wd ⟨aod, cd, rfl, -, rd, hbd⟩
        have f := f.trans (hbd.mono f.size)
        have rO := rO.below hbd
        have rc := rc.below hbd
        clear hbd
        go_wp2_with fail
        refine (implSame_any _ _ _ o _ _ _ o _ rc rO).mono ?_
        rintro e we ⟨rfl, ne, hwe⟩
        rw [decide_eq_true rfl]
        have d := below_drewN (Below.refl _ _) ne (a := wd) (B := wd.heap.size)
        rw [← hwe] at d
        have f := f.trans (d.mono f.size)
        have rO := rO.below d
        have rd := rd.below d
        clear hwe d
        go_wp2_with fail
        refine (implSame_any _ _ _ o _ _ _ o _ rd rO).mono ?_
        rintro e wf ⟨rfl, nf, hwf⟩
        rw [decide_eq_true rfl]
        have d := below_drewN (Below.refl _ _) nf (a := we) (B := we.heap.size)
        rw [← hwf] at d
        have f := f.trans (d.mono f.size)
        have rO := rO.below d
        clear hwf d
        go_wp2_with fail
        refine (implOk_any _ _ _ o _ rO).mono ?_
        rintro e wg ⟨rfl, hwg⟩
        subst hwg
        rw [HOK.out]
        go_wp2
        go_ret
        exact ⟨rfl, f⟩
    | true =>
      go_wp2_with fail
      refine (implText_any _ _ _ Z (textO Z) rfl _ r8 (tab_below HTB.out f)).mono ?_
      rintro e wt ⟨rfl, hbt⟩
      rw [HRD2.out (by first | rfl | trivial)]
      have f := f.trans (hbt.mono f.size)
      have rO := rO.below hbt
      have r2 := r2.below hbt
      clear hbt
      cases hok : oidOk o with
      | false =>
        obtain rfl : B = [] := by rw [← HB.out]; simp [putO, hok]
        obtain rfl : S = [] := by rw [← HS.out]; simp [textO, hok]
        have HOK := hide hok
        clear hok
        go_wp2_with fail
        refine (specOk_any _ _ _ o _ rO).mono ?_
        rintro e wa ⟨rfl, hwa⟩
        subst hwa
        rw [HOK.out]
        go_wp2_with fail
        refine (implOk_any _ _ _ o _ rO).mono ?_
        rintro e wb ⟨rfl, hwb⟩
        subst hwb
        rw [HOK.out]
        go_wp2
        go_ret
        exact ⟨rfl, f⟩
      | true =>
        have hgo : getO B = some o := by rw [← HB.out]; exact getO_put hok
        have hgt : getT (⟨S.toArray⟩ : ByteArray).data.toList = some o := by
          rw [← HS.out]
          exact getT_text hok
        have HG1 := hide (show (getO B).getD [] = o by rw [hgo]; rfl)
        have HG2 := hide (show (getO B).isSome = true by rw [hgo]; rfl)
        have HG3 := hide (show (getT (⟨S.toArray⟩ : ByteArray).data.toList).getD [] = o by rw [hgt]; rfl)
        have HG4 := hide (show (getT (⟨S.toArray⟩ : ByteArray).data.toList).isSome = true by rw [hgt]; rfl)
        have hSz : (⟨S.toArray⟩ : ByteArray).size ≤ 1048576 := by rw [Go.Lib.size_eq]; simp; omega
        have HOK := hide hok
        clear hok hgo hgt
        go_wp2_with fail
        refine (specOk_any _ _ _ o _ rO).mono ?_
        rintro e wa ⟨rfl, hwa⟩
        subst hwa
        rw [HOK.out]
        go_wp2_with fail
        refine (implGet_row _ _ _ B o true HG1.out HG2.out _ r2 (by omega)).mono ?_
        rintro e wc ⟨aoc, cc, rfl, -, rc, hbc⟩
        have f := f.trans (hbc.mono f.size)
        have rO := rO.below hbc
        clear hbc
        go_wp2_with fail
        refine (implParse_row ⟨S.toArray⟩ o true HG3.out HG4.out _ hSz).mono ?_
        rintro e wd ⟨aod, cd, rfl, -, rd, hbd⟩
        have f := f.trans (hbd.mono f.size)
        have rO := rO.below hbd
        have rc := rc.below hbd
        clear hbd
        go_wp2_with fail
        refine (implSame_any _ _ _ o _ _ _ o _ rc rO).mono ?_
        rintro e we ⟨rfl, ne, hwe⟩
        rw [decide_eq_true rfl]
        have d := below_drewN (Below.refl _ _) ne (a := wd) (B := wd.heap.size)
        rw [← hwe] at d
        have f := f.trans (d.mono f.size)
        have rO := rO.below d
        have rd := rd.below d
        clear hwe d
        go_wp2_with fail
        refine (implSame_any _ _ _ o _ _ _ o _ rd rO).mono ?_
        rintro e wf ⟨rfl, nf, hwf⟩
        rw [decide_eq_true rfl]
        have d := below_drewN (Below.refl _ _) nf (a := we) (B := we.heap.size)
        rw [← hwf] at d
        have f := f.trans (d.mono f.size)
        have rO := rO.below d
        clear hwf d
        go_wp2_with fail
        refine (implOk_any _ _ _ o _ rO).mono ?_
        rintro e wg ⟨rfl, hwg⟩
        subst hwg
        rw [HOK.out]
        go_wp2
        go_ret
        exact ⟨rfl, f⟩
  | true =>
    cases can with
    | false =>
      go_wp2_with fail
      refine (implPut_made _ _ _ Y C (HRD.out (by first | rfl | trivial)) _ r6).mono ?_
      rintro e wp ⟨aop, cpp, rfl, -, rp, hbp⟩
      have f := f.trans (hbp.mono f.size)
      have rO := rO.below hbp
      have r2 := r2.below hbp
      have r4 := r4.below hbp
      have r8 := r8.below hbp
      clear hbp
      go_wp2_with fail
      refine (same_same _ _ _ _ _ _ C _ rp r4).mono ?_
      rintro e ws ⟨rfl, ns, hws⟩
      have d := below_drewN (Below.refl _ _) ns (a := wp) (B := wp.heap.size)
      rw [← hws] at d
      have f := f.trans (d.mono f.size)
      have rO := rO.below d
      have r2 := r2.below d
      have r8 := r8.below d
      clear hws d
      cases hok : oidOk o with
      | false =>
        obtain rfl : B = [] := by rw [← HB.out]; simp [putO, hok]
        obtain rfl : S = [] := by rw [← HS.out]; simp [textO, hok]
        have HOK := hide hok
        clear hok
        go_wp2_with fail
        refine (specOk_any _ _ _ o _ rO).mono ?_
        rintro e wa ⟨rfl, hwa⟩
        subst hwa
        rw [HOK.out]
        go_wp2_with fail
        refine (implOk_any _ _ _ o _ rO).mono ?_
        rintro e wb ⟨rfl, hwb⟩
        subst hwb
        rw [HOK.out]
        go_wp2
        go_ret
        exact ⟨rfl, f⟩
      | true =>
        have hgo : getO B = some o := by rw [← HB.out]; exact getO_put hok
        have hgt : getT (⟨S.toArray⟩ : ByteArray).data.toList = some o := by
          rw [← HS.out]
          exact getT_text hok
        have HG1 := hide (show (getO B).getD [] = o by rw [hgo]; rfl)
        have HG2 := hide (show (getO B).isSome = true by rw [hgo]; rfl)
        have HG3 := hide (show (getT (⟨S.toArray⟩ : ByteArray).data.toList).getD [] = o by rw [hgt]; rfl)
        have HG4 := hide (show (getT (⟨S.toArray⟩ : ByteArray).data.toList).isSome = true by rw [hgt]; rfl)
        have hSz : (⟨S.toArray⟩ : ByteArray).size ≤ 1048576 := by rw [Go.Lib.size_eq]; simp; omega
        have HOK := hide hok
        clear hok hgo hgt
        go_wp2_with fail
        refine (specOk_any _ _ _ o _ rO).mono ?_
        rintro e wa ⟨rfl, hwa⟩
        subst hwa
        rw [HOK.out]
        go_wp2_with fail
        refine (implGet_row _ _ _ B o true HG1.out HG2.out _ r2 (by omega)).mono ?_
        rintro e wc ⟨aoc, cc, rfl, -, rc, hbc⟩
        have f := f.trans (hbc.mono f.size)
        have rO := rO.below hbc
        clear hbc
        go_wp2_with fail
        refine (implParse_row ⟨S.toArray⟩ o true HG3.out HG4.out _ hSz).mono ?_
        rintro e wd ⟨aod, cd, rfl, -, rd, hbd⟩
        have f := f.trans (hbd.mono f.size)
        have rO := rO.below hbd
        have rc := rc.below hbd
        clear hbd
        go_wp2_with fail
        refine (implSame_any _ _ _ o _ _ _ o _ rc rO).mono ?_
        rintro e we ⟨rfl, ne, hwe⟩
        rw [decide_eq_true rfl]
        have d := below_drewN (Below.refl _ _) ne (a := wd) (B := wd.heap.size)
        rw [← hwe] at d
        have f := f.trans (d.mono f.size)
        have rO := rO.below d
        have rd := rd.below d
        clear hwe d
        go_wp2_with fail
        refine (implSame_any _ _ _ o _ _ _ o _ rd rO).mono ?_
        rintro e wf ⟨rfl, nf, hwf⟩
        rw [decide_eq_true rfl]
        have d := below_drewN (Below.refl _ _) nf (a := we) (B := we.heap.size)
        rw [← hwf] at d
        have f := f.trans (d.mono f.size)
        have rO := rO.below d
        clear hwf d
        go_wp2_with fail
        refine (implOk_any _ _ _ o _ rO).mono ?_
        rintro e wg ⟨rfl, hwg⟩
        subst hwg
        rw [HOK.out]
        go_wp2
        go_ret
        exact ⟨rfl, f⟩
    | true =>
      go_wp2_with fail
      refine (implPut_made _ _ _ Y C (HRD.out (by first | rfl | trivial)) _ r6).mono ?_
      rintro e wp ⟨aop, cpp, rfl, -, rp, hbp⟩
      have f := f.trans (hbp.mono f.size)
      have rO := rO.below hbp
      have r2 := r2.below hbp
      have r4 := r4.below hbp
      have r8 := r8.below hbp
      clear hbp
      go_wp2_with fail
      refine (same_same _ _ _ _ _ _ C _ rp r4).mono ?_
      rintro e ws ⟨rfl, ns, hws⟩
      have d := below_drewN (Below.refl _ _) ns (a := wp) (B := wp.heap.size)
      rw [← hws] at d
      have f := f.trans (d.mono f.size)
      have rO := rO.below d
      have r2 := r2.below d
      have r8 := r8.below d
      clear hws d
      go_wp2_with fail
      refine (implText_any _ _ _ Z (textO Z) rfl _ r8 (tab_below HTB.out f)).mono ?_
      rintro e wt ⟨rfl, hbt⟩
      rw [HRD2.out (by first | rfl | trivial)]
      have f := f.trans (hbt.mono f.size)
      have rO := rO.below hbt
      have r2 := r2.below hbt
      clear hbt
      cases hok : oidOk o with
      | false =>
        obtain rfl : B = [] := by rw [← HB.out]; simp [putO, hok]
        obtain rfl : S = [] := by rw [← HS.out]; simp [textO, hok]
        have HOK := hide hok
        clear hok
        go_wp2_with fail
        refine (specOk_any _ _ _ o _ rO).mono ?_
        rintro e wa ⟨rfl, hwa⟩
        subst hwa
        rw [HOK.out]
        go_wp2_with fail
        refine (implOk_any _ _ _ o _ rO).mono ?_
        rintro e wb ⟨rfl, hwb⟩
        subst hwb
        rw [HOK.out]
        go_wp2
        go_ret
        exact ⟨rfl, f⟩
      | true =>
        have hgo : getO B = some o := by rw [← HB.out]; exact getO_put hok
        have hgt : getT (⟨S.toArray⟩ : ByteArray).data.toList = some o := by
          rw [← HS.out]
          exact getT_text hok
        have HG1 := hide (show (getO B).getD [] = o by rw [hgo]; rfl)
        have HG2 := hide (show (getO B).isSome = true by rw [hgo]; rfl)
        have HG3 := hide (show (getT (⟨S.toArray⟩ : ByteArray).data.toList).getD [] = o by rw [hgt]; rfl)
        have HG4 := hide (show (getT (⟨S.toArray⟩ : ByteArray).data.toList).isSome = true by rw [hgt]; rfl)
        have hSz : (⟨S.toArray⟩ : ByteArray).size ≤ 1048576 := by rw [Go.Lib.size_eq]; simp; omega
        have HOK := hide hok
        clear hok hgo hgt
        go_wp2_with fail
        refine (specOk_any _ _ _ o _ rO).mono ?_
        rintro e wa ⟨rfl, hwa⟩
        subst hwa
        rw [HOK.out]
        go_wp2_with fail
        refine (implGet_row _ _ _ B o true HG1.out HG2.out _ r2 (by omega)).mono ?_
        rintro e wc ⟨aoc, cc, rfl, -, rc, hbc⟩
        have f := f.trans (hbc.mono f.size)
        have rO := rO.below hbc
        clear hbc
        go_wp2_with fail
        refine (implParse_row ⟨S.toArray⟩ o true HG3.out HG4.out _ hSz).mono ?_
        rintro e wd ⟨aod, cd, rfl, -, rd, hbd⟩
        have f := f.trans (hbd.mono f.size)
        have rO := rO.below hbd
        have rc := rc.below hbd
        clear hbd
        go_wp2_with fail
        refine (implSame_any _ _ _ o _ _ _ o _ rc rO).mono ?_
        rintro e we ⟨rfl, ne, hwe⟩
        rw [decide_eq_true rfl]
        have d := below_drewN (Below.refl _ _) ne (a := wd) (B := wd.heap.size)
        rw [← hwe] at d
        have f := f.trans (d.mono f.size)
        have rO := rO.below d
        have rd := rd.below d
        clear hwe d
        go_wp2_with fail
        refine (implSame_any _ _ _ o _ _ _ o _ rd rO).mono ?_
        rintro e wf ⟨rfl, nf, hwf⟩
        rw [decide_eq_true rfl]
        have d := below_drewN (Below.refl _ _) nf (a := we) (B := we.heap.size)
        rw [← hwf] at d
        have f := f.trans (d.mono f.size)
        have rO := rO.below d
        clear hwf d
        go_wp2_with fail
        refine (implOk_any _ _ _ o _ rO).mono ?_
        rintro e wg ⟨rfl, hwg⟩
        subst hwg
        rw [HOK.out]
        go_wp2
        go_ret
        exact ⟨rfl, f⟩

theorem fnOids_own : ownKnob Tryd.prog.godebug = none := by kernel_rfl
theorem fnOids_laid : laidOutB Tryd.prog = true := by kernel_rfl

theorem fnOids_met (os : Os) (args : Array Value) : laidMetH Tryd.prog Rows.fnOidsRow.laid ((World.doorLaid Tryd.prog 400 os).forCall (fun _ _ => 0) ⟨#[], args, []⟩).memory :=
  laidMetH_of_parts3 (fuel := 8) (laidMet_of_run' 8 (by kernel_rfl) (by kernel_rfl)) (by kernel_rfl) (by kernel_rfl)

theorem fnOids_tab {W : World} (h : laidMetH Tryd.prog Rows.fnOidsRow.laid W) : Tab W := by
  rw [MakeChecks.laidMetH_plain _ _ _ (by kernel_rfl)] at h
  have h2 := laidMet.tail (laidMet.tail (show laidMet Tryd.prog (_ :: _ :: _) W from h))
  first
    | exact Go.Lib.tabIs_of_head (g := 0) (by kernel_rfl) (by kernel_rfl) Tryd.underlying90 Tryd.underlying80 (by kernel_rfl) (by kernel_rfl) h2
    | exact Go.Lib.tabIs_of_head (g := 1) (by kernel_rfl) (by kernel_rfl) Tryd.underlying90 Tryd.underlying80 (by kernel_rfl) (by kernel_rfl) h2
    | exact Go.Lib.tabIs_of_head (g := 2) (by kernel_rfl) (by kernel_rfl) Tryd.underlying90 Tryd.underlying80 (by kernel_rfl) (by kernel_rfl) h2
    | exact Go.Lib.tabIs_of_head (g := 3) (by kernel_rfl) (by kernel_rfl) Tryd.underlying90 Tryd.underlying80 (by kernel_rfl) (by kernel_rfl) h2
    | exact Go.Lib.tabIs_of_head (g := 4) (by kernel_rfl) (by kernel_rfl) Tryd.underlying90 Tryd.underlying80 (by kernel_rfl) (by kernel_rfl) h2

open Go.ChangeShapes Go.WideShapes Go.ChangeAt in
open Go.ChangeMaps (open_string shut_string) in
set_option maxRecDepth 100000 in
theorem fnOids_lifted (os : Os) (started : os.Started) (H : Type) (enc : TypeId × Value → H) :
    ReturnsInHanded {} Tryd.checked os 3 .any (fun w args => (Rows.fnOidsSpec.pre enc Tryd.prog Tryd.f3 [] false w args ∧ laidMetH Tryd.prog Rows.fnOidsRow.laid w) ∧ sizedMet enc Tryd.prog Tryd.f3 (OpenSpec.ofChange Rows.fnOidsSpec) false w args) (Rows.fnOidsSpec.post enc Tryd.prog Tryd.f3 false true false false) := by
  refine returnsInHanded_of_change_and (C := Tryd.checked) (X := fun w _ => laidMetH Tryd.prog Rows.fnOidsRow.laid w) (fun _ _ _ hh h => h.of_heap hh) fnOids_own started (by kernel_rfl) Tryd.func3
    (ChangeSpec.witness_shaped (enc := enc) (C := Tryd.checked) (os := os) (X := fun w _ => laidMetH Tryd.prog Rows.fnOidsRow.laid w) false (World.doorLaid Tryd.prog 400 os) #[.slice none 0 0] 8 rfl (World.shaped_of_RefB (by kernel_rfl) (by kernel_rfl)) (by kernel_rfl) (by kernel_rfl) (by kernel_rfl) (fnOids_met os _)) ?_
  intro W base args ds gs before hval0 hW _ _ hL _
  have hval : ∀ (j : Nat) t v, Tryd.f3.params[j]? = some t → args[j]? = some v → Value.okWide Tryd.prog W .any base t v := hval0
  have hW' := hW
  obtain ⟨p, q, hA0, hV, rfl, hfz, hnd⟩ := hW
  have hA : DataW.TrodAll enc Tryd.prog W 0 (fun _ => true) true Tryd.f3.params.toList args.toList ds p := hA0
  rw [Tryd.params3] at hA hval
  obtain ⟨v0, vs0, d0, ds0, p0, q0, hargs, rfl, rfl, h0, r0⟩ := trodAll_cons hA
  obtain ⟨rfl, rfl, rfl⟩ := trodAll_nil r0
  obtain rfl : args = #[v0] := by cases args; simp_all
  obtain ⟨rfl, rfl⟩ := trodVars_none hV
  obtain ⟨a0, len0, cap0, rfl⟩ := okWide_slice Tryd.underlying22 (hval 0 22 v0 rfl rfl)
  have k0 := h0
  have lt0 : ∀ x ∈ p0, x.block < W.heap.size := by obtain ⟨m, hm⟩ := k0; exact DataW.trod_lt m _ _ _ hm
  obtain ⟨z0, w0⟩ : ∃ zs, Row W a0 len0 cap0 zs := by
    obtain ⟨fuel, hf⟩ := h0
    rcases open_ints Tryd.underlying22 Tryd.underlying5 (by kernel_rfl) hf with ⟨hcs, _⟩ | ⟨x, l, c, zs, hcs, _, hl, hm, hz, _, hcell, hwz⟩
    · simp [Value.cells] at hcs
      obtain ⟨rfl, rfl, rfl⟩ := hcs
      exact ⟨[], row_nil W⟩
    · simp [Value.cells] at hcs
      obtain ⟨rfl, rfl, rfl⟩ := hcs
      exact ⟨zs.take len0, row_open hl hm (by simpa using hz) hcell hwz⟩
  clear hA0 hval0
  have htab := fnOids_tab hL
  refine (oids_walk a0 len0 cap0 z0 W w0 htab).mono fun e W' ⟨he, bel⟩ => ?_
  subst he
  exact ⟨_, rfl, _, _, _, [], _, [], hW', trodAll_mk1 (shut_bool Tryd.underlying4 _), (trodAll_cons_mk (Below.trod fnOids_laid (by kernel_rfl) (of_decide_eq_true (by kernel_rfl)) k0 bel lt0) trodAll_mk0), rfl, bel.frame _, fun h => by cases h⟩

theorem fnOids_row : Rows.FnOidsSaid :=
  OpenClaim.holds_of_wide 3 Tryd.f3 rfl rfl rfl rfl rfl rfl rfl ⟨rfl, rfl, rfl, rfl, rfl⟩ rfl rfl rfl rfl rfl (by kernel_rfl) Tryd.func3 (by kernel_rfl)
    (of_decide_eq_true (by kernel_rfl)) (by unfold Func.isWrapper; first | (rw [if_pos (by decide +kernel)]; kernel_rfl) | (rw [if_neg (by decide +kernel)]; exact ⟨rfl, rfl⟩))
    (fun os started H enc _ => fnOids_lifted os started H enc)

theorem fnOids_holds : Rows.FnOidsCardSaid :=
  Claim7.holds_tied_plain_at .later [] Rows.fnOidsCard.laidKinds true Rows.fnOidsCard.stood.harness Rows.fnOidsCard.stood.looks
    fnOids_row (fun _ h => by cases h) (by kernel_rfl) (fun _ h => by cases h) fnOids_row_tie rfl ⟨rfl, rfl⟩ (by kernel_rfl) rfl
    (fun f fn hf hfn => by
      obtain rfl : f = 3 := Option.some.inj ((show Tryd.prog.funcNamed Rows.fnOidsRow.func = some 3 by kernel_rfl).symm.trans hf) |>.symm
      obtain rfl : fn = Tryd.f3 := (Option.some.inj (Tryd.func3.symm.trans hfn)).symm
      exact ⟨by kernel_rfl, fun j t ht => by
        rw [Tryd.params3] at ht
        have hm : t ∈ [22] := by simpa using Array.mem_of_getElem? ht
        have hall : ([22].all fun u => !Tryd.prog.wantsStandIn u) = true := by kernel_rfl
        exact (show Tryd.prog.wantsStandIn t = false by simpa using List.all_eq_true.1 hall t hm)⟩)
    (by kernel_rfl)

#print axioms fnOids_holds

end Go.Proofs.YtpnhockgaajihaaDoor
