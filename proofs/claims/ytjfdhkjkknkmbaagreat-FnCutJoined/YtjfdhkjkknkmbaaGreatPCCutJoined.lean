/-
  FnCutJoined answers true of every code: a drawn link that is cut and joined is up again, with nothing heard at either end; a cut one is heard by nobody.
-/
import Derived.Test.YtjfdhkjkknkmbaaGreatPCKW
import Derived.Test.YtjfdhkjkknkmbaaGreatPCK01
import Derived.Test.YtjfdhkjkknkmbaaGreatPCK06
import Derived.Test.YtjfdhkjkknkmbaaGreatPCK17
import Derived.Test.YtjfdhkjkknkmbaaGreatPCK35
import Derived.Test.YtjfdhkjkknkmbaaGreatPCOkRg
import Derived.Test.YtjfdhkjkknkmbaaGreatPCStepStepI
import Derived.WalkKit
import Derived.ProofKit
import Derived.OpenShut
import Derived.ShutString
import Derived.ChangeOld
import Derived.Below
namespace Go.Proofs.YtjfdhkjkknkmbaaGreat
set_option maxRecDepth 100000
set_option maxHeartbeats 16000000
open Go.RowKit

theorem zeF (a0:Option Addr) (l0 c0:Nat) (z0:List Int) (w:World) (h0:Row w a0 l0 c0 z0) :
  Calls Tryz.prog 6 #[.slice a0 l0 c0] w fun e w'=>e=.returned (.bool true)∧Below w.heap.size w w':=by
 by_cases hbig:1048576 < l0
 ·have hb1:Calls Tryz.prog 8 #[.slice a0 l0 c0] w fun e w'=>e=.returned (.bool true)∧w'=w:=by
   have i1:(1048576:Int) < l0:=by omega
   go_enter Tryz.func8,Tryz.ntmps8;go_wp2;go_ret;exact ⟨rfl,rfl⟩
  go_enter Tryz.func6,Tryz.ntmps6;go_wp2_with (go_at_call 8; refine hb1.mono ?_; rintro e w' ⟨rfl,rfl⟩)
  go_ret;exact ⟨rfl,Below.refl _ _⟩
 obtain ⟨xa,xa0,xa1,hat⟩:=zjA a0 l0 c0 z0 (by omega);go_enter Tryz.func6,Tryz.ntmps6;go_wp2_with (go_at_call 8; refine (zjX a0 l0 c0 _ hbig).mono ?_; rintro e w' ⟨rfl,e3⟩; obtain rfl:=e3.symm)
 refine (zgl a0 l0 c0 z0 _ h0 (by omega)).mono ?_;rintro e w1 ⟨N,ao,cap,l,rfl,oN,hok,-,-,bw⟩;have HOK:=hide hok;generalize hwb:w1.alloc (Obj.cells #[.slice N.ba N.bn N.bc,.slice N.la N.ln N.lc,.slice N.sa N.sn N.sc] 31)=w2;have bb:=zb hwb;have kN:=zk hwb;have oN:=oN.below bb;have bw:=zc bw bb;generalize hXN:w1.heap.size=XN at *;clear hok bb;obtain ⟨x0,x1,x2⟩:=zd kN;by_cases hl0:N.ln=0
 ·have hl0':(N.ln:Int)=0:=by omega
  have HL0:=hide hl0;clear hl0;(go_wp2_with fail);clear hwb;refine (zbF N 4 0 _ (oN.row) (by have:=(zaQ (oN.row) HOK.out).1; omega) (by have:=(zaQ (oN.row) HOK.out).2.1; omega) (by have:=(zaQ (oN.row) HOK.out).2.2.1; omega) (zcj (oN.row) (fun B hB=>ok_sm (HOK.out.1.1 B hB))) (fun B hB=>ok_rg (HOK.out.1.1 B hB))).mono ?_;rintro e w3 ⟨M,q,rfl,oM,hst,hb3⟩;have hq:q=false:=(hst.no (fun hc=>by have h1:=hc.2; unfold zap zY at h1; simp at h1; have h2:=oN.l.1; have:=oN.row.l.size; omega)).1;subst hq;have HB:=hide (zc bw hb3);clear hst oM hb3 x0 x1 x2;go_wp2;go_ret;exact ⟨rfl,zc HB.out (zl _ _)⟩
 ·have hl1:0 < (N.ln:Int):=by omega
  have hl2:¬(N.ln:Int)=0:=by omega
  have hl9:(N.ln:Int)≤9:=by have:=(zaQ oN.row HOK.out).2.1; omega
  obtain ⟨k,hk⟩:∃k:Nat,xa % (N.ln:Int)=(k:Int):=⟨(xa % (N.ln:Int)).toNat,by have:=Int.emod_nonneg xa hl2; omega⟩;have hkl:k < N.ln:=by have:=Int.emod_lt_of_pos xa hl1; omega
  have hmm:xa.tmod (N.ln:Int)=(k:Int):=by rw [Int.tmod_eq_emod_of_nonneg xa0,hk]
  obtain ⟨x,lb,lo,hx,hla,-⟩:=zaF oN.row.l k hkl;have HX:=hide hx;have HLA:=hide hla;have vv:Below w2.heap.size w2 w2.drew:=zq (Below.refl _ _);clear hx hla hk;(go_upto_region 7 with fail);clear hwb;refine wp_region_held_drew (S:=(fun W=>W.cell? ⟨XN,1,none⟩=some (.slice N.la N.ln N.lc))) (by kernel_rfl) ((zd (za kN vv)).2.1) (fun hHeld => ?_);refine kK 0 ⟨some 35,.move (.tmp 0),22,"laws.go:776",#[],none⟩ ?_;refine kK 2 ⟨some 37,.fieldAddr 31 (.tmp 3) 1,0,"laws.go:776",#[],none⟩ ?_;refine kK 3 ⟨some 38,.load 25 (.tmp 37),25,"laws.go:776",#[⟨2,.data⟩],none⟩ ?_;refine kK 4 ⟨some 39,.call ⟨.builtin .len,#[.tmp 38],#[25]⟩,3,"laws.go:776",#[⟨3,.data⟩],none⟩ ?_;refine kR 1 ⟨some 36,.call ⟨.value (.func 35),#[.tmp 35,.const (.int .i64 2)],#[22,3]⟩,3,"laws.go:776",#[⟨0,.data⟩],none⟩ (fun K hK => ?_);go_simp;clear hHeld;refine (hat _ (h0.below (zc bw vv))).mono ?_;rintro e w3 ⟨rfl,e3⟩;obtain rfl:=e3.symm;(go_wp2_with fail);refine hK.out _ _ ((zd (za kN vv)).2.1) (fun hHeld => ?_);clear hK K;(try simp only [Act.put,lA,lB,lC]);refine wpAnyH_take (i:=5) (oi:=⟨some 40,.binOp .rem 3 (.tmp 36) (.tmp 39) 3,3,"laws.go:776",#[⟨1,.data⟩,⟨4,.data⟩],none⟩) (v:=.int .i64 (k:Int)) rfl (by kernel_rfl) (by kernel_rfl) (by kernel_rfl) (fun _ _ _ h=>h) (Or.inl ⟨by rfl, ?_⟩) (by assumption) ?_
  ·(intro wY hSw; (try dsimp only at hSw); go_simp; first | done | omega)
  simp only [Act.put,lA,lB,lC];refine kK 6 ⟨some 7,.assign (.tmp 40),3,"laws.go:776",#[⟨5,.data⟩,⟨1,.chain⟩,⟨0,.phase⟩,⟨1,.phase⟩,⟨2,.phase⟩,⟨3,.phase⟩,⟨4,.phase⟩,⟨5,.phase⟩],none⟩ ?_;refine wpAnyH_done (by kernel_rfl) ?_ _;have kN:=za kN vv;have oN:=oN.below vv;have bw:=zc bw vv;clear hHeld vv x0 x1 x2;generalize w2.drew=wd at *;obtain ⟨x0,x1,x2⟩:=zd kN;(go_wp2_with fail);refine (zbF N 4 (k:Int) _ (oN.row) (by have:=(zaQ (oN.row) HOK.out).1; omega) (by have:=(zaQ (oN.row) HOK.out).2.1; omega) (by have:=(zaQ (oN.row) HOK.out).2.2.1; omega) (zcj (oN.row) (fun B hB=>ok_sm (HOK.out.1.1 B hB))) (fun B hB=>ok_rg (HOK.out.1.1 B hB))).mono ?_;rintro e w4 ⟨M,q1,rfl,oM,hst1,hb4⟩;have hth:∀kd:Int,kd=4∨kd=5→zap N.brs N.ls N.ss kd (k:Int):=fun kd hkd=>by
   have:=oN.row.l.size
   rcases hkd with rfl | rfl <;> (unfold zap zY; simp; omega)
  obtain ⟨rfl,hM1,hM2⟩:=hst1.yes HOK.out (hth 4 (.inl rfl));have hML:M.ls=N.ls:=hst1.l;have hM1:M.brs=zbk N.brs N.ls k false:=hM1;have HE1:Hid (zdw M.brs x false):=hide (by rw [hM1]; exact zgY HOK.out HX.out false (fun _=>rfl));have HOK1:Hid (NetOk M.brs M.ls M.ss):=hide (zdY hst1 HOK.out);have HML:=hide hML;generalize hwb:w4.alloc (Obj.cells #[.slice M.ba M.bn M.bc,.slice M.la M.ln M.lc,.slice M.sa M.sn M.sc] 31)=w5;have bb:=zb hwb;have kM:=zk hwb;have hb5:=zc hb4 bb;have oM:=oM.below bb;have oN:=oN.below hb5;have kN:=za kN hb5;have bw:=zc bw hb5;generalize hXM:w4.heap.size=XM at *;clear hst1 hM1 hM2 hML bb hb4 hb5 x0 x1 x2;obtain ⟨x0,x1,x2⟩:=zd kM;(go_wp2_with fail);clear hwb;refine (zbF M 5 (k:Int) _ (oM.row) (by have:=(zaQ (oM.row) HOK1.out).1; omega) (by have:=(zaQ (oM.row) HOK1.out).2.1; omega) (by have:=(zaQ (oM.row) HOK1.out).2.2.1; omega) (zcj (oM.row) (fun B hB=>ok_sm (HOK1.out.1.1 B hB))) (fun B hB=>ok_rg (HOK1.out.1.1 B hB))).mono ?_;rintro e w6 ⟨Y,q2,rfl,oY,hst2,hb6⟩;have hth2:zap M.brs M.ls M.ss 5 (k:Int):=by
   have:=oN.row.l.size
   unfold zap zY;rw [HML.out]
   simp
   omega
  obtain ⟨rfl,hY1,-⟩:=hst2.yes HOK1.out hth2;have HYL:Hid (Y.ls=N.ls):=hide (hst2.l.trans HML.out);have hY1:Y.brs=zbk M.brs M.ls k true:=hY1;have HE2:Hid (zdw Y.brs x true):=hide (by rw [hY1]; exact zgY HOK1.out (by rw [HML.out]; exact HX.out) true (fun e=>by rw [zgn (by rw [HML.out]; exact HX.out) HE1.out] at e; cases e));have HU1:Hid (zae M.brs M.ls (k:Int)=false):=hide (zgn (by rw [HML.out]; exact HX.out) HE1.out);have HU2:Hid (zae Y.brs Y.ls (k:Int)=true):=hide (zgn (by rw [HYL.out]; exact HX.out) HE2.out);generalize hwb:w6.alloc (Obj.cells #[.slice Y.ba Y.bn Y.bc,.slice Y.la Y.ln Y.lc,.slice Y.sa Y.sn Y.sc] 31)=w7;have bb:=zb hwb;have kY:=zk hwb;have hb7:=zc hb6 bb;have oY:=oY.below bb;have oM:=oM.below hb7;have oN:=oN.below hb7;have kN:=za kN hb7;have kM:=za kM hb7;have bw:=zc bw hb7;generalize hXY:w6.heap.size=XY at *;clear hst2 hY1 hth2 hth bb hb6 hb7 x0 x1 x2;obtain ⟨x0,x1,x2⟩:=zd kM;obtain ⟨y0,y1,y2⟩:=zd kY;(go_wp2_with fail);clear hwb;refine (zaP M (k:Int) _ oM.row).mono ?_;rintro e w8 ⟨rfl,hb8⟩;rw [HU1.out];have oY:=oY.below hb8;have oM:=oM.below hb8;have oN:=oN.below hb8;have kN:=za kN hb8;have kM:=za kM hb8;have kY:=za kY hb8;have bw:=zc bw hb8;clear hb8 x0 x1 x2 y0 y1 y2;obtain ⟨x0,x1,x2⟩:=zd kM;obtain ⟨y0,y1,y2⟩:=zd kY;(go_wp2_with fail);refine (zaP Y (k:Int) _ oY.row).mono ?_;rintro e w9 ⟨rfl,hb9⟩;rw [HU2.out];have oY:=oY.below hb9;have oM:=oM.below hb9;have oN:=oN.below hb9;have kN:=za kN hb9;have kM:=za kM hb9;have kY:=za kY hb9;have bw:=zc bw hb9;clear hb9 x0 x1 x2 y0 y1 y2;obtain ⟨x0,x1,x2⟩:=zd kN;obtain ⟨x',lb',lo',hx',hla',a0,a1,a2,a3⟩:=zaF oN.row.l k hkl;rw [HX.out] at hx';cases hx';rw [HLA.out] at hla';cases hla';rw [HLA.out] at x1;have i1:(0:Int)≤(k:Int):=by omega
  have i2:(k:Int) < (N.ln:Int):=by omega
  generalize hwb:w9.alloc (Obj.cells #[.int .i64 x.a,.int .i64 x.p,.int .i64 x.b,.int .i64 x.q] 44)=wb;have bb:=zb hwb;have kL:=zk hwb;have oY:=oY.below bb;have oM:=oM.below bb;have kM:=za kM bb;have kY:=za kY bb;have bw:=zc bw bb;generalize hXL:w9.heap.size=XL at *;clear bb oN kN;(go_wp2_with fail);clear hwb x0 x1 x2 a0 a1 a2 a3
  go_loopw [13,14,15] (fun v u14 u15 wr=>∃i bY bM:Nat,v=.int .i64 (i:Int)∧i≤M.sn∧NOwn wr bY Y∧NOwn wr bM M∧wr.heap[XM]?=some (.cells #[.slice M.ba M.bn M.bc,.slice M.la M.ln M.lc,.slice M.sa M.sn M.sc] 31)∧wr.heap[XY]?=some (.cells #[.slice Y.ba Y.bn Y.bc,.slice Y.la Y.ln Y.lc,.slice Y.sa Y.sn Y.sc] 31)∧wr.heap[XL]?=some (.cells #[.int .i64 x.a,.int .i64 x.p,.int .i64 x.b,.int .i64 x.q] 44)∧Below w.heap.size w wr) (fun v _ _ _=>M.sn - (intOf v).toNat)
  case atStart=>exact ⟨0,_,_,rfl,Nat.zero_le _,oY,oM,kM,kY,kL,bw⟩
  case round =>
   clear oY oM kM kY kL bw;obtain ⟨i,bY,bM,rfl,hi,oY,oM,kM,kY,kL,bw⟩:=hrel;have hsn:(M.sn:Int)≤40:=by have:=(zaQ oM.row HOK1.out).2.2.1; omega
   obtain ⟨x0,x1,x2⟩:=zd kM;by_cases his:i < M.sn
   ·have his':(i:Int) < (M.sn:Int):=by omega
    have his0:(0:Int)≤(i:Int):=by omega
    obtain ⟨sx,sb,so,hsx,hsa,t0,-⟩:=zf6 oM.row.s i his;have HSA:=hide hsa;have HSX:=hide hsx;rw [hsa] at x2;clear hsa hsx;by_cases hsk:sx.l=(k:Int)
    ·rw [hsk] at t0;(go_wp2_with fail);clear t0;rw [← HSA.out];refine (zbF M 2 (i:Int) _ (oM.row) (by have:=(zaQ (oM.row) HOK1.out).1; omega) (by have:=(zaQ (oM.row) HOK1.out).2.1; omega) (by have:=(zaQ (oM.row) HOK1.out).2.2.1; omega) (zcj (oM.row) (fun B hB=>ok_sm (HOK1.out.1.1 B hB))) (fun B hB=>ok_rg (HOK1.out.1.1 B hB))).mono ?_;rintro e w4 ⟨Z,q3,rfl,oZ,hst3,hb4⟩;have hth3:zap M.brs M.ls M.ss 2 (i:Int):=by
      have:=oM.row.s.size
      unfold zap zY
      simp
      omega
     obtain ⟨rfl,hZ1,-⟩:=hst3.yes HOK1.out hth3;have hZ2:Z.brs=M.brs:=by
      show (Z.brs,Z.ls,Z.ss).1=M.brs
      rw [hZ1]
      show zb9 M.brs M.ls M.ss 2 ((i:Int).toNat)=M.brs
      unfold zb9;rw [Int.toNat_natCast,HSX.out]
      show za9 M.brs M.ls 2 sx=M.brs
      unfold za9;rw [if_neg (fun hc=>by rw [hsk,HU1.out] at hc; cases hc.2)]
     have HEZ:Hid (zdw Z.brs x false):=hide (by rw [hZ2]; exact HE1.out);generalize hwb:w4.alloc (Obj.cells #[.slice Z.ba Z.bn Z.bc,.slice Z.la Z.ln Z.lc,.slice Z.sa Z.sn Z.sc] 31)=w5;have bb:=zb hwb;have kZ:=zk hwb;have hb5:=zc hb4 bb;have oZ:=oZ.below bb;have oM:=oM.below hb5;have oY:=oY.below hb5;have kM:=za kM hb5;have kY:=za kY hb5;have kL:=za kL hb5;have bw:=zc bw hb5;generalize hXZ:w4.heap.size=XZ at *;clear hst3 hZ1 hZ2 hth3 bb hb4 hb5 x0 x1 x2;(go_wp2_with fail);clear hwb;obtain ⟨u,v,hu,hv,-,-,hh1,hh2⟩:=HEZ.out.is;obtain ⟨i1,j1,b1,o1,g1,p1,n1,c1,ea1,ep1,hb1,hi1,hj1,q1,r1⟩:=zg1 (oZ.row) hu;obtain ⟨i2,j2,b2,o2,g2,p2,n2,c2,ea2,ep2,hb2,hi2,hj2,q2,r2⟩:=zg1 (oZ.row) hv;rw [hb1] at hb2;cases hb2;rw [hh1] at r1;rw [hh2] at r2;obtain ⟨z0,z1,z2⟩:=zd kZ;rw [hb1] at z0;obtain ⟨l0',l1',l2',l3'⟩:=zJ kL;rw [ea1] at l0';rw [ep1] at l1';rw [ea2] at l2';rw [ep2] at l3';have HS:Hid (∀W,Below w5.heap.size w5 W→W.cell? ⟨XZ,0,none⟩=some (.slice (some ⟨b1,o1,none⟩) Z.bn Z.bc)∧(W.cell? ⟨XL,0,none⟩=some (.int .i64 (i1:Int))∧W.cell? ⟨XL,1,none⟩=some (.int .i64 (j1:Int))∧W.cell? ⟨XL,2,none⟩=some (.int .i64 (i2:Int))∧W.cell? ⟨XL,3,none⟩=some (.int .i64 (j2:Int)))∧(W.cell? ⟨b1,o1+i1*11+2,none⟩=some (.slice (some ⟨g1,p1,none⟩) n1 c1)∧W.cell? ⟨g1,p1+j1*8+2,none⟩=some (.bool false))∧(W.cell? ⟨b1,o1+i2*11+2,none⟩=some (.slice (some ⟨g2,p2,none⟩) n2 c2)∧W.cell? ⟨g2,p2+j2*8+2,none⟩=some (.bool false))):=hide (fun W hW=>⟨(hW.cell (zo z0)).trans z0,⟨(hW.cell (zo l0')).trans l0',(hW.cell (zo l1')).trans l1',(hW.cell (zo l2')).trans l2',(hW.cell (zo l3')).trans l3'⟩,⟨(hW.cell (zo q1)).trans q1,(hW.cell (zo r1)).trans r1⟩,(hW.cell (zo q2)).trans q2,(hW.cell (zo r2)).trans r2⟩);have n1a:(0:Int)≤(i1:Int):=by omega
     have n1b:(i1:Int) < (Z.bn:Int):=by omega
     have n1c:(0:Int)≤(j1:Int):=by omega
     have n1d:(j1:Int) < (n1:Int):=by omega
     have n2a:(0:Int)≤(i2:Int):=by omega
     have n2b:(i2:Int) < (Z.bn:Int):=by omega
     have n2c:(0:Int)≤(j2:Int):=by omega
     have n2d:(j2:Int) < (n2:Int):=by omega
     have vv:Below w5.heap.size w5 w5.drew:=zq (Below.refl _ _);clear z0 z1 z2 l0' l1' l2' l3' q1 r1 q2 r2 hb1;(go_upto_region 18 with fail);refine wp_region_held_drew (S:=(fun W=>W.cell? ⟨XZ,0,none⟩=some (.slice (some ⟨b1,o1,none⟩) Z.bn Z.bc)∧(W.cell? ⟨XL,0,none⟩=some (.int .i64 (i1:Int))∧W.cell? ⟨XL,1,none⟩=some (.int .i64 (j1:Int))∧W.cell? ⟨XL,2,none⟩=some (.int .i64 (i2:Int))∧W.cell? ⟨XL,3,none⟩=some (.int .i64 (j2:Int)))∧(W.cell? ⟨b1,o1+i1*11+2,none⟩=some (.slice (some ⟨g1,p1,none⟩) n1 c1)∧W.cell? ⟨g1,p1+j1*8+2,none⟩=some (.bool false))∧(W.cell? ⟨b1,o1+i2*11+2,none⟩=some (.slice (some ⟨g2,p2,none⟩) n2 c2)∧W.cell? ⟨g2,p2+j2*8+2,none⟩=some (.bool false)))) (by kernel_rfl) (HS.out _ vv) (fun hHeld => ?_);refine kK 0 ⟨some 99,.move (.tmp 15),4,"laws.go:786",#[],none⟩ ?_;refine kK 1 ⟨some 100,.unOp .not 4 (.tmp 99),4,"laws.go:786",#[⟨0,.data⟩],none⟩ ?_;refine kK 2 ⟨some 101,.move (.tmp 100),4,"laws.go:786",#[⟨1,.data⟩],none⟩ ?_;refine kK 3 ⟨some 102,.fieldAddr 31 (.tmp 14) 0,0,"laws.go:786",#[⟨2,.guard⟩],some (2,false)⟩ ?_;refine kK 4 ⟨some 103,.load 28 (.tmp 102),28,"laws.go:786",#[⟨3,.data⟩,⟨2,.guard⟩],some (2,false)⟩ ?_;refine kK 5 ⟨some 104,.fieldAddr 44 (.tmp 12) 0,0,"laws.go:786",#[⟨2,.guard⟩],some (2,false)⟩ ?_;refine kK 6 ⟨some 105,.load 3 (.tmp 104),3,"laws.go:786",#[⟨5,.data⟩,⟨2,.guard⟩],some (2,false)⟩ ?_;refine kK 7 ⟨some 106,.indexAddr 28 (.tmp 103) (.tmp 105),0,"laws.go:786",#[⟨4,.data⟩,⟨6,.data⟩,⟨2,.guard⟩],some (2,false)⟩ ?_;refine kK 8 ⟨some 107,.fieldAddr 70 (.tmp 106) 2,0,"laws.go:786",#[⟨7,.data⟩,⟨2,.guard⟩],some (2,false)⟩ ?_;refine kK 9 ⟨some 108,.load 64 (.tmp 107),64,"laws.go:786",#[⟨8,.data⟩,⟨2,.guard⟩],some (2,false)⟩ ?_;refine kK 10 ⟨some 109,.fieldAddr 44 (.tmp 12) 1,0,"laws.go:786",#[⟨2,.guard⟩],some (2,false)⟩ ?_;refine kK 11 ⟨some 110,.load 3 (.tmp 109),3,"laws.go:786",#[⟨10,.data⟩,⟨2,.guard⟩],some (2,false)⟩ ?_;refine kK 12 ⟨some 111,.indexAddr 64 (.tmp 108) (.tmp 110),0,"laws.go:786",#[⟨9,.data⟩,⟨11,.data⟩,⟨2,.guard⟩],some (2,false)⟩ ?_;refine kK 13 ⟨some 112,.fieldAddr 63 (.tmp 111) 2,0,"laws.go:786",#[⟨12,.data⟩,⟨2,.guard⟩],some (2,false)⟩ ?_;refine kK 14 ⟨some 113,.load 4 (.tmp 112),4,"laws.go:786",#[⟨13,.data⟩,⟨2,.guard⟩],some (2,false)⟩ ?_;refine kK 15 ⟨some 114,.pick (.tmp 101) (.const (.bool true)) (.tmp 113),4,"laws.go:786",#[⟨2,.data⟩,⟨14,.data⟩],none⟩ ?_;refine kK 16 ⟨some 115,.move (.tmp 114),4,"laws.go:786",#[⟨15,.data⟩,⟨2,.chain⟩],none⟩ ?_;refine kK 17 ⟨some 116,.fieldAddr 31 (.tmp 14) 0,0,"laws.go:786",#[⟨16,.guard⟩],some (16,false)⟩ ?_;refine kK 18 ⟨some 117,.load 28 (.tmp 116),28,"laws.go:786",#[⟨17,.data⟩,⟨16,.guard⟩],some (16,false)⟩ ?_;refine kK 19 ⟨some 118,.fieldAddr 44 (.tmp 12) 2,0,"laws.go:786",#[⟨16,.guard⟩],some (16,false)⟩ ?_;refine kK 20 ⟨some 119,.load 3 (.tmp 118),3,"laws.go:786",#[⟨19,.data⟩,⟨16,.guard⟩],some (16,false)⟩ ?_;refine kK 21 ⟨some 120,.indexAddr 28 (.tmp 117) (.tmp 119),0,"laws.go:786",#[⟨18,.data⟩,⟨20,.data⟩,⟨16,.guard⟩],some (16,false)⟩ ?_;refine kK 22 ⟨some 121,.fieldAddr 70 (.tmp 120) 2,0,"laws.go:786",#[⟨21,.data⟩,⟨16,.guard⟩],some (16,false)⟩ ?_;refine kK 23 ⟨some 122,.load 64 (.tmp 121),64,"laws.go:786",#[⟨22,.data⟩,⟨16,.guard⟩],some (16,false)⟩ ?_;refine kK 24 ⟨some 123,.fieldAddr 44 (.tmp 12) 3,0,"laws.go:786",#[⟨16,.guard⟩],some (16,false)⟩ ?_;refine kK 25 ⟨some 124,.load 3 (.tmp 123),3,"laws.go:786",#[⟨24,.data⟩,⟨16,.guard⟩],some (16,false)⟩ ?_;refine kK 26 ⟨some 125,.indexAddr 64 (.tmp 122) (.tmp 124),0,"laws.go:786",#[⟨23,.data⟩,⟨25,.data⟩,⟨16,.guard⟩],some (16,false)⟩ ?_;refine kK 27 ⟨some 126,.fieldAddr 63 (.tmp 125) 2,0,"laws.go:786",#[⟨26,.data⟩,⟨16,.guard⟩],some (16,false)⟩ ?_;refine kK 28 ⟨some 127,.load 4 (.tmp 126),4,"laws.go:786",#[⟨27,.data⟩,⟨16,.guard⟩],some (16,false)⟩ ?_;refine kK 29 ⟨some 128,.pick (.tmp 115) (.const (.bool true)) (.tmp 127),4,"laws.go:786",#[⟨16,.data⟩,⟨28,.data⟩],none⟩ ?_;refine wpAnyH_done (by kernel_rfl) ?_ _;have oY:=oY.below vv;have HOY:=hide oY;have HOM:=hide (oM.below vv);have HKM:=hide (za kM vv);have HKY:=hide (za kY vv);have HKL:=hide (za kL vv);have HBW:=hide (zc bw vv);clear hHeld vv oY oM kM kY kL bw;go_wp2
     go_roundw
     case rel=>exact ⟨i+1,bY,bM,by go_num,by omega,HOY.out,HOM.out,HKM.out,HKY.out,HKL.out,HBW.out⟩
     case measure=>simp [intOf]; omega
    ·have hsk':(sx.l == (k:Int))=false:=by simp [hsk]
     have HOY:=hide oY;have HOM:=hide oM;have HKM:=hide kM;have HKY:=hide kY;have HKL:=hide kL;have HBW:=hide bw;clear oY oM kM kY kL bw;go_wp2
     go_roundw
     case rel=>exact ⟨i+1,bY,bM,by go_num,by omega,HOY.out,HOM.out,HKM.out,HKY.out,HKL.out,HBW.out⟩
     case measure=>simp [intOf]; omega
   ·have his':¬(i:Int) < (M.sn:Int):=by omega
    (go_upto_region 20 with fail);obtain ⟨u,v,hu,hv,-,-,hh1,hh2⟩:=HE2.out.is;obtain ⟨i1,j1,b1,o1,g1,p1,n1,c1,ea1,ep1,hb1,hi1,hj1,q1,r1⟩:=zg1 (oY.row) hu;obtain ⟨i2,j2,b2,o2,g2,p2,n2,c2,ea2,ep2,hb2,hi2,hj2,q2,r2⟩:=zg1 (oY.row) hv;rw [hb1] at hb2;cases hb2;rw [hh1] at r1;rw [hh2] at r2;obtain ⟨z0,z1,z2⟩:=zd kY;rw [hb1] at z0;obtain ⟨l0',l1',l2',l3'⟩:=zJ kL;rw [ea1] at l0';rw [ep1] at l1';rw [ea2] at l2';rw [ep2] at l3';have HS:Hid (∀W,Below wr.heap.size wr W→W.cell? ⟨XY,0,none⟩=some (.slice (some ⟨b1,o1,none⟩) Y.bn Y.bc)∧(W.cell? ⟨XL,0,none⟩=some (.int .i64 (i1:Int))∧W.cell? ⟨XL,1,none⟩=some (.int .i64 (j1:Int))∧W.cell? ⟨XL,2,none⟩=some (.int .i64 (i2:Int))∧W.cell? ⟨XL,3,none⟩=some (.int .i64 (j2:Int)))∧(W.cell? ⟨b1,o1+i1*11+2,none⟩=some (.slice (some ⟨g1,p1,none⟩) n1 c1)∧W.cell? ⟨g1,p1+j1*8+2,none⟩=some (.bool false))∧(W.cell? ⟨b1,o1+i2*11+2,none⟩=some (.slice (some ⟨g2,p2,none⟩) n2 c2)∧W.cell? ⟨g2,p2+j2*8+2,none⟩=some (.bool false))):=hide (fun W hW=>⟨(hW.cell (zo z0)).trans z0,⟨(hW.cell (zo l0')).trans l0',(hW.cell (zo l1')).trans l1',(hW.cell (zo l2')).trans l2',(hW.cell (zo l3')).trans l3'⟩,⟨(hW.cell (zo q1)).trans q1,(hW.cell (zo r1)).trans r1⟩,(hW.cell (zo q2)).trans q2,(hW.cell (zo r2)).trans r2⟩);have n1a:(0:Int)≤(i1:Int):=by omega
    have n1b:(i1:Int) < (Y.bn:Int):=by omega
    have n1c:(0:Int)≤(j1:Int):=by omega
    have n1d:(j1:Int) < (n1:Int):=by omega
    have n2a:(0:Int)≤(i2:Int):=by omega
    have n2b:(i2:Int) < (Y.bn:Int):=by omega
    have n2c:(0:Int)≤(j2:Int):=by omega
    have n2d:(j2:Int) < (n2:Int):=by omega
    have vv:Below wr.heap.size wr wr.drew:=zq (Below.refl _ _);clear z0 z1 z2 l0' l1' l2' l3' q1 r1 q2 r2 hb1;clear x0 x1 x2;refine wp_region_held_drew (S:=(fun W=>W.cell? ⟨XY,0,none⟩=some (.slice (some ⟨b1,o1,none⟩) Y.bn Y.bc)∧(W.cell? ⟨XL,0,none⟩=some (.int .i64 (i1:Int))∧W.cell? ⟨XL,1,none⟩=some (.int .i64 (j1:Int))∧W.cell? ⟨XL,2,none⟩=some (.int .i64 (i2:Int))∧W.cell? ⟨XL,3,none⟩=some (.int .i64 (j2:Int)))∧(W.cell? ⟨b1,o1+i1*11+2,none⟩=some (.slice (some ⟨g1,p1,none⟩) n1 c1)∧W.cell? ⟨g1,p1+j1*8+2,none⟩=some (.bool false))∧(W.cell? ⟨b1,o1+i2*11+2,none⟩=some (.slice (some ⟨g2,p2,none⟩) n2 c2)∧W.cell? ⟨g2,p2+j2*8+2,none⟩=some (.bool false)))) (by kernel_rfl) (HS.out _ vv) (fun hHeld => ?_);refine kK 0 ⟨some 129,.fieldAddr 31 (.tmp 10) 0,0,"laws.go:791",#[],none⟩ ?_;refine kK 1 ⟨some 130,.load 28 (.tmp 129),28,"laws.go:791",#[⟨0,.data⟩],none⟩ ?_;refine kK 2 ⟨some 131,.fieldAddr 44 (.tmp 12) 0,0,"laws.go:791",#[],none⟩ ?_;refine kK 3 ⟨some 132,.load 3 (.tmp 131),3,"laws.go:791",#[⟨2,.data⟩],none⟩ ?_;refine kK 4 ⟨some 133,.indexAddr 28 (.tmp 130) (.tmp 132),0,"laws.go:791",#[⟨1,.data⟩,⟨3,.data⟩],none⟩ ?_;refine kK 5 ⟨some 134,.fieldAddr 70 (.tmp 133) 2,0,"laws.go:791",#[⟨4,.data⟩],none⟩ ?_;refine kK 6 ⟨some 135,.load 64 (.tmp 134),64,"laws.go:791",#[⟨5,.data⟩],none⟩ ?_;refine kK 7 ⟨some 136,.fieldAddr 44 (.tmp 12) 1,0,"laws.go:791",#[],none⟩ ?_;refine kK 8 ⟨some 137,.load 3 (.tmp 136),3,"laws.go:791",#[⟨7,.data⟩],none⟩ ?_;refine kK 9 ⟨some 138,.indexAddr 64 (.tmp 135) (.tmp 137),0,"laws.go:791",#[⟨6,.data⟩,⟨8,.data⟩],none⟩ ?_;refine kK 10 ⟨some 139,.fieldAddr 63 (.tmp 138) 2,0,"laws.go:791",#[⟨9,.data⟩],none⟩ ?_;refine kK 11 ⟨some 140,.load 4 (.tmp 139),4,"laws.go:791",#[⟨10,.data⟩],none⟩ ?_;refine kK 12 ⟨some 141,.unOp .not 4 (.tmp 140),4,"laws.go:791",#[⟨11,.data⟩],none⟩ ?_;refine kK 13 ⟨some 142,.move (.tmp 141),4,"laws.go:791",#[⟨12,.data⟩],none⟩ ?_;refine kK 14 ⟨some 143,.fieldAddr 31 (.tmp 10) 0,0,"laws.go:791",#[⟨13,.guard⟩],some (13,true)⟩ ?_;refine kK 15 ⟨some 144,.load 28 (.tmp 143),28,"laws.go:791",#[⟨14,.data⟩,⟨13,.guard⟩],some (13,true)⟩ ?_;refine kK 16 ⟨some 145,.fieldAddr 44 (.tmp 12) 2,0,"laws.go:791",#[⟨13,.guard⟩],some (13,true)⟩ ?_;refine kK 17 ⟨some 146,.load 3 (.tmp 145),3,"laws.go:791",#[⟨16,.data⟩,⟨13,.guard⟩],some (13,true)⟩ ?_;refine kK 18 ⟨some 147,.indexAddr 28 (.tmp 144) (.tmp 146),0,"laws.go:791",#[⟨15,.data⟩,⟨17,.data⟩,⟨13,.guard⟩],some (13,true)⟩ ?_;refine kK 19 ⟨some 148,.fieldAddr 70 (.tmp 147) 2,0,"laws.go:791",#[⟨18,.data⟩,⟨13,.guard⟩],some (13,true)⟩ ?_;refine kK 20 ⟨some 149,.load 64 (.tmp 148),64,"laws.go:791",#[⟨19,.data⟩,⟨13,.guard⟩],some (13,true)⟩ ?_;refine kK 21 ⟨some 150,.fieldAddr 44 (.tmp 12) 3,0,"laws.go:791",#[⟨13,.guard⟩],some (13,true)⟩ ?_;refine kK 22 ⟨some 151,.load 3 (.tmp 150),3,"laws.go:791",#[⟨21,.data⟩,⟨13,.guard⟩],some (13,true)⟩ ?_;refine kK 23 ⟨some 152,.indexAddr 64 (.tmp 149) (.tmp 151),0,"laws.go:791",#[⟨20,.data⟩,⟨22,.data⟩,⟨13,.guard⟩],some (13,true)⟩ ?_;refine kK 24 ⟨some 153,.fieldAddr 63 (.tmp 152) 2,0,"laws.go:791",#[⟨23,.data⟩,⟨13,.guard⟩],some (13,true)⟩ ?_;refine kK 25 ⟨some 154,.load 4 (.tmp 153),4,"laws.go:791",#[⟨24,.data⟩,⟨13,.guard⟩],some (13,true)⟩ ?_;refine kK 26 ⟨some 155,.unOp .not 4 (.tmp 154),4,"laws.go:791",#[⟨25,.data⟩,⟨13,.guard⟩],some (13,true)⟩ ?_;refine kK 27 ⟨some 156,.pick (.tmp 142) (.tmp 155) (.const (.bool false)),4,"laws.go:791",#[⟨13,.data⟩,⟨26,.data⟩],none⟩ ?_;refine kK 28 ⟨some 2,.assign (.tmp 156),4,"laws.go:791",#[⟨27,.data⟩,⟨13,.chain⟩,⟨0,.phase⟩,⟨1,.phase⟩,⟨2,.phase⟩,⟨3,.phase⟩,⟨4,.phase⟩,⟨5,.phase⟩,⟨6,.phase⟩,⟨7,.phase⟩,⟨8,.phase⟩,⟨9,.phase⟩,⟨10,.phase⟩,⟨11,.phase⟩,⟨12,.phase⟩,⟨13,.phase⟩,⟨14,.phase⟩,⟨15,.phase⟩,⟨16,.phase⟩,⟨17,.phase⟩,⟨18,.phase⟩,⟨19,.phase⟩,⟨20,.phase⟩,⟨21,.phase⟩,⟨22,.phase⟩,⟨23,.phase⟩,⟨24,.phase⟩,⟨25,.phase⟩,⟨26,.phase⟩,⟨27,.phase⟩],none⟩ ?_;refine wpAnyH_done (by kernel_rfl) ?_ _;have HB:=hide (zc bw vv);clear hHeld vv;go_wp2;go_ret;exact ⟨rfl,HB.out⟩

theorem fnCutJoined_own:ownKnob Tryz.prog.godebug=none:=by kernel_rfl
theorem fnCutJoined_laid:laidOutB Tryz.prog=true:=by kernel_rfl

open Go.ChangeShapes Go.WideShapes Go.ChangeAt in
open Go.ChangeMaps (open_string shut_string) in
theorem fnCutJoined_lifted (os:Os) (started:os.Started) (H:Type) (enc:TypeId × Value→H) :
  ReturnsInHanded {} Tryz.checked os 6 .any (Rows.fnCutJoinedSpec.pre6 enc Tryz.prog Tryz.f6 Rows.fnCutJoinedRow.domain false) (Rows.fnCutJoinedSpec.post enc Tryz.prog Tryz.f6 false true false false):=by
 refine returnsInHanded_of_change (C:=Tryz.checked) fnCutJoined_own started (by kernel_rfl) Tryz.func6
  (ChangeSpec.witness6 (enc:=enc) (C:=Tryz.checked) false ⟨#[],#[.slice none 0 0],[]⟩ 8 (by kernel_rfl) (by kernel_rfl) (by kernel_rfl) (by kernel_rfl)) ?_
 intro W base args ds gs before hval0 hW hcnd _;have hval:∀(j:Nat) t v,Tryz.f6.params[j]?=some t→args[j]?=some v→Value.okWide Tryz.prog W .any base t v:=hval0;have hW':=hW;obtain ⟨p,q,hA0,hV,rfl,hfz,hnd⟩:=hW;have hA:DataW.TrodAll enc Tryz.prog W 0 (fun _=>true) true Tryz.f6.params.toList args.toList ds p:=hA0;rw [Tryz.params6] at hA hval;obtain ⟨v0,vs0,d0,ds0,p0,q0,hargs,rfl,rfl,h0,r0⟩:=trodAll_cons hA;obtain ⟨rfl,rfl,rfl⟩:=trodAll_nil r0;obtain rfl:args=#[v0]:=by cases args; simp_all
 obtain ⟨rfl,rfl⟩:=trodVars_none hV;obtain ⟨a0,len0,cap0,rfl⟩:=okWide_slice Tryz.underlying22 (hval 0 22 v0 rfl rfl);have k0:=h0;have lt0:∀x∈p0,x.block < W.heap.size:=by obtain ⟨m,hm⟩:=k0; exact DataW.trod_lt m _ _ _ hm
 obtain ⟨z0,w0⟩:∃zs,Row W a0 len0 cap0 zs:=by
  obtain ⟨fuel,hf⟩:=h0;rcases open_ints Tryz.underlying22 Tryz.underlying5 (by kernel_rfl) hf with ⟨hcs,_⟩ | ⟨x,l,c,zs,hcs,_,hl,hm,hz,_,hcell,hwz⟩
  ·simp [Value.cells] at hcs
   obtain ⟨rfl,rfl,rfl⟩:=hcs;exact ⟨[],zjS W⟩
  ·simp [Value.cells] at hcs
   obtain ⟨rfl,rfl,rfl⟩:=hcs;exact ⟨zs.take len0,zjj hl hm (by simpa using hz) hcell hwz⟩
 clear hA0 hval0;refine (zeF a0 len0 cap0 z0 W w0).mono fun e W' ⟨he,bel⟩ => ?_
 subst he;exact ⟨_,rfl,_,_,_,[],_,[],hW',trodAll_mk1 (shut_bool Tryz.underlying4 _),(trodAll_cons_mk (Below.trod fnCutJoined_laid (by kernel_rfl) (of_decide_eq_true (by kernel_rfl)) k0 bel lt0) trodAll_mk0),rfl,bel.frame _,fun h=>by cases h⟩

theorem fnCutJoined_holds:Rows.FnCutJoinedSaid :=
 OpenClaim.holds_of_wide 6 Tryz.f6 rfl rfl rfl rfl rfl rfl rfl ⟨rfl,rfl,rfl,rfl,rfl⟩ rfl rfl rfl rfl rfl (by kernel_rfl) Tryz.func6 (by kernel_rfl)
  (of_decide_eq_true (by kernel_rfl)) (by unfold Func.isWrapper; first | (rw [if_pos (by decide +kernel)]; kernel_rfl) | (rw [if_neg (by decide +kernel)]; exact ⟨rfl,rfl⟩))
  (fun os started H enc _=>fnCutJoined_lifted os started H enc)

#print axioms fnCutJoined_holds

end Go.Proofs.YtjfdhkjkknkmbaaGreat
