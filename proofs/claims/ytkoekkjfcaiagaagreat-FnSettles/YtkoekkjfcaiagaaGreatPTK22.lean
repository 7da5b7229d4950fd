/-
  Packed: AgrI AgrA LivX.
-/
import Derived.Test.YtkoekkjfcaiagaaGreatPTKW
import Derived.Test.YtkoekkjfcaiagaaGreatPTK01
import Derived.Test.YtkoekkjfcaiagaaGreatPTK02
import Derived.Test.YtkoekkjfcaiagaaGreatPTK05
import Derived.Test.YtkoekkjfcaiagaaGreatPTK19
import Derived.Test.YtkoekkjfcaiagaaGreatPTK20
namespace Go.Proofs.YtkoekkjfcaiagaaGreat
set_option maxRecDepth 100000
set_option maxHeartbeats 16000000
open Go.RowKit

abbrev q428:Oper:=⟨some 23,.move (.tmp 9),95,"l15_agree.go:56",#[],none⟩
abbrev q429:Oper:=⟨some 24,.nilCheck (.tmp 23),0,"l15_agree.go:56",#[⟨0,.data⟩],none⟩
abbrev q430:Oper:=⟨some 25,.fieldAddr 67 (.tmp 24) 2,0,"l15_agree.go:56",#[⟨1,.data⟩],none⟩
abbrev q431:Oper:=⟨some 26,.load 4 (.tmp 25),4,"l15_agree.go:56",#[⟨2,.data⟩],none⟩
abbrev q432:Oper:=⟨some 27,.move (.tmp 26),4,"l15_agree.go:56",#[⟨3,.data⟩],none⟩
abbrev q433:Oper:=⟨some 28,.move (.tmp 9),95,"l15_agree.go:56",#[⟨4,.guard⟩],some (4,true)⟩
abbrev q434:Oper:=⟨some 29,.nilCheck (.tmp 28),0,"l15_agree.go:56",#[⟨5,.data⟩,⟨4,.guard⟩],some (4,true)⟩
abbrev q435:Oper:=⟨some 30,.fieldAddr 67 (.tmp 29) 3,0,"l15_agree.go:56",#[⟨6,.data⟩,⟨4,.guard⟩],some (4,true)⟩
abbrev q436:Oper:=⟨some 31,.load 65 (.tmp 30),65,"l15_agree.go:56",#[⟨7,.data⟩,⟨4,.guard⟩],some (4,true)⟩
abbrev q437:Oper:=⟨some 32,.load 31 (.tmp 3),31,"l15_agree.go:56",#[⟨4,.guard⟩],some (4,true)⟩
abbrev q438:Oper:=⟨some 33,.move (.tmp 1),3,"l15_agree.go:56",#[⟨4,.guard⟩],some (4,true)⟩
abbrev q439:Oper:=⟨some 34,.move (.tmp 2),4,"l15_agree.go:56",#[⟨4,.guard⟩],some (4,true)⟩
abbrev q440:Oper:=⟨some 35,.call ⟨.value (.func 74),#[.tmp 32,.tmp 33,.tmp 34],#[31,3,4]⟩,90,"l15_agree.go:56",#[⟨9,.data⟩,⟨10,.data⟩,⟨11,.data⟩,⟨4,.chain⟩,⟨4,.guard⟩],some (4,true)⟩
abbrev q441:Oper:=⟨some 36,.field 90 (.tmp 35) 2,65,"l15_agree.go:56",#[⟨12,.data⟩,⟨4,.guard⟩],some (4,true)⟩
abbrev q442:Oper:=⟨some 37,.binOp .eql 65 (.tmp 31) (.tmp 36) 65,4,"l15_agree.go:56",#[⟨8,.data⟩,⟨13,.data⟩,⟨4,.guard⟩],some (4,true)⟩
abbrev q443:Oper:=⟨some 38,.pick (.tmp 27) (.tmp 37) (.const (.bool false)),4,"l15_agree.go:56",#[⟨4,.data⟩,⟨14,.data⟩],none⟩
abbrev q444:Oper:=⟨some 6,.assign (.tmp 38),4,"l15_agree.go:56",#[⟨15,.data⟩,⟨12,.chain⟩,⟨0,.phase⟩,⟨1,.phase⟩,⟨2,.phase⟩,⟨3,.phase⟩,⟨4,.phase⟩,⟨5,.phase⟩,⟨6,.phase⟩,⟨7,.phase⟩,⟨8,.phase⟩,⟨9,.phase⟩,⟨10,.phase⟩,⟨11,.phase⟩,⟨12,.phase⟩,⟨13,.phase⟩,⟨14,.phase⟩,⟨15,.phase⟩],none⟩

theorem zdA (N:NV) (k f:Nat) (x:LK) (yF:BV) (pT:PT) (back:Bool) (fp tb tp:Int) (w:World) (h:zag w N) (hx:N.ls[k]?=some x) (hF:N.bs[f]?=some yF) (hwy:Way x back (f:Int) fp tb tp) (hT:zaa N.brs tb tp=some pT) :
  Calls Tryz.prog 77 #[.agg #[.slice N.ba N.bn N.bc,.slice N.la N.ln N.lc,.slice N.sa N.sn N.sc],.int .i64 (k:Int),.bool back] w fun e w'=>e=.returned (.bool (zb9 pT (sayV yF.B.id yF.B.ports fp)))∧Below w.heap.size w w':=by
 have hk:k < N.ln:=by have:=(List.getElem?_eq_some_iff.1 hx).1; have:=h.l.size; omega
 generalize hRR:zb9 pT (sayV yF.B.id yF.B.ports fp)=RR;have HR:=hide hRR;clear hRR;generalize hw1:w.alloc (Obj.cells #[.slice N.ba N.bn N.bc,.slice N.la N.ln N.lc,.slice N.sa N.sn N.sc] 31)=w1;have b01:=zb hw1;have kP:=zk hw1;have HZ1:Hid (w1.heap.size=w.heap.size+1):=hide (by rw [← hw1]; simp);obtain ⟨x',lb,lo,hx',hla,a0,a1,a2,a3⟩:=zaI (h.l.below b01) k hk;rw [hx] at hx';cases hx';have HX:=hide hx;have HF:=hide hF;have HT:=hide hT;obtain ⟨x0,x1,x2⟩:=zd kP;rw [hla] at x1;have i1:(0:Int)≤(k:Int):=by omega
 have i2:(k:Int) < (N.ln:Int):=by omega
 clear hla hx hF hT;go_enter Tryz.func77,Tryz.ntmps77;go_wp2_with fail
 refine (zbS x back (f:Int) fp tb tp _ hwy).mono ?_;rintro e w4 ⟨rfl,b24⟩;generalize hz5:w4.alloc (Obj.cells #[.int .i64 0,.int .i64 0] 85)=z5;generalize hz6:z5.alloc (Obj.cells #[.int .i64 0,.int .i64 0] 85)=z6;have b45:=zb hz5;have b56:=zb hz6;have kF:=za (zk hz5) b56;have kG:=zk hz6;have HZ5:Hid (z5.heap.size=w4.heap.size+1):=hide (by rw [← hz5]; simp);obtain ⟨p0,p1⟩:=zm kF;obtain ⟨p2,p3⟩:=zm kG;have p4:=zf kF 0;have p5:=zf kF 1;have p6:=zf kG 0;have p7:=zf kG 1;have ne1:¬w4.heap.size=z5.heap.size:=by have:=HZ5.out; omega
 have ne2:¬z5.heap.size=w4.heap.size:=by have:=HZ5.out; omega
 have b26:=zc b24 (zc b45 b56);have kP:=za kP b26;have b06:=zc b01 b26;have HZ4:Hid (w.heap.size+1≤w4.heap.size):=hide (by have:=b24.size; have:=HZ1.out; omega);clear x0 x1 x2 a0 a1 a2 a3 b24 b45 b56 b26 b01 hw1;go_upto_region 2 with fail
 generalize hw6:(((z6.setCell ⟨w4.heap.size,0,none⟩ (.int .i64 (f:Int))).setCell ⟨w4.heap.size,1,none⟩ (.int .i64 fp)).setCell ⟨z5.heap.size,0,none⟩ (.int .i64 tb)).setCell ⟨z5.heap.size,1,none⟩ (.int .i64 tp)=w6;obtain ⟨w5,hw5⟩:∃w5:World,w5=(z6.setCell ⟨w4.heap.size,0,none⟩ (.int .i64 (f:Int))).setCell ⟨w4.heap.size,1,none⟩ (.int .i64 fp):=⟨_,rfl⟩;have hgA:z6.grownBy w5 (some w4.heap.size):=by rw [hw5]; exact zK (zj 0 _) (zj 1 _)
 have kG:=ze kG hgA (by intro j e; cases e; exact ne1);have kG6:w6.heap[z5.heap.size]?=some (.cells #[.int .i64 tb,.int .i64 tp] 85):=by rw [← hw6,← hw5]; exact zI (K:=fun W=>W.heap[z5.heap.size]?=some (.cells #[.int .i64 tb,.int .i64 tp] 85)) kG _ _ (fun wq kQ _=>kQ)
 have hgB:w5.grownBy w6 (some z5.heap.size):=by rw [← hw6,← hw5]; exact zK (zj 0 _) (zj 1 _)
 have kP:=ze (ze kP hgA (by intro j e; cases e; have:=HZ4.out; omega)) hgB (by intro j e; cases e; have:=HZ4.out; have:=HZ5.out; omega);have b06:=(b06.grown hgA b06.size (by intro j e; cases e; have:=HZ4.out; omega)).grown hgB (Nat.le_trans b06.size hgA.size) (by intro j e; cases e; have:=HZ4.out; have:=HZ5.out; omega);clear hw6 hw5 hgA hgB p0 p1 p2 p3 p4 p5 p6 p7 kF kG hz5 hz6 ne1 ne2;obtain ⟨x0,x1,x2⟩:=zd kP;obtain ⟨e0,e1⟩:=zm kG6;go_wp2_with fail
 refine (zfx N tb tp _ (h.below b06)).mono ?_;rintro e w7 ⟨v,rfl,hv,b67⟩;rw [HT.out] at hv;obtain ⟨g,j,rfl,q0,q1,q2,q3,q4,q5,q6,q7⟩:=hv;have kP:=za kP b67;have b0:=zc b06 b67;have HPT:Hid (∀W,Below w7.heap.size w7 W→W.cell? ⟨g,j+2,none⟩=some (.bool pT.has)∧W.cell? ⟨g,j+3,none⟩=some (.int .i64 pT.v.r)∧W.cell? ⟨g,j+4,none⟩=some (.int .i64 pT.v.c)∧W.cell? ⟨g,j+5,none⟩=some (.int .i64 pT.v.h)∧W.cell? ⟨g,j+6,none⟩=some (.int .i64 pT.v.b)∧W.cell? ⟨g,j+7,none⟩=some (.int .i64 pT.v.p)):=hide (fun W hW=>by
  have hb:=zc b67 hW;exact ⟨(hb.cell (zo q2)).trans q2,(hb.cell (zo q3)).trans q3,(hb.cell (zo q4)).trans q4,(hb.cell (zo q5)).trans q5,(hb.cell (zo q6)).trans q6,(hb.cell (zo q7)).trans q7⟩)
 clear x0 x1 x2 e0 e1 b67 b06 q0 q1 q2 q3 q4 q5 q6 q7 kG6;have vv:Below w7.heap.size w7 w7.drew:=zw (Below.refl _ _);have hgd:Tryz.prog.eqGuardType Tryz.prog.depth 65=false:=by kernel_rfl
 have hve:=fun (a1 a2 a3 a4 a5 c1 c2 c3 c4 c5:Int) (W:World)=>zge a1 a2 a3 a4 a5 c1 c2 c3 c4 c5 W
 have hfd:∀(a1 c1 c2 c3 c4 c5:Int) (q:Bool) (W:World),(Instr.field 90 (.agg #[.int .i64 a1,.bool q,.int .i64 c1,.int .i64 c2,.int .i64 c3,.int .i64 c4,.int .i64 c5]) 2).run Tryz.prog W=.ok (.agg #[.int .i64 c1,.int .i64 c2,.int .i64 c3,.int .i64 c4,.int .i64 c5]) W:=fun _ _ _ _ _ _ _ _=>by kernel_rfl
 go_upto_region 3 with fail
 cases hh:pT.has
 ·rw [hh] at HPT;have HE:Hid (RR=false):=hide (by rw [← HR.out]; unfold zb9; rw [hh]; rfl);clear hh HR;refine wp_region_held_drew (S:=(fun W=>(W.cell? ⟨w.heap.size,0,none⟩=some (.slice N.ba N.bn N.bc)∧W.cell? ⟨w.heap.size,1,none⟩=some (.slice N.la N.ln N.lc)∧W.cell? ⟨w.heap.size,2,none⟩=some (.slice N.sa N.sn N.sc))∧(W.cell? ⟨g,j+2,none⟩=some (.bool false)∧W.cell? ⟨g,j+3,none⟩=some (.int .i64 pT.v.r)∧W.cell? ⟨g,j+4,none⟩=some (.int .i64 pT.v.c)∧W.cell? ⟨g,j+5,none⟩=some (.int .i64 pT.v.h)∧W.cell? ⟨g,j+6,none⟩=some (.int .i64 pT.v.b)∧W.cell? ⟨g,j+7,none⟩=some (.int .i64 pT.v.p)))) (by kernel_rfl) (⟨zd (za kP vv),HPT.out _ vv⟩) (fun hHeld => ?_);refine kK 0 q428 ?_;refine kK 1 q429 ?_;refine kK 2 q430 ?_;refine kK 3 q431 ?_;refine kK 4 q432 ?_;refine kN 5 q433 ?_;refine kN 6 q434 ?_;refine kN 7 q435 ?_;refine kN 8 q436 ?_;refine kN 9 q437 ?_;refine kN 10 q438 ?_;refine kN 11 q439 ?_;refine kN 12 q440 ?_;refine kN 13 q441 ?_;refine kN 14 q442 ?_;refine kK 15 q443 ?_;refine kK 16 q444 ?_;refine wpAnyH_done (by kernel_rfl) ?_ _;have HB:=hide (zc b0 vv);clear hHeld;go_wp2;go_ret;exact ⟨by rw [HE.out]; rfl,HB.out⟩
 ·rw [hh] at HPT;have HE:Hid (RR=((pT.v.r == (sayV yF.B.id yF.B.ports fp).r) && ((pT.v.c == (sayV yF.B.id yF.B.ports fp).c) && ((pT.v.h == (sayV yF.B.id yF.B.ports fp).h) && ((pT.v.b == (sayV yF.B.id yF.B.ports fp).b) && (pT.v.p == (sayV yF.B.id yF.B.ports fp).p)))))):=hide (by rw [← HR.out]; unfold zb9; rw [hh,Bool.true_and]);clear hh HR;refine wp_region_held_drew (S:=(fun W=>(W.cell? ⟨w.heap.size,0,none⟩=some (.slice N.ba N.bn N.bc)∧W.cell? ⟨w.heap.size,1,none⟩=some (.slice N.la N.ln N.lc)∧W.cell? ⟨w.heap.size,2,none⟩=some (.slice N.sa N.sn N.sc))∧(W.cell? ⟨g,j+2,none⟩=some (.bool true)∧W.cell? ⟨g,j+3,none⟩=some (.int .i64 pT.v.r)∧W.cell? ⟨g,j+4,none⟩=some (.int .i64 pT.v.c)∧W.cell? ⟨g,j+5,none⟩=some (.int .i64 pT.v.h)∧W.cell? ⟨g,j+6,none⟩=some (.int .i64 pT.v.b)∧W.cell? ⟨g,j+7,none⟩=some (.int .i64 pT.v.p)))) (by kernel_rfl) (⟨zd (za kP vv),HPT.out _ vv⟩) (fun hHeld => ?_);refine kK 0 q428 ?_;refine kK 1 q429 ?_;refine kK 2 q430 ?_;refine kK 3 q431 ?_;refine kK 4 q432 ?_;refine kK 5 q433 ?_;refine kK 6 q434 ?_;refine kK 7 q435 ?_;refine kK 8 q436 ?_;refine kK 9 q437 ?_;refine kK 10 q438 ?_;refine kK 11 q439 ?_;refine kR 12 q440 (fun K hK => ?_);go_simp;refine (zdJ N k f x yF back fp tb tp _ (h.below (zc b0 vv)) HX.out HF.out hwy).mono ?_;rintro e wz ⟨rfl,hbz⟩;have vv:=zc vv hbz;generalize hSV:sayV yF.B.id yF.B.ports fp=SV at *;(go_wp2_with fail);refine hK.out _ _ (⟨zd (za kP vv),HPT.out _ vv⟩) (fun hHeld => ?_);clear hK K;(try simp only [Act.put,lA,lB,lC]);refine kK 13 q441 ?_;refine kK 14 q442 ?_;refine kK 15 q443 ?_;refine kK 16 q444 ?_;refine wpAnyH_done (by kernel_rfl) ?_ _;have HB:=hide (zc b0 vv);clear hHeld;go_wp2;go_ret;exact ⟨by rw [HE.out]; rfl,HB.out⟩

def zeP (bs:List BR) (ls:List LK) (k:Nat):Prop:=∀j,j < k→agrK bs ls j=true

theorem zhF {bs:List BR} {ls:List LK} {k:Nat} (h:zeP bs ls k) (hk:agrK bs ls k=true):zeP bs ls (k+1):=by
 intro j hj;by_cases e:j=k
 ·rw [e]; exact hk
 ·exact h j (by omega)

theorem zc4 (N:NV) (w:World) (h:zag w N) :
  Calls Tryz.prog 34 #[.agg #[.slice N.ba N.bn N.bc,.slice N.la N.ln N.lc,.slice N.sa N.sn N.sc]] w fun e w'=>e=.returned (.bool (agreed N.brs N.ls))∧Below w.heap.size w w':=by
 have hle:=Nat.le_trans h.l.le h.l.top;unfold maxLen at hle;have HSZ:=hide h.l.size;generalize hGG:agreed N.brs N.ls=GG;have HGG:=hide hGG;clear hGG;generalize hw1:w.alloc (Obj.cells #[.slice N.ba N.bn N.bc,.slice N.la N.ln N.lc,.slice N.sa N.sn N.sc] 31)=w1;have b01:=zb hw1;have k1:=zk hw1;obtain ⟨x0,x1,x2⟩:=zd k1;go_enter Tryz.func34,Tryz.ntmps34;go_wp2_with fail
 clear hw1 x0 x1 x2
 go_loopw [3,7] (fun u i wr=>∃k:Nat,k≤N.ln∧i=.int .i64 k∧zeP N.brs N.ls k∧wr.heap[w.heap.size]?=some (.cells #[.slice N.ba N.bn N.bc,.slice N.la N.ln N.lc,.slice N.sa N.sn N.sc] 31)∧Below w.heap.size w wr) (fun _ i _=>N.ln - (intOf i).toNat)
 case atStart=>exact ⟨0,Nat.zero_le _,rfl,fun j hj=>absurd hj (by omega),k1,b01⟩
 case round =>
  obtain ⟨k,hk,rfl,hn,kP,hb⟩:=hrel;clear k1 b01;obtain ⟨x0,x1,x2⟩:=zd kP;have HN:=hide hn;clear hn;by_cases hlt:k < N.ln
  ·obtain ⟨x,hx⟩:∃x,N.ls[k]?=some x:=⟨_,List.getElem?_eq_getElem (by have:=HSZ.out; omega)⟩;have HX:=hide hx;have i1:(0:Int)≤(k:Int):=by omega
   have i2:(k:Int) < (N.ln:Int):=by omega
   (go_wp2_with fail);refine (zbu N (k:Int) _ (h.below hb)).mono ?_;rintro e w2 ⟨rfl,hbc⟩;have kP:=za kP hbc;have hb:=zc hb hbc;clear hbc x0 x1 x2;obtain ⟨x0,x1,x2⟩:=zd kP;cases hU:zT N.brs N.ls (k:Int)
   ·have HT:=hide (zhF HN.out (show agrK N.brs N.ls k=true by unfold agrK; rw [hx]; simp [hU]));clear hU hx;have HP:=hide kP;have HB:=hide hb;clear hb kP;go_wp2
    go_roundw
    case rel=>exact ⟨k+1,by omega,by go_num,HT.out,HP.out,HB.out⟩
    case measure=>simp [intOf]; omega
   ·obtain ⟨i',ip,j,jq,A,B,pA,pB,rfl,hA,hB,hpA,hpB⟩:=zcK hx hU;obtain ⟨yA,hyA,rfl⟩:=zhK hA;obtain ⟨yB,hyB,rfl⟩:=zhK hB;have HK:Hid (agrK N.brs N.ls k=(zb9 pB (sayV yA.B.id yA.B.ports (ip:Int)) && zb9 pA (sayV yB.B.id yB.B.ports (jq:Int)))):=hide (by unfold agrK; rw [hx]; dsimp only; rw [hU,zhE hA hB hpA hpB]; rfl);have HY:=hide (And.intro hA (And.intro hB (And.intro hpA (And.intro hpB (And.intro hyA hyB)))));clear hU hx hA hB hpA hpB hyA hyB;(go_wp2_with fail);refine (zdA N k i' ⟨(i':Int),(ip:Int),(j:Int),(jq:Int)⟩ yA pB false (ip:Int) (j:Int) (jq:Int) _ (h.below hb) HX.out HY.out.2.2.2.2.1 ⟨fun e=>(by cases e),fun _=>⟨rfl,rfl,rfl,rfl⟩⟩ (zco HY.out.2.1 HY.out.2.2.2.1)).mono ?_;rintro e w3 ⟨rfl,hbc⟩;have kP:=za kP hbc;have hb:=zc hb hbc;clear hbc x0 x1 x2;obtain ⟨x0,x1,x2⟩:=zd kP;cases hq1:zb9 pB (sayV yA.B.id yA.B.ports (ip:Int))
    ·have HG:Hid (GG=false):=hide (by rw [← HGG.out]; exact zgh (k:=k) (by have:=HSZ.out; omega) (by rw [HK.out,hq1]; rfl));clear hq1;have HB:=hide hb;clear hb;go_wp2;go_ret;exact ⟨by rw [HG.out]; rfl,HB.out⟩
    ·(go_wp2_with fail);refine (zdA N k j ⟨(i':Int),(ip:Int),(j:Int),(jq:Int)⟩ yB pA true (jq:Int) (i':Int) (ip:Int) _ (h.below hb) HX.out HY.out.2.2.2.2.2 ⟨fun _=>⟨rfl,rfl,rfl,rfl⟩,fun e=>(by cases e)⟩ (zco HY.out.1 HY.out.2.2.1)).mono ?_;rintro e w4 ⟨rfl,hbc⟩;have kP:=za kP hbc;have hb:=zc hb hbc;clear hbc x0 x1 x2;obtain ⟨x0,x1,x2⟩:=zd kP;cases hq2:zb9 pA (sayV yB.B.id yB.B.ports (jq:Int))
     ·have HG:Hid (GG=false):=hide (by rw [← HGG.out]; exact zgh (k:=k) (by have:=HSZ.out; omega) (by rw [HK.out,hq1,hq2]; rfl));clear hq1 hq2;have HB:=hide hb;clear hb;go_wp2;go_ret;exact ⟨by rw [HG.out]; rfl,HB.out⟩
     ·have HT:=hide (zhF HN.out (show agrK N.brs N.ls k=true by rw [HK.out,hq1,hq2]; rfl));clear hq1 hq2;have HP:=hide kP;have HB:=hide hb;clear hb kP;go_wp2
      go_roundw
      case rel=>exact ⟨k+1,by omega,by go_num,HT.out,HP.out,HB.out⟩
      case measure=>simp [intOf]; omega
  ·have hkn:k=N.ln:=by omega
   have HG:Hid (GG=true):=hide (by rw [← HGG.out]; exact zfh (fun j hj=>HN.out j (by have:=HSZ.out; omega)));subst hkn;have HB:=hide hb;clear hb;go_wp2;go_ret;exact ⟨by rw [HG.out]; rfl,HB.out⟩

theorem zjg (bs:List BR) (ls:List LK):∀k,∀z∈zaE bs ls k,0≤z∧z < (k:Int)
 | 0=>fun z hz=>by simp [zaE] at hz
 | k+1=>fun z hz=>by
  have ih:=zjg bs ls k;cases h:liveK bs ls k
  ·rw [zeO h] at hz
   have:=ih z hz
   omega
  ·rw [zfU h,List.mem_append] at hz;rcases hz with hz | hz
   ·have:=ih z hz
    omega
   ·simp at hz
    omega
theorem zjf (bs:List BR) (ls:List LK) (k:Nat) (hk:k≤1048576):I64s (zaE bs ls k):=by
 intro z hz
 have:=zjg bs ls k z hz
 omega

end Go.Proofs.YtkoekkjfcaiagaaGreat
