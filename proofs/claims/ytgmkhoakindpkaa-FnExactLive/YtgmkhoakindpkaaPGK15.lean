/-
  Packed: AgrI AgrA LivS LivA LivX.
-/
import Derived.Test.YtgmkhoakindpkaaPGKW
import Derived.Test.YtgmkhoakindpkaaPGK01
import Derived.Test.YtgmkhoakindpkaaPGK02
import Derived.Test.YtgmkhoakindpkaaPGK03
import Derived.Test.YtgmkhoakindpkaaPGK05
import Derived.Test.YtgmkhoakindpkaaPGK09
import Derived.Test.YtgmkhoakindpkaaPGK11
import Derived.Test.YtgmkhoakindpkaaPGK13
import Derived.Test.YtgmkhoakindpkaaPGK14
import Derived.Deep.RegionHeld3
namespace Go.Proofs.Ytgmkhoakindpkaa
set_option maxRecDepth 100000
set_option maxHeartbeats 16000000
open Go.RowKit

abbrev q69:Oper:=⟨some 23,.move (.tmp 9),109,"l15_agree.go:56",#[],none⟩
abbrev q70:Oper:=⟨some 24,.nilCheck (.tmp 23),0,"l15_agree.go:56",#[⟨0,.data⟩],none⟩
abbrev q71:Oper:=⟨some 25,.fieldAddr 91 (.tmp 24) 2,0,"l15_agree.go:56",#[⟨1,.data⟩],none⟩
abbrev q72:Oper:=⟨some 26,.load 4 (.tmp 25),4,"l15_agree.go:56",#[⟨2,.data⟩],none⟩
abbrev q73:Oper:=⟨some 27,.move (.tmp 26),4,"l15_agree.go:56",#[⟨3,.data⟩],none⟩
abbrev q74:Oper:=⟨some 28,.move (.tmp 9),109,"l15_agree.go:56",#[⟨4,.guard⟩],some (4,true)⟩
abbrev q75:Oper:=⟨some 29,.nilCheck (.tmp 28),0,"l15_agree.go:56",#[⟨5,.data⟩,⟨4,.guard⟩],some (4,true)⟩
abbrev q76:Oper:=⟨some 30,.fieldAddr 91 (.tmp 29) 3,0,"l15_agree.go:56",#[⟨6,.data⟩,⟨4,.guard⟩],some (4,true)⟩
abbrev q77:Oper:=⟨some 31,.load 89 (.tmp 30),89,"l15_agree.go:56",#[⟨7,.data⟩,⟨4,.guard⟩],some (4,true)⟩
abbrev q78:Oper:=⟨some 32,.load 33 (.tmp 3),33,"l15_agree.go:56",#[⟨4,.guard⟩],some (4,true)⟩
abbrev q79:Oper:=⟨some 33,.move (.tmp 1),3,"l15_agree.go:56",#[⟨4,.guard⟩],some (4,true)⟩
abbrev q80:Oper:=⟨some 34,.move (.tmp 2),4,"l15_agree.go:56",#[⟨4,.guard⟩],some (4,true)⟩
abbrev q81:Oper:=⟨some 35,.call ⟨.value (.func 56),#[.tmp 32,.tmp 33,.tmp 34],#[33,3,4]⟩,104,"l15_agree.go:56",#[⟨9,.data⟩,⟨10,.data⟩,⟨11,.data⟩,⟨4,.chain⟩,⟨4,.guard⟩],some (4,true)⟩
abbrev q82:Oper:=⟨some 36,.field 104 (.tmp 35) 2,89,"l15_agree.go:56",#[⟨12,.data⟩,⟨4,.guard⟩],some (4,true)⟩
abbrev q83:Oper:=⟨some 37,.binOp .eql 89 (.tmp 31) (.tmp 36) 89,4,"l15_agree.go:56",#[⟨8,.data⟩,⟨13,.data⟩,⟨4,.guard⟩],some (4,true)⟩
abbrev q84:Oper:=⟨some 38,.pick (.tmp 27) (.tmp 37) (.const (.bool false)),4,"l15_agree.go:56",#[⟨4,.data⟩,⟨14,.data⟩],none⟩
abbrev q85:Oper:=⟨some 6,.assign (.tmp 38),4,"l15_agree.go:56",#[⟨15,.data⟩,⟨12,.chain⟩,⟨0,.phase⟩,⟨1,.phase⟩,⟨2,.phase⟩,⟨3,.phase⟩,⟨4,.phase⟩,⟨5,.phase⟩,⟨6,.phase⟩,⟨7,.phase⟩,⟨8,.phase⟩,⟨9,.phase⟩,⟨10,.phase⟩,⟨11,.phase⟩,⟨12,.phase⟩,⟨13,.phase⟩,⟨14,.phase⟩,⟨15,.phase⟩],none⟩

theorem za5 (N:NV) (k f:Nat) (x:LK) (yF:BV) (pT:PT) (back:Bool) (fp tb tp:Int) (w:World) (h:zJ w N) (hx:N.ls[k]?=some x) (hF:N.bs[f]?=some yF) (hwy:Way x back (f:Int) fp tb tp) (hT:zaK N.brs tb tp=some pT) :
  Calls Try.prog 29 #[.agg #[.slice N.ba N.bn N.bc,.slice N.la N.ln N.lc,.slice N.sa N.sn N.sc],.int .i64 (k:Int),.bool back] w fun e w'=>e=.returned (.bool (zX pT (sayV yF.B.id yF.B.ports fp)))∧Below w.heap.size w w':=by
 have hk:k < N.ln:=by have:=(List.getElem?_eq_some_iff.1 hx).1; have:=h.l.size; omega
 generalize hRR:zX pT (sayV yF.B.id yF.B.ports fp)=RR;have HR:=hide hRR;clear hRR;generalize hw1:w.alloc (Obj.cells #[.slice N.ba N.bn N.bc,.slice N.la N.ln N.lc,.slice N.sa N.sn N.sc] 33)=w1;have b01:=zb hw1;have kP:=zk hw1;have HZ1:Hid (w1.heap.size=w.heap.size+1):=hide (by rw [← hw1]; simp);obtain ⟨x',lb,lo,hx',hla,a0,a1,a2,a3⟩:=zak (h.l.below b01) k hk;rw [hx] at hx';cases hx';have HX:=hide hx;have HF:=hide hF;have HT:=hide hT;obtain ⟨x0,x1,x2⟩:=zl kP;rw [hla] at x1;have i1:(0:Int)≤(k:Int):=by omega
 have i2:(k:Int) < (N.ln:Int):=by omega
 clear hla hx hF hT;go_enter Try.func29,Try.ntmps29;go_wp2_with fail
 refine (zda x back (f:Int) fp tb tp _ hwy).mono ?_;rintro e w4 ⟨rfl,b24⟩;generalize hz5:w4.alloc (Obj.cells #[.int .i64 0,.int .i64 0] 60)=z5;generalize hz6:z5.alloc (Obj.cells #[.int .i64 0,.int .i64 0] 60)=z6;have b45:=zb hz5;have b56:=zb hz6;have kF:=za (zk hz5) b56;have kG:=zk hz6;have HZ5:Hid (z5.heap.size=w4.heap.size+1):=hide (by rw [← hz5]; simp);obtain ⟨p0,p1⟩:=zD kF;obtain ⟨p2,p3⟩:=zD kG;have p4:=zh kF 0;have p5:=zh kF 1;have p6:=zh kG 0;have p7:=zh kG 1;have ne1:¬w4.heap.size=z5.heap.size:=by have:=HZ5.out; omega
 have ne2:¬z5.heap.size=w4.heap.size:=by have:=HZ5.out; omega
 have b26:=zc b24 (zc b45 b56);have kP:=za kP b26;have b06:=zc b01 b26;have HZ4:Hid (w.heap.size+1≤w4.heap.size):=hide (by have:=b24.size; have:=HZ1.out; omega);clear x0 x1 x2 a0 a1 a2 a3 b24 b45 b56 b26 b01 hw1;go_upto_region 2 with fail
 generalize hw6:(((z6.setCell ⟨w4.heap.size,0,none⟩ (.int .i64 (f:Int))).setCell ⟨w4.heap.size,1,none⟩ (.int .i64 fp)).setCell ⟨z5.heap.size,0,none⟩ (.int .i64 tb)).setCell ⟨z5.heap.size,1,none⟩ (.int .i64 tp)=w6;obtain ⟨w5,hw5⟩:∃w5:World,w5=(z6.setCell ⟨w4.heap.size,0,none⟩ (.int .i64 (f:Int))).setCell ⟨w4.heap.size,1,none⟩ (.int .i64 fp):=⟨_,rfl⟩;have hgA:z6.grownBy w5 (some w4.heap.size):=by rw [hw5]; exact zi (zd 0 _) (zd 1 _)
 have kG:=zg kG hgA (by intro j e; cases e; exact ne1);have kG6:w6.heap[z5.heap.size]?=some (.cells #[.int .i64 tb,.int .i64 tp] 60):=by rw [← hw6,← hw5]; exact zaH (K:=fun W=>W.heap[z5.heap.size]?=some (.cells #[.int .i64 tb,.int .i64 tp] 60)) kG _ _ (fun wq kQ _=>kQ)
 have hgB:w5.grownBy w6 (some z5.heap.size):=by rw [← hw6,← hw5]; exact zi (zd 0 _) (zd 1 _)
 have kP:=zg (zg kP hgA (by intro j e; cases e; have:=HZ4.out; omega)) hgB (by intro j e; cases e; have:=HZ4.out; have:=HZ5.out; omega);have b06:=(b06.grown hgA b06.size (by intro j e; cases e; have:=HZ4.out; omega)).grown hgB (Nat.le_trans b06.size hgA.size) (by intro j e; cases e; have:=HZ4.out; have:=HZ5.out; omega);clear hw6 hw5 hgA hgB p0 p1 p2 p3 p4 p5 p6 p7 kF kG hz5 hz6 ne1 ne2;obtain ⟨x0,x1,x2⟩:=zl kP;obtain ⟨e0,e1⟩:=zD kG6;go_wp2_with fail
 refine (zb4 N tb tp _ (h.below b06)).mono ?_;rintro e w7 ⟨v,rfl,hv,b67⟩;rw [HT.out] at hv;obtain ⟨g,j,rfl,q0,q1,q2,q3,q4,q5,q6,q7⟩:=hv;have kP:=za kP b67;have b0:=zc b06 b67;have HPT:Hid (∀W,Below w7.heap.size w7 W→W.cell? ⟨g,j+2,none⟩=some (.bool pT.has)∧W.cell? ⟨g,j+3,none⟩=some (.int .i64 pT.v.r)∧W.cell? ⟨g,j+4,none⟩=some (.int .i64 pT.v.c)∧W.cell? ⟨g,j+5,none⟩=some (.int .i64 pT.v.h)∧W.cell? ⟨g,j+6,none⟩=some (.int .i64 pT.v.b)∧W.cell? ⟨g,j+7,none⟩=some (.int .i64 pT.v.p)):=hide (fun W hW=>by
  have hb:=zc b67 hW;exact ⟨(hb.cell (zp q2)).trans q2,(hb.cell (zp q3)).trans q3,(hb.cell (zp q4)).trans q4,(hb.cell (zp q5)).trans q5,(hb.cell (zp q6)).trans q6,(hb.cell (zp q7)).trans q7⟩)
 clear x0 x1 x2 e0 e1 b67 b06 q0 q1 q2 q3 q4 q5 q6 q7 kG6;have vv:Below w7.heap.size w7 w7.drew:=zC (Below.refl _ _);have hgd:Try.prog.eqGuardType Try.prog.depth 89=false:=by kernel_rfl
 have hve:=fun (a1 a2 a3 a4 a5 c1 c2 c3 c4 c5:Int) (W:World)=>zcF a1 a2 a3 a4 a5 c1 c2 c3 c4 c5 W
 have hfd:∀(a1 c1 c2 c3 c4 c5:Int) (q:Bool) (W:World),(Instr.field 104 (.agg #[.int .i64 a1,.bool q,.int .i64 c1,.int .i64 c2,.int .i64 c3,.int .i64 c4,.int .i64 c5]) 2).run Try.prog W=.ok (.agg #[.int .i64 c1,.int .i64 c2,.int .i64 c3,.int .i64 c4,.int .i64 c5]) W:=fun _ _ _ _ _ _ _ _=>by kernel_rfl
 go_upto_region 3 with fail
 cases hh:pT.has
 ·rw [hh] at HPT;have HE:Hid (RR=false):=hide (by rw [← HR.out]; unfold zX; rw [hh]; rfl);clear hh HR;refine wp_region_held_drew (S:=(fun W=>(W.cell? ⟨w.heap.size,0,none⟩=some (.slice N.ba N.bn N.bc)∧W.cell? ⟨w.heap.size,1,none⟩=some (.slice N.la N.ln N.lc)∧W.cell? ⟨w.heap.size,2,none⟩=some (.slice N.sa N.sn N.sc))∧(W.cell? ⟨g,j+2,none⟩=some (.bool false)∧W.cell? ⟨g,j+3,none⟩=some (.int .i64 pT.v.r)∧W.cell? ⟨g,j+4,none⟩=some (.int .i64 pT.v.c)∧W.cell? ⟨g,j+5,none⟩=some (.int .i64 pT.v.h)∧W.cell? ⟨g,j+6,none⟩=some (.int .i64 pT.v.b)∧W.cell? ⟨g,j+7,none⟩=some (.int .i64 pT.v.p)))) (by kernel_rfl) (⟨zl (za kP vv),HPT.out _ vv⟩) (fun hHeld => ?_);refine kK 0 q69 ?_;refine kK 1 q70 ?_;refine kK 2 q71 ?_;refine kK 3 q72 ?_;refine kK 4 q73 ?_;refine kN 5 q74 ?_;refine kN 6 q75 ?_;refine kN 7 q76 ?_;refine kN 8 q77 ?_;refine kN 9 q78 ?_;refine kN 10 q79 ?_;refine kN 11 q80 ?_;refine kN 12 q81 ?_;refine kN 13 q82 ?_;refine kN 14 q83 ?_;refine kK 15 q84 ?_;refine kK 16 q85 ?_;refine wpAnyH_done (by kernel_rfl) ?_ _;have HB:=hide (zc b0 vv);clear hHeld;go_wp2;go_ret;exact ⟨by rw [HE.out]; rfl,HB.out⟩
 ·rw [hh] at HPT;have HE:Hid (RR=((pT.v.r == (sayV yF.B.id yF.B.ports fp).r) && ((pT.v.c == (sayV yF.B.id yF.B.ports fp).c) && ((pT.v.h == (sayV yF.B.id yF.B.ports fp).h) && ((pT.v.b == (sayV yF.B.id yF.B.ports fp).b) && (pT.v.p == (sayV yF.B.id yF.B.ports fp).p)))))):=hide (by rw [← HR.out]; unfold zX; rw [hh,Bool.true_and]);clear hh HR;refine wp_region_held_drew (S:=(fun W=>(W.cell? ⟨w.heap.size,0,none⟩=some (.slice N.ba N.bn N.bc)∧W.cell? ⟨w.heap.size,1,none⟩=some (.slice N.la N.ln N.lc)∧W.cell? ⟨w.heap.size,2,none⟩=some (.slice N.sa N.sn N.sc))∧(W.cell? ⟨g,j+2,none⟩=some (.bool true)∧W.cell? ⟨g,j+3,none⟩=some (.int .i64 pT.v.r)∧W.cell? ⟨g,j+4,none⟩=some (.int .i64 pT.v.c)∧W.cell? ⟨g,j+5,none⟩=some (.int .i64 pT.v.h)∧W.cell? ⟨g,j+6,none⟩=some (.int .i64 pT.v.b)∧W.cell? ⟨g,j+7,none⟩=some (.int .i64 pT.v.p)))) (by kernel_rfl) (⟨zl (za kP vv),HPT.out _ vv⟩) (fun hHeld => ?_);refine kK 0 q69 ?_;refine kK 1 q70 ?_;refine kK 2 q71 ?_;refine kK 3 q72 ?_;refine kK 4 q73 ?_;refine kK 5 q74 ?_;refine kK 6 q75 ?_;refine kK 7 q76 ?_;refine kK 8 q77 ?_;refine kK 9 q78 ?_;refine kK 10 q79 ?_;refine kK 11 q80 ?_;refine kR 12 q81 (fun K hK => ?_);go_simp;refine (zeP N k f x yF back fp tb tp _ (h.below (zc b0 vv)) HX.out HF.out hwy).mono ?_;rintro e wz ⟨rfl,hbz⟩;have vv:=zc vv hbz;generalize hSV:sayV yF.B.id yF.B.ports fp=SV at *;(go_wp2_with fail);refine hK.out _ _ (⟨zl (za kP vv),HPT.out _ vv⟩) (fun hHeld => ?_);clear hK K;(try simp only [Act.put,lA,lB,lC]);refine kK 13 q82 ?_;refine kK 14 q83 ?_;refine kK 15 q84 ?_;refine kK 16 q85 ?_;refine wpAnyH_done (by kernel_rfl) ?_ _;have HB:=hide (zc b0 vv);clear hHeld;go_wp2;go_ret;exact ⟨by rw [HE.out]; rfl,HB.out⟩

def za8 (bs:List BR) (ls:List LK) (k:Nat):Prop:=∀j,j < k→agrK bs ls j=true

theorem zbn {bs:List BR} {ls:List LK} {k:Nat} (h:za8 bs ls k) (hk:agrK bs ls k=true):za8 bs ls (k+1):=by
 intro j hj;by_cases e:j=k
 ·rw [e]; exact hk
 ·exact h j (by omega)

theorem zbN (N:NV) (w:World) (h:zJ w N) :
  Calls Try.prog 7 #[.agg #[.slice N.ba N.bn N.bc,.slice N.la N.ln N.lc,.slice N.sa N.sn N.sc]] w fun e w'=>e=.returned (.bool (agreed N.brs N.ls))∧Below w.heap.size w w':=by
 have hle:=Nat.le_trans h.l.le h.l.top;unfold maxLen at hle;have HSZ:=hide h.l.size;generalize hGG:agreed N.brs N.ls=GG;have HGG:=hide hGG;clear hGG;generalize hw1:w.alloc (Obj.cells #[.slice N.ba N.bn N.bc,.slice N.la N.ln N.lc,.slice N.sa N.sn N.sc] 33)=w1;have b01:=zb hw1;have k1:=zk hw1;obtain ⟨x0,x1,x2⟩:=zl k1;go_enter Try.func7,Try.ntmps7;go_wp2_with fail
 clear hw1 x0 x1 x2
 go_loopw [3] (fun i wr=>∃k:Nat,k≤N.ln∧i=.int .i64 k∧za8 N.brs N.ls k∧wr.heap[w.heap.size]?=some (.cells #[.slice N.ba N.bn N.bc,.slice N.la N.ln N.lc,.slice N.sa N.sn N.sc] 33)∧Below w.heap.size w wr) (fun i _=>N.ln - (intOf i).toNat)
 case atStart=>exact ⟨0,Nat.zero_le _,rfl,fun j hj=>absurd hj (by omega),k1,b01⟩
 case round =>
  obtain ⟨k,hk,rfl,hn,kP,hb⟩:=hrel;clear k1 b01;obtain ⟨x0,x1,x2⟩:=zl kP;have HN:=hide hn;clear hn;by_cases hlt:k < N.ln
  ·obtain ⟨x,hx⟩:∃x,N.ls[k]?=some x:=⟨_,List.getElem?_eq_getElem (by have:=HSZ.out; omega)⟩;have HX:=hide hx;have i1:(0:Int)≤(k:Int):=by omega
   have i2:(k:Int) < (N.ln:Int):=by omega
   (go_wp2_with fail);refine (zaY N (k:Int) _ (h.below hb)).mono ?_;rintro e w2 ⟨rfl,hbc⟩;have kP:=za kP hbc;have hb:=zc hb hbc;clear hbc x0 x1 x2;obtain ⟨x0,x1,x2⟩:=zl kP;cases hU:zat N.brs N.ls (k:Int)
   ·have HT:=hide (zbn HN.out (show agrK N.brs N.ls k=true by unfold agrK; rw [hx]; simp [hU]));clear hU hx;have HP:=hide kP;have HB:=hide hb;clear hb kP;go_wp2
    go_roundw
    case rel=>exact ⟨k+1,by omega,by go_num,HT.out,HP.out,HB.out⟩
    case measure=>simp [intOf]; omega
   ·obtain ⟨i',ip,j,jq,A,B,pA,pB,rfl,hA,hB,hpA,hpB⟩:=za6 hx hU;obtain ⟨yA,hyA,rfl⟩:=zbg hA;obtain ⟨yB,hyB,rfl⟩:=zbg hB;have HK:Hid (agrK N.brs N.ls k=(zX pB (sayV yA.B.id yA.B.ports (ip:Int)) && zX pA (sayV yB.B.id yB.B.ports (jq:Int)))):=hide (by unfold agrK; rw [hx]; dsimp only; rw [hU,zdL hA hB hpA hpB]; rfl);have HY:=hide (And.intro hA (And.intro hB (And.intro hpA (And.intro hpB (And.intro hyA hyB)))));clear hU hx hA hB hpA hpB hyA hyB;(go_wp2_with fail);refine (zcz N k i' ip j jq yA yB pA pB _ (h.below hb) HX.out HY.out.2.2.2.2.1 HY.out.2.2.2.2.2 HY.out.2.2.1 HY.out.2.2.2.1).mono ?_;rintro e w3 ⟨rfl,hbc⟩;have kP:=za kP hbc;have hb:=zc hb hbc;clear hbc x0 x1 x2;obtain ⟨x0,x1,x2⟩:=zl kP;cases hq1:zX pB (sayV yA.B.id yA.B.ports (ip:Int))
    ·have HG:Hid (GG=false):=hide (by rw [← HGG.out]; exact za0 (k:=k) (by have:=HSZ.out; omega) (by rw [HK.out,hq1]; rfl));clear hq1;have HB:=hide hb;clear hb;go_wp2;go_ret;exact ⟨by rw [HG.out]; rfl,HB.out⟩
    ·(go_wp2_with fail);refine (zbO N k i' ip j jq yA yB pA pB _ (h.below hb) HX.out HY.out.2.2.2.2.1 HY.out.2.2.2.2.2 HY.out.2.2.1 HY.out.2.2.2.1).mono ?_;rintro e w4 ⟨rfl,hbc⟩;have kP:=za kP hbc;have hb:=zc hb hbc;clear hbc x0 x1 x2;obtain ⟨x0,x1,x2⟩:=zl kP;cases hq2:zX pA (sayV yB.B.id yB.B.ports (jq:Int))
     ·have HG:Hid (GG=false):=hide (by rw [← HGG.out]; exact za0 (k:=k) (by have:=HSZ.out; omega) (by rw [HK.out,hq1,hq2]; rfl));clear hq1 hq2;have HB:=hide hb;clear hb;go_wp2;go_ret;exact ⟨by rw [HG.out]; rfl,HB.out⟩
     ·have HT:=hide (zbn HN.out (show agrK N.brs N.ls k=true by rw [HK.out,hq1,hq2]; rfl));clear hq1 hq2;have HP:=hide kP;have HB:=hide hb;clear hb kP;go_wp2
      go_roundw
      case rel=>exact ⟨k+1,by omega,by go_num,HT.out,HP.out,HB.out⟩
      case measure=>simp [intOf]; omega
  ·have hkn:k=N.ln:=by omega
   have HG:Hid (GG=true):=hide (by rw [← HGG.out]; exact zbQ (fun j hj=>HN.out j (by have:=HSZ.out; omega)));subst hkn;have HB:=hide hb;clear hb;go_wp2;go_ret;exact ⟨by rw [HG.out]; rfl,HB.out⟩

theorem zbK (N:NV) (w:World) (h:zJ w N) :
  Calls Try.prog 9 #[.agg #[.slice N.ba N.bn N.bc,.slice N.la N.ln N.lc,.slice N.sa N.sn N.sc]] w fun e w'=>e=.returned (.bool (agreed N.brs N.ls))∧Below w.heap.size w w':=by
 have hle:=Nat.le_trans h.l.le h.l.top;unfold maxLen at hle;have HSZ:=hide h.l.size;generalize hGG:agreed N.brs N.ls=GG;have HGG:=hide hGG;clear hGG;generalize hw1:w.alloc (Obj.cells #[.slice N.ba N.bn N.bc,.slice N.la N.ln N.lc,.slice N.sa N.sn N.sc] 33)=w1;have b01:=zb hw1;have k1:=zk hw1;obtain ⟨x0,x1,x2⟩:=zl k1;go_enter Try.func9,Try.ntmps9;go_wp2_with fail
 clear hw1 x0 x1 x2
 go_loopw [3,7] (fun u i wr=>∃k:Nat,k≤N.ln∧i=.int .i64 k∧za8 N.brs N.ls k∧wr.heap[w.heap.size]?=some (.cells #[.slice N.ba N.bn N.bc,.slice N.la N.ln N.lc,.slice N.sa N.sn N.sc] 33)∧Below w.heap.size w wr) (fun _ i _=>N.ln - (intOf i).toNat)
 case atStart=>exact ⟨0,Nat.zero_le _,rfl,fun j hj=>absurd hj (by omega),k1,b01⟩
 case round =>
  obtain ⟨k,hk,rfl,hn,kP,hb⟩:=hrel;clear k1 b01;obtain ⟨x0,x1,x2⟩:=zl kP;have HN:=hide hn;clear hn;by_cases hlt:k < N.ln
  ·obtain ⟨x,hx⟩:∃x,N.ls[k]?=some x:=⟨_,List.getElem?_eq_getElem (by have:=HSZ.out; omega)⟩;have HX:=hide hx;have i1:(0:Int)≤(k:Int):=by omega
   have i2:(k:Int) < (N.ln:Int):=by omega
   (go_wp2_with fail);refine (zaV N (k:Int) _ (h.below hb)).mono ?_;rintro e w2 ⟨rfl,hbc⟩;have kP:=za kP hbc;have hb:=zc hb hbc;clear hbc x0 x1 x2;obtain ⟨x0,x1,x2⟩:=zl kP;cases hU:zat N.brs N.ls (k:Int)
   ·have HT:=hide (zbn HN.out (show agrK N.brs N.ls k=true by unfold agrK; rw [hx]; simp [hU]));clear hU hx;have HP:=hide kP;have HB:=hide hb;clear hb kP;go_wp2
    go_roundw
    case rel=>exact ⟨k+1,by omega,by go_num,HT.out,HP.out,HB.out⟩
    case measure=>simp [intOf]; omega
   ·obtain ⟨i',ip,j,jq,A,B,pA,pB,rfl,hA,hB,hpA,hpB⟩:=za6 hx hU;obtain ⟨yA,hyA,rfl⟩:=zbg hA;obtain ⟨yB,hyB,rfl⟩:=zbg hB;have HK:Hid (agrK N.brs N.ls k=(zX pB (sayV yA.B.id yA.B.ports (ip:Int)) && zX pA (sayV yB.B.id yB.B.ports (jq:Int)))):=hide (by unfold agrK; rw [hx]; dsimp only; rw [hU,zdL hA hB hpA hpB]; rfl);have HY:=hide (And.intro hA (And.intro hB (And.intro hpA (And.intro hpB (And.intro hyA hyB)))));clear hU hx hA hB hpA hpB hyA hyB;(go_wp2_with fail);refine (za5 N k i' ⟨(i':Int),(ip:Int),(j:Int),(jq:Int)⟩ yA pB false (ip:Int) (j:Int) (jq:Int) _ (h.below hb) HX.out HY.out.2.2.2.2.1 ⟨fun e=>(by cases e),fun _=>⟨rfl,rfl,rfl,rfl⟩⟩ (zcy HY.out.2.1 HY.out.2.2.2.1)).mono ?_;rintro e w3 ⟨rfl,hbc⟩;have kP:=za kP hbc;have hb:=zc hb hbc;clear hbc x0 x1 x2;obtain ⟨x0,x1,x2⟩:=zl kP;cases hq1:zX pB (sayV yA.B.id yA.B.ports (ip:Int))
    ·have HG:Hid (GG=false):=hide (by rw [← HGG.out]; exact za0 (k:=k) (by have:=HSZ.out; omega) (by rw [HK.out,hq1]; rfl));clear hq1;have HB:=hide hb;clear hb;go_wp2;go_ret;exact ⟨by rw [HG.out]; rfl,HB.out⟩
    ·(go_wp2_with fail);refine (za5 N k j ⟨(i':Int),(ip:Int),(j:Int),(jq:Int)⟩ yB pA true (jq:Int) (i':Int) (ip:Int) _ (h.below hb) HX.out HY.out.2.2.2.2.2 ⟨fun _=>⟨rfl,rfl,rfl,rfl⟩,fun e=>(by cases e)⟩ (zcy HY.out.1 HY.out.2.2.1)).mono ?_;rintro e w4 ⟨rfl,hbc⟩;have kP:=za kP hbc;have hb:=zc hb hbc;clear hbc x0 x1 x2;obtain ⟨x0,x1,x2⟩:=zl kP;cases hq2:zX pA (sayV yB.B.id yB.B.ports (jq:Int))
     ·have HG:Hid (GG=false):=hide (by rw [← HGG.out]; exact za0 (k:=k) (by have:=HSZ.out; omega) (by rw [HK.out,hq1,hq2]; rfl));clear hq1 hq2;have HB:=hide hb;clear hb;go_wp2;go_ret;exact ⟨by rw [HG.out]; rfl,HB.out⟩
     ·have HT:=hide (zbn HN.out (show agrK N.brs N.ls k=true by rw [HK.out,hq1,hq2]; rfl));clear hq1 hq2;have HP:=hide kP;have HB:=hide hb;clear hb kP;go_wp2
      go_roundw
      case rel=>exact ⟨k+1,by omega,by go_num,HT.out,HP.out,HB.out⟩
      case measure=>simp [intOf]; omega
  ·have hkn:k=N.ln:=by omega
   have HG:Hid (GG=true):=hide (by rw [← HGG.out]; exact zbQ (fun j hj=>HN.out j (by have:=HSZ.out; omega)));subst hkn;have HB:=hide hb;clear hb;go_wp2;go_ret;exact ⟨by rw [HG.out]; rfl,HB.out⟩

theorem zbi (N:NV) (i p:Nat) (y:BV) (w:World) (h:zJ w N) (hA:N.bs[i]?=some y) :
  Calls Try.prog 33 #[.agg #[.slice N.ba N.bn N.bc,.slice N.la N.ln N.lc,.slice N.sa N.sn N.sc],.int .i64 (i:Int),.int .i64 (p:Int)] w fun e w'=>e=.returned (.bool (bitOf (zI y.B.id y.B.ports) (p:Int)))∧Below w.heap.size w w':=by
 have hib:i < N.bn:=by have:=(List.getElem?_eq_some_iff.1 hA).1; have:=h.b.size; omega
 have hle:=Nat.le_trans h.b.le h.b.top;unfold maxLen at hle;generalize hRR:bitOf (zI y.B.id y.B.ports) (p:Int)=RR;have HR:=hide hRR;clear hRR;obtain ⟨y',bb,off,hy',hba,-⟩:=br_at h.b i hib;cases (hA.symm.trans hy');have hy:=h.item y (List.mem_of_getElem? hA);have hG:GRow brF w (some ⟨bb,off,none⟩) N.bn N.bc N.bs:=by rw [← hba]; exact h.b
 have HBC:Hid (∀W,Below w.heap.size w W→(W.cell? ⟨bb,off+i*11,none⟩=some (.int .i64 y.B.id)∧W.cell? ⟨bb,off+i*11+2,none⟩=some (.slice y.a y.n y.c))):=hide (fun W hW=>by have:=zx hG hW hA; exact ⟨this.1,this.2.2.1⟩);have HBA:=hide hba;have i3:(0:Int)≤(i:Int):=by omega
 have i4:(i:Int) < (N.bn:Int):=by omega
 clear hba hA hG hy';generalize hw1:w.alloc (Obj.cells #[.slice N.ba N.bn N.bc,.slice N.la N.ln N.lc,.slice N.sa N.sn N.sc] 33)=w1;have b01:=zb hw1;have kP:=zk hw1;have vv:Below w1.heap.size w1 w1.drew:=zC (Below.refl _ _);go_enter Try.func33,Try.ntmps33;go_upto_region 1 with fail
 clear hw1;refine wp_region_held_drew (S:=(fun W=>(W.cell? ⟨w.heap.size,0,none⟩=some (.slice (some ⟨bb,off,none⟩) N.bn N.bc)∧W.cell? ⟨w.heap.size,1,none⟩=some (.slice N.la N.ln N.lc)∧W.cell? ⟨w.heap.size,2,none⟩=some (.slice N.sa N.sn N.sc))∧(W.cell? ⟨bb,off+i*11,none⟩=some (.int .i64 y.B.id)∧W.cell? ⟨bb,off+i*11+2,none⟩=some (.slice y.a y.n y.c)))) (by kernel_rfl) (⟨by have:=zl (za kP vv); rw [HBA.out] at this; exact this,HBC.out _ (zc b01 vv)⟩) (fun hHeld => ?_);refine kK 0 ⟨some 7,.fieldAddr 33 (.tmp 3) 0,0,"l15_agree.go:26",#[],none⟩ ?_;refine kK 1 ⟨some 8,.load 29 (.tmp 7),29,"l15_agree.go:26",#[⟨0,.data⟩],none⟩ ?_;refine kK 2 ⟨some 9,.move (.tmp 1),3,"l15_agree.go:26",#[],none⟩ ?_;refine kK 3 ⟨some 10,.indexAddr 29 (.tmp 8) (.tmp 9),0,"l15_agree.go:26",#[⟨1,.data⟩,⟨2,.data⟩],none⟩ ?_;refine kK 4 ⟨some 11,.fieldAddr 98 (.tmp 10) 0,0,"l15_agree.go:26",#[⟨3,.data⟩],none⟩ ?_;refine kK 5 ⟨some 12,.load 3 (.tmp 11),3,"l15_agree.go:26",#[⟨4,.data⟩],none⟩ ?_;refine kK 6 ⟨some 13,.fieldAddr 33 (.tmp 3) 0,0,"l15_agree.go:26",#[],none⟩ ?_;refine kK 7 ⟨some 14,.load 29 (.tmp 13),29,"l15_agree.go:26",#[⟨6,.data⟩],none⟩ ?_;refine kK 8 ⟨some 15,.move (.tmp 1),3,"l15_agree.go:26",#[],none⟩ ?_;refine kK 9 ⟨some 16,.indexAddr 29 (.tmp 14) (.tmp 15),0,"l15_agree.go:26",#[⟨7,.data⟩,⟨8,.data⟩],none⟩ ?_;refine kK 10 ⟨some 17,.fieldAddr 98 (.tmp 16) 2,0,"l15_agree.go:26",#[⟨9,.data⟩],none⟩ ?_;refine kK 11 ⟨some 18,.load 92 (.tmp 17),92,"l15_agree.go:26",#[⟨10,.data⟩],none⟩ ?_;refine kK 13 ⟨some 20,.move (.tmp 2),3,"l15_agree.go:26",#[],none⟩ ?_;refine kR 12 ⟨some 19,.call ⟨.value (.func 61),#[.tmp 12,.tmp 18],#[3,92]⟩,3,"l15_agree.go:26",#[⟨5,.data⟩,⟨11,.data⟩],none⟩ (fun K hK => ?_);go_simp;refine (zcB y.B.id y.a y.n y.c y.B.ports _ (hy.ports.below (zc b01 vv))).mono ?_;rintro e wz ⟨rfl,hbz⟩;have vv:=zc vv hbz;generalize hSS:zI y.B.id y.B.ports=SS at *;go_wp2_with fail
 refine hK.out _ _ (⟨by have:=zl (za kP vv); rw [HBA.out] at this; exact this,HBC.out _ (zc b01 vv)⟩) (fun hHeld => ?_);clear hK K
 try simp only [Act.put,lA,lB,lC]
 refine kR 14 ⟨some 21,.call ⟨.value (.func 60),#[.tmp 19,.tmp 20],#[3,3]⟩,4,"l15_agree.go:26",#[⟨12,.data⟩,⟨13,.data⟩,⟨12,.chain⟩],none⟩ (fun K hK => ?_);go_simp;refine (zdB SS (p:Int) _).mono ?_;rintro e wy ⟨rfl,ey⟩;obtain rfl:=ey.symm;rw [HR.out];go_wp2_with fail
 refine hK.out _ _ (⟨by have:=zl (za kP vv); rw [HBA.out] at this; exact this,HBC.out _ (zc b01 vv)⟩) (fun hHeld => ?_);clear hK K
 try simp only [Act.put,lA,lB,lC]
 refine kK 15 ⟨some 6,.assign (.tmp 21),4,"l15_agree.go:26",#[⟨14,.data⟩,⟨14,.chain⟩,⟨0,.phase⟩,⟨1,.phase⟩,⟨2,.phase⟩,⟨3,.phase⟩,⟨4,.phase⟩,⟨5,.phase⟩,⟨6,.phase⟩,⟨7,.phase⟩,⟨8,.phase⟩,⟨9,.phase⟩,⟨10,.phase⟩,⟨11,.phase⟩,⟨12,.phase⟩,⟨13,.phase⟩,⟨14,.phase⟩],none⟩ ?_;refine wpAnyH_done (by kernel_rfl) ?_ _;have HB:=hide (zc b01 vv);clear hHeld;go_wp2;go_ret;exact ⟨rfl,HB.out⟩

theorem zbh (N:NV) (i p:Nat) (y:BV) (w:World) (h:zJ w N) (hA:N.bs[i]?=some y) (hp:p≤9223372036854775807) :
  Calls Try.prog 35 #[.agg #[.slice N.ba N.bn N.bc,.slice N.la N.ln N.lc,.slice N.sa N.sn N.sc],.agg #[.int .i64 (i:Int),.int .i64 (p:Int)]] w fun e w'=>e=.returned (.bool (bitOf (zI y.B.id y.B.ports) (p:Int)))∧Below w.heap.size w w':=by
 have hib:i < N.bn:=by have:=(List.getElem?_eq_some_iff.1 hA).1; have:=h.b.size; omega
 have hle:=Nat.le_trans h.b.le h.b.top;unfold maxLen at hle;generalize hRR:bitOf (zI y.B.id y.B.ports) (p:Int)=RR;have HR:=hide hRR;clear hRR;obtain ⟨y',bb,off,hy',hba,-⟩:=br_at h.b i hib;cases (hA.symm.trans hy');have hy:=h.item y (List.mem_of_getElem? hA);have hG:GRow brF w (some ⟨bb,off,none⟩) N.bn N.bc N.bs:=by rw [← hba]; exact h.b
 have HBC:Hid (∀W,Below w.heap.size w W→(W.cell? ⟨bb,off+i*11,none⟩=some (.int .i64 y.B.id)∧W.cell? ⟨bb,off+i*11+2,none⟩=some (.slice y.a y.n y.c))):=hide (fun W hW=>by have:=zx hG hW hA; exact ⟨this.1,this.2.2.1⟩);have HBA:=hide hba;have i3:(0:Int)≤(i:Int):=by omega
 have i4:(i:Int) < (N.bn:Int):=by omega
 clear hba hA hG hy';generalize hw1:w.alloc (Obj.cells #[.slice N.ba N.bn N.bc,.slice N.la N.ln N.lc,.slice N.sa N.sn N.sc] 33)=w1;generalize hw2:w1.alloc (Obj.cells #[.int .i64 (i:Int),.int .i64 (p:Int)] 60)=w2;have b01:=zb hw1;have b12:=zb hw2;have b02:=zc b01 b12;have kP:=za (zk hw1) b12;have kE:=zk hw2;obtain ⟨x0,x1,x2⟩:=zl kP;obtain ⟨e0,e1⟩:=zD kE;go_enter Try.func35,Try.ntmps35;go_wp2_with fail
 refine (zaQ N i bb off _ hle hib HBA.out).mono ?_;rintro e w3 ⟨rfl,hb3⟩;have kE:=za kE hb3;have b03:=zc b02 hb3;clear x0 x1 x2 e0 e1 hb3 kP hw1 hw2;have vv:Below w3.heap.size w3 w3.drew:=zC (Below.refl _ _);go_upto_region 2 with fail
 refine wp_region_held_drew (S:=(fun W=>(W.cell? ⟨w1.heap.size,0,none⟩=some (.int .i64 (i:Int))∧W.cell? ⟨w1.heap.size,1,none⟩=some (.int .i64 (p:Int)))∧(W.cell? ⟨bb,off+i*11,none⟩=some (.int .i64 y.B.id)∧W.cell? ⟨bb,off+i*11+2,none⟩=some (.slice y.a y.n y.c)))) (by kernel_rfl) (⟨zD (za kE vv),HBC.out _ (zc b03 vv)⟩) (fun hHeld => ?_);refine kK 0 ⟨some 10,.move (.tmp 5),70,"l15_agree.go:62",#[],none⟩ ?_;refine kK 1 ⟨some 11,.nilCheck (.tmp 10),0,"l15_agree.go:62",#[⟨0,.data⟩],none⟩ ?_;refine kK 2 ⟨some 12,.fieldAddr 98 (.tmp 11) 0,0,"l15_agree.go:62",#[⟨1,.data⟩],none⟩ ?_;refine kK 3 ⟨some 13,.load 3 (.tmp 12),3,"l15_agree.go:62",#[⟨2,.data⟩],none⟩ ?_;refine kK 4 ⟨some 14,.move (.tmp 5),70,"l15_agree.go:62",#[],none⟩ ?_;refine kK 5 ⟨some 15,.nilCheck (.tmp 14),0,"l15_agree.go:62",#[⟨4,.data⟩],none⟩ ?_;refine kK 6 ⟨some 16,.fieldAddr 98 (.tmp 15) 2,0,"l15_agree.go:62",#[⟨5,.data⟩],none⟩ ?_;refine kK 7 ⟨some 17,.load 92 (.tmp 16),92,"l15_agree.go:62",#[⟨6,.data⟩],none⟩ ?_;refine kK 9 ⟨some 19,.fieldAddr 60 (.tmp 3) 1,0,"l15_agree.go:62",#[],none⟩ ?_;refine kK 10 ⟨some 20,.load 3 (.tmp 19),3,"l15_agree.go:62",#[⟨9,.data⟩],none⟩ ?_;refine kR 8 ⟨some 18,.call ⟨.value (.func 63),#[.tmp 13,.tmp 17],#[3,92]⟩,3,"l15_agree.go:62",#[⟨3,.data⟩,⟨7,.data⟩],none⟩ (fun K hK => ?_);go_simp;refine (zcl y.B.id y.a y.n y.c y.B.ports _ (hy.ports.below (zc b03 vv))).mono ?_;rintro e wz ⟨rfl,hbz⟩;have vv:=zc vv hbz;generalize hSS:zI y.B.id y.B.ports=SS at *;go_wp2_with fail
 refine hK.out _ _ (⟨zD (za kE vv),HBC.out _ (zc b03 vv)⟩) (fun hHeld => ?_);clear hK K
 try simp only [Act.put,lA,lB,lC]
 refine kR 11 ⟨some 21,.call ⟨.value (.func 62),#[.tmp 18,.tmp 20],#[3,3]⟩,4,"l15_agree.go:62",#[⟨8,.data⟩,⟨10,.data⟩,⟨8,.chain⟩],none⟩ (fun K hK => ?_);go_simp;rw [← hSS];refine (zcj y.B.id y.B.ports p _ hp).mono ?_;rintro e wy ⟨rfl,ey⟩;obtain rfl:=ey.symm;rw [hSS,HR.out];go_wp2_with fail
 refine hK.out _ _ (⟨zD (za kE vv),HBC.out _ (zc b03 vv)⟩) (fun hHeld => ?_);clear hK K
 try simp only [Act.put,lA,lB,lC]
 refine kK 12 ⟨some 4,.assign (.tmp 21),4,"l15_agree.go:62",#[⟨11,.data⟩,⟨11,.chain⟩,⟨0,.phase⟩,⟨1,.phase⟩,⟨2,.phase⟩,⟨3,.phase⟩,⟨4,.phase⟩,⟨5,.phase⟩,⟨6,.phase⟩,⟨7,.phase⟩,⟨8,.phase⟩,⟨9,.phase⟩,⟨10,.phase⟩,⟨11,.phase⟩],none⟩ ?_;refine wpAnyH_done (by kernel_rfl) ?_ _;have HB:=hide (zc b03 vv);clear hHeld;go_wp2;go_ret;exact ⟨rfl,HB.out⟩

def zd2 (bs:List BR) (b p:Int):Bool:=match bs[b.toNat]? with
 | some B=>bitOf (zI B.id B.ports) p
 | none=>false
def liveK (bs:List BR) (ls:List LK) (k:Nat):Bool:=zat bs ls (k:Int) && (match ls[k]? with
 | some x=>zd2 bs x.a x.p && zd2 bs x.b x.q
 | none=>false)
def zH (bs:List BR) (ls:List LK):Nat→List Int
 | 0=>[]
 | k+1=>if liveK bs ls k=true then zH bs ls k++[(k:Int)] else zH bs ls k

theorem zaS {bs:List BR} {ls:List LK} {k:Nat} (h:liveK bs ls k=false):zH bs ls (k+1)=zH bs ls k:=by
 rw [zH,if_neg (by rw [h]; decide)]
theorem zbs {bs:List BR} {ls:List LK} {k:Nat} (h:liveK bs ls k=true):zH bs ls (k+1)=zH bs ls k++[(k:Int)]:=by
 rw [zH,if_pos h]
theorem zbr (bs:List BR) (ls:List LK):∀k,(zH bs ls k).length≤k
 | 0=>Nat.le_refl _
 | k+1=>by
  have:=zbr bs ls k
  cases h:liveK bs ls k
  ·rw [zaS h]; omega
  ·rw [zbs h,List.length_append]; simp; omega

theorem zcA (N:NV) (w:World) (h:zJ w N) (h20:N.ln≤1048576) (hrg:∀x∈N.ls,x.Rng) :
  Calls Try.prog 11 #[.agg #[.slice N.ba N.bn N.bc,.slice N.la N.ln N.lc,.slice N.sa N.sn N.sc]] w fun e w'=>∃ao cap,e=.returned (.slice ao (zH N.brs N.ls N.ln).length cap)∧w'.ownsRow w.heap.size 3 1 (.slice ao (zH N.brs N.ls N.ln).length cap) (zH N.brs N.ls N.ln).length (intF.all (zH N.brs N.ls N.ln))∧Below w.heap.size w w':=by
 have HSZ:=hide h.l.size;generalize hw1:w.alloc (Obj.cells #[.slice N.ba N.bn N.bc,.slice N.la N.ln N.lc,.slice N.sa N.sn N.sc] 33)=w1;have b01:=zb hw1;have k1:=zk hw1;have HZ:Hid (w1.heap.size=w.heap.size+1):=hide (by rw [← hw1]; simp);obtain ⟨x0,x1,x2⟩:=zl k1;generalize hw2:w1.alloc (Obj.cells #[] 3)=w2;have b12:=zb hw2;have k2:=zk hw2;go_enter Try.func11,Try.ntmps11;go_wp2_with fail
 clear hw1 x0 x1 x2
 go_loopw [3,4,5] (fun p i u wr=>∃(k:Nat) (ao:Option Addr) (cap:Nat),k≤N.ln∧i=.int .i64 k∧p=.slice ao (zH N.brs N.ls k).length cap∧wr.ownsRow w.heap.size 3 1 (.slice ao (zH N.brs N.ls k).length cap) (zH N.brs N.ls k).length (intF.all (zH N.brs N.ls k))∧wr.heap[w.heap.size]?=some (.cells #[.slice N.ba N.bn N.bc,.slice N.la N.ln N.lc,.slice N.sa N.sn N.sc] 33)∧Below w.heap.size w wr) (fun _ i _ _=>N.ln - (intOf i).toNat)
 case atStart=>exact ⟨0,some ⟨w1.heap.size,0,none⟩,0,Nat.zero_le _,rfl,rfl,ze3 intF w _ 3 w1.heap.size k2 (by have:=HZ.out; omega),za k1 b12,zc b01 b12⟩
 case round =>
  obtain ⟨k,ao,cap,hk,rfl,rfl,ow,kP,hb⟩:=hrel;clear k1 b01 b12 k2 hw2;obtain ⟨x0,x1,x2⟩:=zl kP;by_cases hlt:k < N.ln
  ·have i1:(0:Int)≤(k:Int):=by omega
   have i2:(k:Int) < (N.ln:Int):=by omega
   have HLQ:=hide (zbr N.brs N.ls k);obtain ⟨x,lb,lo,hx,hla,a0,a1,a2,a3⟩:=zak (h.l.below hb) k hlt;rw [hla] at x1;have HLA:=hide hla;clear hla;have HX:=hide hx;generalize hwl:wr.alloc (Obj.cells #[.int .i64 x.a,.int .i64 x.p,.int .i64 x.b,.int .i64 x.q] 57)=wl;have brl:=zb hwl;have kL:=zk hwl;have kP:=za kP brl;have hb:=zc hb brl;have ow:=zn ow brl;obtain ⟨z0,z1,z2⟩:=zl kP;obtain ⟨l0,l1,l2,l3⟩:=zz kL;(go_wp2_with fail);clear a0 a1 a2 a3 x0 x1 x2 z0 z1 z2 hwl;obtain ⟨x0,x1,x2⟩:=zl kP;refine (zaY N (k:Int) _ (h.below hb)).mono ?_;rintro e w3 ⟨rfl,hbc⟩;have kP:=za kP hbc;have kL:=za kL hbc;have hb:=zc hb hbc;have ow:=zn ow hbc;clear hbc x0 x1 x2 l0 l1 l2 l3;obtain ⟨x0,x1,x2⟩:=zl kP;obtain ⟨l0,l1,l2,l3⟩:=zz kL;cases hU:zat N.brs N.ls (k:Int)
   ·have HF:=hide (zaS (show liveK N.brs N.ls k=false by unfold liveK; rw [hU]; rfl));clear hU hx;have HO:=hide ow;have HP:=hide kP;have HB:=hide hb;clear ow kP hb;go_wp2
    go_roundw
    case rel=>exact ⟨k+1,ao,cap,by omega,by go_num,by rw [HF.out],by rw [HF.out]; exact HO.out,HP.out,HB.out⟩
    case measure=>simp [intOf]; omega
   ·obtain ⟨i',ip,j,jq,A,B,pA,pB,rfl,hA,hB,hpA,hpB⟩:=za6 hx hU;obtain ⟨yA,hyA,rfl⟩:=zbg hA;obtain ⟨yB,hyB,rfl⟩:=zbg hB;have HK:Hid (liveK N.brs N.ls k=(bitOf (zI yA.B.id yA.B.ports) (ip:Int) && bitOf (zI yB.B.id yB.B.ports) (jq:Int))):=hide (by unfold liveK; rw [hU,hx]; simp only [zd2,Int.toNat_natCast,hA,hB,Bool.true_and]);have HY:=hide (And.intro hyA hyB);have HRG:=hide (hrg _ (List.mem_of_getElem? hx));clear hU hx hA hB hpA hpB hyA hyB;(go_wp2_with fail);refine (zbi N i' ip yA _ (h.below hb) HY.out.1).mono ?_;rintro e w4 ⟨rfl,hbc⟩;have kP:=za kP hbc;have kL:=za kL hbc;have hb:=zc hb hbc;have ow:=zn ow hbc;clear hbc x0 x1 x2 l0 l1 l2 l3;obtain ⟨x0,x1,x2⟩:=zl kP;obtain ⟨l0,l1,l2,l3⟩:=zz kL;cases hq1:bitOf (zI yA.B.id yA.B.ports) (ip:Int)
    ·have HF:=hide (zaS (show liveK N.brs N.ls k=false by rw [HK.out,hq1]; rfl));clear hq1;have HO:=hide ow;have HP:=hide kP;have HB:=hide hb;clear ow kP hb;go_wp2
     go_roundw
     case rel=>exact ⟨k+1,ao,cap,by omega,by go_num,by rw [HF.out],by rw [HF.out]; exact HO.out,HP.out,HB.out⟩
     case measure=>simp [intOf]; omega
    ·(go_wp2_with fail);refine (zbi N j jq yB _ (h.below hb) HY.out.2).mono ?_;rintro e w5 ⟨rfl,hbc⟩;have kP:=za kP hbc;have kL:=za kL hbc;have hb:=zc hb hbc;have ow:=zn ow hbc;clear hbc x0 x1 x2 l0 l1 l2 l3;obtain ⟨x0,x1,x2⟩:=zl kP;obtain ⟨l0,l1,l2,l3⟩:=zz kL;cases hq2:bitOf (zI yB.B.id yB.B.ports) (jq:Int)
     ·have HF:=hide (zaS (show liveK N.brs N.ls k=false by rw [HK.out,hq1,hq2]; rfl));clear hq1 hq2;have HO:=hide ow;have HP:=hide kP;have HB:=hide hb;clear ow kP hb;go_wp2
      go_roundw
      case rel=>exact ⟨k+1,ao,cap,by omega,by go_num,by rw [HF.out],by rw [HF.out]; exact HO.out,HP.out,HB.out⟩
      case measure=>simp [intOf]; omega
     ·have HF:=hide (zbs (show liveK N.brs N.ls k=true by rw [HK.out,hq1,hq2]; rfl));clear hq1 hq2;generalize hwa:w5.alloc (Obj.cells #[Value.int .i64 k] 3)=wa;have bra:=zb hwa;have ka:=zk hwa;have gone:GRow intF wa (some ⟨w5.heap.size,0,none⟩) 1 1 [(k:Int)]:=zG (F:=intF) (zeL intF (x:=(k:Int)) (base:=0) ka rfl (Nat.zero_le _));have hI2:=zn ow bra;have HBA:=hide (zc hb bra);have KPA:=hide (za kP bra);clear ow hb kP;generalize hq:(zH N.brs N.ls k).length=q at *;go_wp2_with (at_builtin; refine zaC (F:=intF) _ rfl _ _ 37 3 rfl w.heap.size Try.underlying37 Try.infoI64 rfl (by decide) _ q (zH N.brs N.ls k) rfl hI2 (some ⟨w5.heap.size,0,none⟩) 1 1 [(k:Int)] rfl gone (by have:=HLQ.out; omega) HBA.out.size ?_)
      intro a7 c7 w7 how hr hgr hb7;have HB7:=hide (HBA.out.trans hb7);have KP7:=hide (zg KPA.out hgr (fun b e=>zae hI2 KPA.out (by decide) b e));have HQ1:Hid ((zH N.brs N.ls (k+1)).length=q+1):=hide (by rw [HF.out,List.length_append,hq]; rfl);rw [← HF.out] at how;have HO:=hide how;clear how hr hgr hb7 hI2 gone ka hq;go_wp2
      go_roundw
      case rel=>exact ⟨k+1,a7,c7,by omega,by go_num,by rw [HQ1.out],by rw [HQ1.out]; exact HO.out,KP7.out,HB7.out⟩
      case measure=>simp [intOf]; omega
  ·have hkn:k=N.ln:=by omega
   subst hkn;have HO:=hide ow;have HB:=hide hb;clear ow hb;go_wp2;go_ret;exact ⟨ao,cap,rfl,HO.out,HB.out⟩

theorem zck (N:NV) (w:World) (h:zJ w N) (h20:N.ln≤1048576) (hrg:∀x∈N.ls,x.Rng) :
  Calls Try.prog 12 #[.agg #[.slice N.ba N.bn N.bc,.slice N.la N.ln N.lc,.slice N.sa N.sn N.sc]] w fun e w'=>∃ao cap,e=.returned (.slice ao (zH N.brs N.ls N.ln).length cap)∧w'.ownsRow w.heap.size 3 1 (.slice ao (zH N.brs N.ls N.ln).length cap) (zH N.brs N.ls N.ln).length (intF.all (zH N.brs N.ls N.ln))∧Below w.heap.size w w':=by
 have HSZ:=hide h.l.size;generalize hw1:w.alloc (Obj.cells #[.slice N.ba N.bn N.bc,.slice N.la N.ln N.lc,.slice N.sa N.sn N.sc] 33)=w1;have b01:=zb hw1;have k1:=zk hw1;have HZ:Hid (w1.heap.size=w.heap.size+1):=hide (by rw [← hw1]; simp);obtain ⟨x0,x1,x2⟩:=zl k1;go_enter Try.func12,Try.ntmps12;go_wp2_with fail
 clear hw1 x0 x1 x2
 go_loopw [3,4,5,6,10] (fun p u1 u2 u3 i wr=>∃(k:Nat) (ao:Option Addr) (cap:Nat),k≤N.ln∧i=.int .i64 k∧p=.slice ao (zH N.brs N.ls k).length cap∧wr.ownsRow w.heap.size 3 1 (.slice ao (zH N.brs N.ls k).length cap) (zH N.brs N.ls k).length (intF.all (zH N.brs N.ls k))∧wr.heap[w.heap.size]?=some (.cells #[.slice N.ba N.bn N.bc,.slice N.la N.ln N.lc,.slice N.sa N.sn N.sc] 33)∧Below w.heap.size w wr) (fun _ _ _ _ i _=>N.ln - (intOf i).toNat)
 case atStart=>exact ⟨0,none,0,Nat.zero_le _,rfl,rfl,World.ownsRow_nil _ _ _ _,k1,b01⟩
 case round =>
  obtain ⟨k,ao,cap,hk,rfl,rfl,ow,kP,hb⟩:=hrel;clear k1 b01;obtain ⟨x0,x1,x2⟩:=zl kP;by_cases hlt:k < N.ln
  ·have i1:(0:Int)≤(k:Int):=by omega
   have i2:(k:Int) < (N.ln:Int):=by omega
   have HLQ:=hide (zbr N.brs N.ls k);obtain ⟨x,lb,lo,hx,hla,a0,a1,a2,a3⟩:=zak (h.l.below hb) k hlt;have HLA:=hide hla;clear hla;have HX:=hide hx;generalize hwl:wr.alloc (Obj.cells #[.int .i64 x.a,.int .i64 x.p,.int .i64 x.b,.int .i64 x.q] 57)=wl;have brl:=zb hwl;have kL:=zk hwl;have kP:=za kP brl;have hb:=zc hb brl;have ow:=zn ow brl;obtain ⟨z0,z1,z2⟩:=zl kP;obtain ⟨l0,l1,l2,l3⟩:=zz kL;rw [HLA.out];(go_wp2_with fail);clear a0 a1 a2 a3 x0 x1 x2 z0 z1 z2 hwl;obtain ⟨x0,x1,x2⟩:=zl kP;refine (zbe x _).mono ?_;rintro e w2 ⟨rfl,hbc⟩;have kP:=za kP hbc;have kL:=za kL hbc;have hb:=zc hb hbc;have ow:=zn ow hbc;clear hbc x0 x1 x2 l0 l1 l2 l3;generalize hwe:w2.alloc (Obj.cells #[.int .i64 x.a,.int .i64 x.p,.int .i64 x.b,.int .i64 x.q] 61)=we;have bre:=zb hwe;have kE:=zk hwe;have kP:=za kP bre;have kL:=za kL bre;have hb:=zc hb bre;have ow:=zn ow bre;obtain ⟨x0,x1,x2⟩:=zl kP;obtain ⟨l0,l1,l2,l3⟩:=zz kL;obtain ⟨e0,e1,e2,e3⟩:=zz kE;(go_wp2_with fail);refine (zaV N (k:Int) _ (h.below hb)).mono ?_;rintro e w3 ⟨rfl,hbc⟩;have kP:=za kP hbc;have kL:=za kL hbc;have kE:=za kE hbc;have hb:=zc hb hbc;have ow:=zn ow hbc;clear hbc x0 x1 x2 l0 l1 l2 l3 e0 e1 e2 e3;obtain ⟨x0,x1,x2⟩:=zl kP;obtain ⟨l0,l1,l2,l3⟩:=zz kL;obtain ⟨e0,e1,e2,e3⟩:=zz kE;cases hU:zat N.brs N.ls (k:Int)
   ·have HF:=hide (zaS (show liveK N.brs N.ls k=false by unfold liveK; rw [hU]; rfl));clear hU hx;have HO:=hide ow;have HP:=hide kP;have HB:=hide hb;clear ow kP hb;go_wp2
    go_roundw
    case rel=>exact ⟨k+1,ao,cap,by omega,by go_num,by rw [HF.out],by rw [HF.out]; exact HO.out,by rw [← HLA.out]; exact HP.out,HB.out⟩
    case measure=>simp [intOf]; omega
   ·obtain ⟨i',ip,j,jq,A,B,pA,pB,rfl,hA,hB,hpA,hpB⟩:=za6 hx hU;obtain ⟨yA,hyA,rfl⟩:=zbg hA;obtain ⟨yB,hyB,rfl⟩:=zbg hB;have HK:Hid (liveK N.brs N.ls k=(bitOf (zI yA.B.id yA.B.ports) (ip:Int) && bitOf (zI yB.B.id yB.B.ports) (jq:Int))):=hide (by unfold liveK; rw [hU,hx]; simp only [zd2,Int.toNat_natCast,hA,hB,Bool.true_and]);have HY:=hide (And.intro hyA hyB);have HRG:=hide (hrg _ (List.mem_of_getElem? hx));clear hU hx hA hB hpA hpB hyA hyB;(go_wp2_with fail);refine (zbh N i' ip yA _ (h.below hb) HY.out.1 (by have:=HRG.out; unfold LK.Rng I64 at this; dsimp only at this; omega)).mono ?_;rintro e w4 ⟨rfl,hbc⟩;have kP:=za kP hbc;have kL:=za kL hbc;have kE:=za kE hbc;have hb:=zc hb hbc;have ow:=zn ow hbc;clear hbc x0 x1 x2 l0 l1 l2 l3 e0 e1 e2 e3;obtain ⟨x0,x1,x2⟩:=zl kP;obtain ⟨l0,l1,l2,l3⟩:=zz kL;obtain ⟨e0,e1,e2,e3⟩:=zz kE;cases hq1:bitOf (zI yA.B.id yA.B.ports) (ip:Int)
    ·have HF:=hide (zaS (show liveK N.brs N.ls k=false by rw [HK.out,hq1]; rfl));clear hq1;have HO:=hide ow;have HP:=hide kP;have HB:=hide hb;clear ow kP hb;go_wp2
     go_roundw
     case rel=>exact ⟨k+1,ao,cap,by omega,by go_num,by rw [HF.out],by rw [HF.out]; exact HO.out,by rw [← HLA.out]; exact HP.out,HB.out⟩
     case measure=>simp [intOf]; omega
    ·(go_wp2_with fail);refine (zbh N j jq yB _ (h.below hb) HY.out.2 (by have:=HRG.out; unfold LK.Rng I64 at this; dsimp only at this; omega)).mono ?_;rintro e w5 ⟨rfl,hbc⟩;have kP:=za kP hbc;have kL:=za kL hbc;have kE:=za kE hbc;have hb:=zc hb hbc;have ow:=zn ow hbc;clear hbc x0 x1 x2 l0 l1 l2 l3 e0 e1 e2 e3;obtain ⟨x0,x1,x2⟩:=zl kP;obtain ⟨l0,l1,l2,l3⟩:=zz kL;obtain ⟨e0,e1,e2,e3⟩:=zz kE;cases hq2:bitOf (zI yB.B.id yB.B.ports) (jq:Int)
     ·have HF:=hide (zaS (show liveK N.brs N.ls k=false by rw [HK.out,hq1,hq2]; rfl));clear hq1 hq2;have HO:=hide ow;have HP:=hide kP;have HB:=hide hb;clear ow kP hb;go_wp2
      go_roundw
      case rel=>exact ⟨k+1,ao,cap,by omega,by go_num,by rw [HF.out],by rw [HF.out]; exact HO.out,by rw [← HLA.out]; exact HP.out,HB.out⟩
      case measure=>simp [intOf]; omega
     ·have HF:=hide (zbs (show liveK N.brs N.ls k=true by rw [HK.out,hq1,hq2]; rfl));clear hq1 hq2;generalize hwa:w5.alloc (Obj.cells #[Value.int .i64 k] 3)=wa;have bra:=zb hwa;have ka:=zk hwa;have gone:GRow intF wa (some ⟨w5.heap.size,0,none⟩) 1 1 [(k:Int)]:=zG (F:=intF) (zeL intF (x:=(k:Int)) (base:=0) ka rfl (Nat.zero_le _));have hI2:=zn ow bra;have HBA:=hide (zc hb bra);have KPA:=hide (za kP bra);clear ow hb kP;generalize hq:(zH N.brs N.ls k).length=q at *;go_wp2_with (at_builtin; refine zaC (F:=intF) _ rfl _ _ 37 3 rfl w.heap.size Try.underlying37 Try.infoI64 rfl (by decide) _ q (zH N.brs N.ls k) rfl hI2 (some ⟨w5.heap.size,0,none⟩) 1 1 [(k:Int)] rfl gone (by have:=HLQ.out; omega) HBA.out.size ?_)
      intro a7 c7 w7 how hr hgr hb7;have HB7:=hide (HBA.out.trans hb7);have KP7:=hide (zg KPA.out hgr (fun b e=>zae hI2 KPA.out (by decide) b e));have HQ1:Hid ((zH N.brs N.ls (k+1)).length=q+1):=hide (by rw [HF.out,List.length_append,hq]; rfl);rw [← HF.out] at how;have HO:=hide how;clear how hr hgr hb7 hI2 gone ka hq;go_wp2
      go_roundw
      case rel=>exact ⟨k+1,a7,c7,by omega,by go_num,by rw [HQ1.out],by rw [HQ1.out]; exact HO.out,by rw [← HLA.out]; exact KP7.out,HB7.out⟩
      case measure=>simp [intOf]; omega
  ·have hkn:k=N.ln:=by omega
   subst hkn;have HO:=hide ow;have HB:=hide hb;clear ow hb;go_wp2;go_ret;exact ⟨ao,cap,rfl,HO.out,HB.out⟩

theorem zeF (bs:List BR) (ls:List LK):∀k,∀z∈zH bs ls k,0≤z∧z < (k:Int)
 | 0=>fun z hz=>by simp [zH] at hz
 | k+1=>fun z hz=>by
  have ih:=zeF bs ls k;cases h:liveK bs ls k
  ·rw [zaS h] at hz
   have:=ih z hz
   omega
  ·rw [zbs h,List.mem_append] at hz;rcases hz with hz | hz
   ·have:=ih z hz
    omega
   ·simp at hz
    omega
theorem zfr (bs:List BR) (ls:List LK) (k:Nat) (hk:k≤1048576):I64s (zH bs ls k):=by
 intro z hz
 have:=zeF bs ls k z hz
 omega
theorem zej (N:NV) (LL:List Int) (w:World) (h:zJ w N) (hL:LL=zH N.brs N.ls N.ls.length) (h20:N.ln≤1048576) (hrg:∀x∈N.ls,x.Rng) :
  Calls Try.prog 11 #[.agg #[.slice N.ba N.bn N.bc,.slice N.la N.ln N.lc,.slice N.sa N.sn N.sc]] w fun e w'=>∃ao cap,e=.returned (.slice ao LL.length cap)∧w'.ownsRow w.heap.size 3 1 (.slice ao LL.length cap) LL.length (cI LL)∧Below w.heap.size w w':=by
 refine (zcA N w h h20 hrg).mono ?_;rintro e w' ⟨ao,cap,rfl,ho,hb⟩;rw [show N.ln=N.ls.length from h.l.size.symm,← hL] at ho ⊢;exact ⟨ao,cap,rfl,by rw [← zcm]; exact ho,hb⟩

theorem zb0 (N:NV) (LL:List Int) (w:World) (h:zJ w N) (hL:LL=zH N.brs N.ls N.ls.length) (h20:N.ln≤1048576) (hrg:∀x∈N.ls,x.Rng) :
  Calls Try.prog 12 #[.agg #[.slice N.ba N.bn N.bc,.slice N.la N.ln N.lc,.slice N.sa N.sn N.sc]] w fun e w'=>∃ao cap,e=.returned (.slice ao LL.length cap)∧w'.ownsRow w.heap.size 3 1 (.slice ao LL.length cap) LL.length (cI LL)∧Below w.heap.size w w':=by
 refine (zck N w h h20 hrg).mono ?_;rintro e w' ⟨ao,cap,rfl,ho,hb⟩;rw [show N.ln=N.ls.length from h.l.size.symm,← hL] at ho ⊢;exact ⟨ao,cap,rfl,by rw [← zcm]; exact ho,hb⟩

end Go.Proofs.Ytgmkhoakindpkaa
