/-
  Packed: StepStepsI EvsOpen.
-/
import Derived.Test.YtpaneiaflfegoaaGreatPTK01
import Derived.Test.YtpaneiaflfegoaaGreatPTK03
import Derived.Test.YtpaneiaflfegoaaGreatPTK33
import Derived.Test.YtpaneiaflfegoaaGreatPTStepCopy
import Derived.Test.YtpaneiaflfegoaaGreatPTStepStepI
namespace Go.Proofs.YtpaneiaflfegoaaGreat
set_option maxRecDepth 100000
set_option maxHeartbeats 16000000
open Go.RowKit

theorem zcL (N:NV) (ea:Option Addr) (en ec:Nat) (l:List EV) (w:World) (h:zae w N) (hz:N.Sized) (hE:GRow evF w ea en ec l) (hR:∀B∈N.brs,B.Rg) :
  Calls Tryz.prog 16 #[.agg #[.slice N.ba N.bn N.bc,.slice N.la N.ln N.lc,.slice N.sa N.sn N.sc],.slice ea en ec] w fun e w'=>∃M:NV,e=.returned (.agg #[.slice M.ba M.bn M.bc,.slice M.la M.ln M.lc,.slice M.sa M.sn M.sc])∧NOwn w' w.heap.size M∧zb6 l (min en 60) N.t M.t∧Below w.heap.size w w':=by
 generalize hw1:w.alloc (Obj.cells #[.slice N.ba N.bn N.bc,.slice N.la N.ln N.lc,.slice N.sa N.sn N.sc] 34)=w1;generalize hw2:w1.alloc (Obj.cells #[.slice none 0 0,.slice none 0 0,.slice none 0 0] 34)=w2;have b01:=zb hw1;have b12:=zb hw2;have b02:=zc b01 b12;have kP:=za (zk hw1) b12;have kJ:=zk hw2;have HZR:Hid (w1.heap.size=w.heap.size+1):=hide (by rw [← hw1]; simp);have HZ:Hid (w2.heap.size=w.heap.size+2):=hide (by rw [← hw2,← hw1]; simp);obtain ⟨x0,x1,x2⟩:=zd kP;obtain ⟨m,hm⟩:∃m:Nat,m=min en 60:=⟨_,rfl⟩;have hme:m≤en:=by omega
 have hmc:m≤ec:=by have:=hE.le; omega
 have m1:min (en:Int) 60=(m:Int):=by omega
 have m2:(m:Int)≤(ec:Int):=by omega
 have m3:(0:Int)≤(m:Int):=by omega
 have hle:=Nat.le_trans hE.le hE.top;unfold maxLen at hle;have HMN:=hide hm;clear hm;go_enter Tryz.func16,Tryz.ntmps16;go_wp2_with fail
 refine (zcN N _ (h.below b02) (by have:=hz.n; omega) (by have:=hz.l; omega) (by have:=hz.s; omega) (zdn hz.m)).mono ?_;rintro e w3 ⟨X0,base0,M,rfl,st0,sM,hbs0,hb3⟩;have oM:=st0.own.lt (base':=w2.heap.size) hbs0;obtain ⟨q0,q1,q2⟩:=zd st0.box;generalize hw4:w3.alloc (Obj.cells #[.slice M.ba M.bn M.bc,.slice M.la M.ln M.lc,.slice M.sa M.sn M.sc] 34)=w4;have b34:=zb hw4;have kY:=zk hw4;have oM:=oM.below b34;have b24:=zc hb3 b34;have kJ:=za kJ b24;have b04:=zc b02 b24;have HYR:Hid (w.heap.size+2≤w3.heap.size):=hide (by have:=hb3.size; have:=HZ.out; omega);have HB2:Hid (w.heap.size≤w2.heap.size):=hide (by have:=HZ.out; omega);go_wp2_with fail
 generalize hY:w3.heap.size=Y at *;generalize hRR:w1.heap.size=R at *;have HRG:=hide hR;clear x0 x1 x2 hb3 b34 b24 b02 b12 b01 hw1 hw2 hw4 kP q0 q1 q2 st0 hbs0 hR
 go_loopw [7,19] (fun u i wr=>∃(j:Nat) (M:NV),j≤60∧(j=0∨j≤en)∧i=.int .i64 j∧wr.heap[Y]?=some (.cells #[.slice M.ba M.bn M.bc,.slice M.la M.ln M.lc,.slice M.sa M.sn M.sc] 34)∧wr.heap[R]?=some (.cells #[.slice none 0 0,.slice none 0 0,.slice none 0 0] 34)∧NOwn wr w.heap.size M∧Below w.heap.size w wr∧zb6 l j N.t M.t) (fun _ i _=>60 - (intOf i).toNat)
 case atStart=>exact ⟨0,M,by omega,.inl rfl,rfl,kY,kJ,oM.lt HB2.out,b04,zex sM⟩
 case round =>
  clear kY kJ oM b04 sM;obtain ⟨j,M2,hj,hjk,rfl,kY,kJ,oM,hB,hM⟩:=hrel;have HM:=hide hM;have hz2:=ziG oM.row h (zcc j hM) hz;clear hM;obtain ⟨x0,x1,x2⟩:=zd kY;by_cases hlt:j < en∧j < 60
  ·obtain ⟨l1,l2⟩:=hlt;have l1:(j:Int) < (en:Int):=by omega
   have l2:(j:Int) < 60:=by omega
   have l4:(0:Int)≤(j:Int):=by omega
   obtain ⟨ev,eb,eo,hex,hea,-⟩:=zbY (hE.below hB) j (by omega);have HEX:=hide hex;have HEA:=hide hea;have HEV:Hid (∀W,Below w.heap.size w W→W.cell? ⟨eb,eo+j*2,none⟩=some (.int .i64 ev.kd)∧W.cell? ⟨eb,eo+j*2+1,none⟩=some (.int .i64 ev.i)):=hide (fun W hW=>by
    obtain ⟨ev',eb',eo',hex',hea',c⟩:=zbY (hE.below hW) j (by omega);rw [hex] at hex';cases hex';rw [hea] at hea';cases hea';exact c)
   clear hex hea;have l3:(j:Int) < (m:Int):=by have:=HMN.out; omega
   obtain ⟨c0,c1⟩:=HEV.out _ hB;generalize hwE:wr.alloc (Obj.cells #[.int .i64 ev.kd,.int .i64 ev.i] 38)=wE;have bE:=zb hwE;have kE:=zk hwE;have kY:=za kY bE;have kJ:=za kJ bE;have hB:=zc hB bE;clear x0 x1 x2;obtain ⟨x0,x1,x2⟩:=zd kY;obtain ⟨e0,e1⟩:=zm kE;rw [HEA.out];(go_wp2_with fail);refine (zfH M2 ev.kd ev.i _ (oM.row.below bE) hz2.n hz2.l hz2.s hz2.m (zgV j HM.out HRG.out)).mono ?_;rintro e w8 ⟨M3,q3,rfl,o3,r3,b8⟩;have kY:=za kY b8;have kJ:=za kJ b8;have o3:=o3.lt (base':=w.heap.size) hB.size;have hB:=zc hB b8;have HR3:Hid (zb6 l (j+1) N.t M3.t):=hide ⟨_,HM.out,ev,q3,HEX.out,r3⟩;clear x0 x1 x2 e0 e1 c0 c1 kE b8 bE oM hz2;obtain ⟨x0,x1,x2⟩:=zd kY;have f0:=zf kY 0;have f1:=zf kY 1;have f2:=zf kY 2;have o4:=o3.out kY;have b4:=zQ hB (R:=Y) (by have:=HYR.out; omega) (.slice M3.ba M3.bn M3.bc) (.slice M3.la M3.ln M3.lc) (.slice M3.sa M3.sn M3.sc);have kJ4:=ze kJ (zz (zz (zg (rb:=Y) 0 (.slice M3.ba M3.bn M3.bc)) (zg 1 (.slice M3.la M3.ln M3.lc))) (zg 2 (.slice M3.sa M3.sn M3.sc))) (by intro i e; cases e; have:=HYR.out; have:=HZR.out; omega);have kY4:=zay (K:=fun W=>W.heap[Y]?=some (.cells #[.slice M3.ba M3.bn M3.bc,.slice M3.la M3.ln M3.lc,.slice M3.sa M3.sn M3.sc] 34)) kY (.slice M3.ba M3.bn M3.bc) (.slice M3.la M3.ln M3.lc) (.slice M3.sa M3.sn M3.sc) (fun wq kQ _=>kQ);have HO:=hide o4;have HB:=hide b4;have HKJ:=hide kJ4;have HKY:=hide kY4;clear o3 o4 b4 kJ4 kY4 hB kJ r3;go_wp2
   go_roundw
   case rel=>exact ⟨j+1,M3,by omega,.inr (by omega),by go_num,HKY.out,HKJ.out,HO.out,HB.out,HR3.out⟩
   case measure=>simp [intOf]; omega
  ·have hcj:min en 60=j:=by omega
   have HC:Hid (zb6 l (min en 60) N.t M2.t):=hide (by rw [hcj]; exact HM.out);obtain ⟨r0,r1,r2⟩:=zd kJ;have f0:=zf kJ 0;have f1:=zf kJ 1;have f2:=zf kJ 2;have ne1:¬R=Y:=by have:=HYR.out; have:=HZR.out; omega
   have ne2:¬Y=R:=by have:=HYR.out; have:=HZR.out; omega
   have HO:=hide (oM.out kJ);have HB:=hide (zQ hB (R:=R) (by have:=HZR.out; omega) (.slice M2.ba M2.bn M2.bc) (.slice M2.la M2.ln M2.lc) (.slice M2.sa M2.sn M2.sc));have ht:¬(j:Int) < (en:Int)∨((j:Int) < (en:Int)∧¬(j:Int) < 60):=by omega
   have l3:¬(j:Int) < (m:Int):=by have:=HMN.out; omega
   clear oM kY kJ hB hz2 hcj hlt;rcases ht with ht | ⟨hu,ht⟩
   ·go_wp2;exact bodyPost_ret (v:=.agg #[.slice M2.ba M2.bn M2.bc,.slice M2.la M2.ln M2.lc,.slice M2.sa M2.sn M2.sc]) (by simp [results,Tryz.results16,go_sem, *]) rfl ⟨M2,rfl,HO.out,HC.out,HB.out⟩
   ·go_wp2;exact bodyPost_ret (v:=.agg #[.slice M2.ba M2.bn M2.bc,.slice M2.la M2.ln M2.lc,.slice M2.sa M2.sn M2.sc]) (by simp [results,Tryz.results16,go_sem, *]) rfl ⟨M2,rfl,HO.out,HC.out,HB.out⟩

section
open Go.RowKit

theorem zkl (N:NV):0≤sizeN N:=by
 unfold sizeN;have h:=zbx N.bs;omega

structure zg3 (P:Program) (tlS tl ti:TypeId) (l0 l1:Field):Prop where
 ulS:P.underlying tlS=some (.slice tl)
 ul:P.underlying tl=some (.struct #[l0,l1])
 ui:P.underlying ti=some (.int .i64)
 l0:l0.type=ti∧l0.offset=0
 l1:l1.type=ti∧l1.offset=1
 cl:P.cellsOf tl=2
 ci:P.cellsOf ti=1

section
open Go.ChangeShapes Go.WideShapes Go.ChangeAt
variable {H:Type} {enc:TypeId × Value→H} {P:Program} {w:World}

theorem zi1 {tlS tl ti:TypeId} {l0 l1:Field} (T:zg3 P tlS tl ti l0 l1) {fuel:Nat} {cs:List Value} {x:DataW H × List MemPlace} (h:DataW.trod enc P w 0 (fun _=>true) true fuel tl cs=some x):∃y,cs=evF.cs y∧True:=by
 obtain ⟨xs,n,_,_,hlen,hxl,hq⟩:=DataW.trod_struct T.ul h;rw [T.cl] at hlen
 match xs,hxl,cs,hlen with
 | [y0,y1],_,[v0,v1],_ =>
  have k0:=hq 0 l0 rfl;have k1:=hq 1 l1 rfl;rw [T.l0.1,T.l0.2,T.ci] at k0;rw [T.l1.1,T.l1.2,T.ci] at k1
  simp at k0 k1
  obtain ⟨A,i0,-,r0⟩:=DataW.trod_int T.ui k0;obtain ⟨B,i1,-,r1⟩:=DataW.trod_int T.ui k1;simp only [List.cons.injEq,and_true] at i0 i1;subst i0 i1;exact ⟨⟨A,B⟩,rfl,trivial⟩

theorem zhN {tlS tl ti:TypeId} {l0 l1:Field} (T:zg3 P tlS tl ti l0 l1) {fuel:Nat} {v:Value} {x:DataW H × List MemPlace} (h:DataW.trod enc P w 0 (fun _=>true) true fuel tlS [v]=some x) :
  ∃ao len cap l,v=.slice ao len cap∧GRow evF w ao len cap l∧∀x∈l,True :=
 zbU ⟨0,0⟩ evF (fun _=>True) T.ulS T.cl (fun h=>zi1 T h) h
end

end

end Go.Proofs.YtpaneiaflfegoaaGreat
