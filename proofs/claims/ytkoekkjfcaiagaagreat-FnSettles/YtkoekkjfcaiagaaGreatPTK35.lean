/-
  Packed: StepRoundI StepFit SetDone DrawNt5 NetNewT.
-/
import Derived.Test.YtkoekkjfcaiagaaGreatPTDrawNt1
import Derived.Test.YtkoekkjfcaiagaaGreatPTK01
import Derived.Test.YtkoekkjfcaiagaaGreatPTK15
import Derived.Test.YtkoekkjfcaiagaaGreatPTK18
import Derived.Test.YtkoekkjfcaiagaaGreatPTK20
import Derived.Test.YtkoekkjfcaiagaaGreatPTK21
import Derived.Test.YtkoekkjfcaiagaaGreatPTK30
import Derived.Test.YtkoekkjfcaiagaaGreatPTK32
import Derived.Test.YtkoekkjfcaiagaaGreatPTK33
import Derived.Test.YtkoekkjfcaiagaaGreatPTK34
import Derived.Test.YtkoekkjfcaiagaaGreatPTNetOkK
namespace Go.Proofs.YtkoekkjfcaiagaaGreat
set_option maxRecDepth 100000
set_option maxHeartbeats 16000000
open Go.RowKit

theorem zi8 (B:BR) (p:Int) (v:VD) (h:B.Rg):(hearB B p v).Rg:=by
 have hs:(hearB B p v).f.Sublist B.f:=by
  unfold hearB
  split
  ·split
   ·split
    ·exact zbI _ _ _
    ·exact List.Sublist.refl _
   ·exact List.Sublist.refl _
  ·exact List.Sublist.refl _
 exact ⟨fun x hx=>h.1 x (hs.subset hx),by rw [(zgs B p v).2.2]; exact h.2⟩

theorem NV.rgs {N:NV} (h:∀B∈N.brs,B.Rg):∀y∈N.bs,y.B.Rg:=fun y hy=>h y.B (by unfold NV.brs; exact List.mem_map_of_mem hy)

theorem zc8 (N:NV) (w:World) (h:zag w N) (hn:N.bn≤1048576) (hl:N.ln≤1048576) (hs:N.sn≤1048576) (hm:∀x∈N.bs,x.Small20) (hR:∀B∈N.brs,B.Rg) :
  Calls Tryz.prog 30 #[.agg #[.slice N.ba N.bn N.bc,.slice N.la N.ln N.lc,.slice N.sa N.sn N.sc]] w fun e w'=>∃M:NV,e=.returned (.agg #[.slice M.ba M.bn M.bc,.slice M.la M.ln M.lc,.slice M.sa M.sn M.sc])∧NOwn w' w.heap.size M∧zfH N M∧Below w.heap.size w w':=by
 have hll:N.ls.length=N.ln:=h.l.size;have hle:=Nat.le_trans h.l.le h.l.top;unfold maxLen at hle;generalize hw1:w.alloc (Obj.cells #[.slice N.ba N.bn N.bc,.slice N.la N.ln N.lc,.slice N.sa N.sn N.sc] 31)=w1;generalize hw2:w1.alloc (Obj.cells #[.slice none 0 0,.slice none 0 0,.slice none 0 0] 31)=w2;have b01:=zb hw1;have b12:=zb hw2;have b02:=zc b01 b12;have kP:=za (zk hw1) b12;have kJ:=zk hw2;have HZR:Hid (w1.heap.size=w.heap.size+1):=hide (by rw [← hw1]; simp);have HZ:Hid (w2.heap.size=w.heap.size+2):=hide (by rw [← hw2,← hw1]; simp);obtain ⟨x0,x1,x2⟩:=zd kP;go_enter Tryz.func30,Tryz.ntmps30;go_wp2_with fail
 refine (zda N _ (h.below b02) (by omega) (by omega) (by omega) (zeX hm)).mono ?_;rintro e w3 ⟨X,base,M,rfl,st,sM,hbs,hb3⟩;have kP:=za kP hb3;have kJ:=za kJ hb3;have b03:=zc b02 hb3;have HBS:Hid (w.heap.size+2≤base):=hide (by have:=HZ.out; omega);generalize hRR:w1.heap.size=R at *;clear x0 x1 x2 hb3 b02 b12 b01 hbs;obtain ⟨x0,x1,x2⟩:=zd kP;go_wp2_with fail
 refine (zfR N _ (h.below b03) (fun x hx=>by have:=(hm x hx).2.1; omega) (fun x hx=>(hR x.B (by unfold NV.brs; exact List.mem_map_of_mem hx)).2)).mono ?_;rintro e w5 ⟨q,rfl,hq,hb5⟩;have st:=st.later hb5;have kP:=za kP hb5;have kJ:=za kJ hb5;have b05:=zc b03 hb5;clear x0 x1 x2 b03 hb5 hw1 hw2;have HSM:=hide sM;have HXL:=hide st.le;have HJB:Hid (w.heap.size < base∧R < base∧w.heap.size≤R):=hide (by have:=HBS.out; have:=HZR.out; omega);cases q
 ·have HNO:Hid (¬NetOk N.brs N.ls N.ss):=hide (fun hc=>by have:=hq.2 hc; cases this);clear hq;obtain ⟨x0,x1,x2⟩:=zd st.box;obtain ⟨r0,r1,r2⟩:=zd kJ;have f0:=zf kJ 0;have f1:=zf kJ 1;have f2:=zf kJ 2;have ne1:¬R=X:=by have:=HXL.out; have:=HJB.out; omega
  have ne2:¬X=R:=by have:=HXL.out; have:=HJB.out; omega
  have HO:=hide ((st.own.out kJ).lt (base':=w.heap.size) (by have:=HBS.out; omega));have HB:=hide (zai b05 (R:=R) HJB.out.2.2 (.slice M.ba M.bn M.bc) (.slice M.la M.ln M.lc) (.slice M.sa M.sn M.sc));clear st kP kJ b05;go_wp2;exact bodyPost_ret (v:=.agg #[.slice M.ba M.bn M.bc,.slice M.la M.ln M.lc,.slice M.sa M.sn M.sc]) (by simp [results,Tryz.results30,go_sem, *]) rfl ⟨M,rfl,HO.out,⟨HSM.out.l,fun hc=>absurd hc HNO.out,fun _=>⟨HSM.out.b,HSM.out.s⟩⟩,HB.out⟩
 ·have hOK:NetOk N.brs N.ls N.ss:=hq.1 rfl;clear hq;have HOK:=hide hOK;clear hOK;have HSMB:Hid (∀B∈N.brs,B.Sm∧B.Rg):=hide (fun B hB=>⟨zjv h hm B hB,hR B hB⟩);have HBL:Hid (w.heap.size≤base):=hide (by have:=HBS.out; omega);have HHR:Hid (∀(B:BR) (p:Int) (v:VD),B.Sm∧B.Rg→(hearB B p v).Sm∧(hearB B p v).Rg):=hide (fun B p v hB=>⟨zkP (zgs B p v) hB.1,zi8 B p v hB.2⟩);obtain ⟨x0,x1,x2⟩:=zd kP;(go_wp2_with fail);clear HZ HZR x0 x1 x2 hRR
  go_loopw [4,17] (fun u i wr=>∃(k:Nat) (M:NV),k≤N.ln∧i=.int .i64 k∧NiSt wr base X M∧wr.heap[w.heap.size]?=some (.cells #[.slice N.ba N.bn N.bc,.slice N.la N.ln N.lc,.slice N.sa N.sn N.sc] 31)∧wr.heap[R]?=some (.cells #[.slice none 0 0,.slice none 0 0,.slice none 0 0] 31)∧Below w.heap.size w wr∧(M.ls=N.ls∧M.brs=za3 N.brs N.ls k)) (fun _ i _=>N.ln - (intOf i).toNat)
  case atStart=>exact ⟨0,M,Nat.zero_le _,rfl,st,kP,kJ,b05,HSM.out.l,HSM.out.b⟩
  case round =>
   clear st kP kJ b05 sM HSM;obtain ⟨k,M2,hk,rfl,st,kP,kJ,hB,hM⟩:=hrel;have HM:=hide hM;clear hM;obtain ⟨x0,x1,x2⟩:=zd kP;by_cases hlt:k < N.ln
   ·obtain ⟨x,hx⟩:∃x,N.ls[k]?=some x:=⟨_,List.getElem?_eq_getElem (by omega)⟩;obtain ⟨hnab,u1,v1,hpa,hpb,-⟩:=(HOK.out.2.1.2 x (List.mem_of_getElem? hx)).1;have hpa:zaa (N.bs.map BV.B) x.a x.p=some u1:=hpa;have hpb:zaa (N.bs.map BV.B) x.b x.q=some v1:=hpb;obtain ⟨i,y,hi,hy⟩:=za4 hpa;obtain ⟨j,z,hj,hz⟩:=za4 hpb;have hml:M2.bs.length=N.bs.length:=by
     have e1:=congrArg List.length HM.out.2;have e2:=ze5 (zbM N.brs N.ls k);unfold NV.brs at e1 e2;simp only [List.length_map] at e1 e2;omega
    obtain ⟨y1,hy1⟩:=zgV hy hml;have hall:∀B∈M2.brs,B.Sm∧B.Rg:=by rw [HM.out.2]; exact zcL N.ls HSMB.out HHR.out k
    have HS1:=hide (zcr st.own.row (fun B hB=>(hall B hB).1) y1 (List.mem_of_getElem? hy1));have HR1:=hide ((NV.rgs (fun B hB=>(hall B hB).2)) y1 (List.mem_of_getElem? hy1));have HUP:Hid (zT M2.brs M2.ls (k:Int)=zT N.brs N.ls (k:Int)):=hide (by rw [HM.out.1]; exact zcb (by rw [HM.out.2]; exact zbM _ _ _) _ _);have HX:=hide hx;have HY:=hide hy;have HZz:=hide hz;have HI:=hide hi;have HJ:=hide hj;have HY1:=hide hy1;have HX2:Hid (M2.ls[k]?=some x):=hide (by rw [HM.out.1]; exact hx);have HML:=hide hml;have HWB:Hid (Way x true (j:Int) x.q (i:Int) x.p):=hide ⟨fun _=>⟨hj.symm,rfl,hi.symm,rfl⟩,(fun e=>by cases e)⟩;have HWF:Hid (Way x false (i:Int) x.p (j:Int) x.q):=hide ⟨(fun e=>by cases e),fun _=>⟨hi.symm,rfl,hj.symm,rfl⟩⟩;have i0:(k:Int) < (N.ln:Int):=by omega
    clear hx hy hz hi hj hy1 hml hpa hpb hnab hall;(go_wp2_with fail);refine (zdJ N k j x z true x.q (i:Int) x.p _ (h.below hB) HX.out HZz.out HWB.out).mono ?_;rintro e w9 ⟨rfl,b9⟩;have st:=st.later b9;have hB:=zc hB b9;have kP:=za kP b9;have kJ:=za kJ b9;clear x0 x1 x2 b9;obtain ⟨x0,x1,x2⟩:=zd kP;cases hU:zT N.brs N.ls (k:Int)
    ·have HS:Hid (M2.brs=za3 N.brs N.ls (k+1)):=hide (by rw [HM.out.2]; exact (zix hU).symm);have HU:=hide (HUP.out.trans hU);clear hU;(go_wp2_with fail);refine (zfl M2 base X k true (sayV z.B.id z.B.ports x.q) _ st HU.out).mono ?_;rintro e w10 ⟨rfl,st2,b10⟩;have hB:=hB.trans (b10.mono HBL.out);have kP:=zP kP b10 HJB.out.1;have kJ:=zP kJ b10 HJB.out.2.1;clear x0 x1 x2 b10 st;obtain ⟨x0,x1,x2⟩:=zd kP;(go_wp2_with fail);refine (zdJ N k i x y false x.p (j:Int) x.q _ (h.below hB) HX.out HY.out HWF.out).mono ?_;rintro e w11 ⟨rfl,b11⟩;have st2:=st2.later b11;have hB:=zc hB b11;have kP:=za kP b11;have kJ:=za kJ b11;clear x0 x1 x2 b11;obtain ⟨x0,x1,x2⟩:=zd kP;(go_wp2_with fail);refine (zfl M2 base X k false (sayV y.B.id y.B.ports x.p) _ st2 HU.out).mono ?_;rintro e w12 ⟨rfl,st3,b12⟩;have HKP:=hide (zP kP b12 HJB.out.1);have HKJ:=hide (zP kJ b12 HJB.out.2.1);have HBN:=hide (hB.trans (b12.mono HBL.out));have HST:=hide st3;clear st2 st3 kP kJ hB x0 x1 x2 b12;go_wp2
     go_roundw
     case rel=>exact ⟨k+1,M2,by omega,by go_num,HST.out,HKP.out,HKJ.out,HBN.out,HM.out.1,HS.out⟩
     case measure=>simp [intOf]; omega
    ·have HU:=hide hU;have HU2:=hide (HUP.out.trans hU);clear hU;(go_wp2_with fail);refine (zew M2 base X k i true (sayV z.B.id z.B.ports x.q) x y1 (j:Int) x.q x.p _ st HU2.out HX2.out HWB.out HY1.out HS1.out HR1.out).mono ?_;rintro e w10 ⟨rfl,y2,hy2,st2,b10⟩;have hB:=hB.trans (b10.mono HBL.out);have kP:=zP kP b10 HJB.out.1;have kJ:=zP kJ b10 HJB.out.2.1;have HQ1:Hid ((M2.bs.set i y2).map BV.B=atSet (za3 N.brs N.ls k) x.a.toNat (fun B=>hearB B x.p (sayAt N.brs x.b x.q))):=hide (by
      have e1:sayAt N.brs x.b x.q=sayV z.B.id z.B.ports x.q:=by rw [HJ.out]; exact zdL HZz.out x.q
      rw [e1,HI.out,← HM.out.2];exact zcq (f:=fun B=>hearB B x.p (sayV z.B.id z.B.ports x.q)) HY1.out hy2)
     have HUQ:Hid (zT ((M2.bs.set i y2).map BV.B) M2.ls (k:Int)=true):=hide (by
      rw [← HU2.out];refine zcb ?_ _ _;rw [HQ1.out,← HM.out.2];exact zes upsB (fun B=>zfM B _ _))
     clear x0 x1 x2 b10 hy2 st;obtain ⟨z1,hz1⟩:=zgV HZz.out (bs2:=M2.bs.set i y2) (by rw [List.length_set]; exact HML.out);have HZ1:=hide hz1;have hall:∀B∈(M2.bs.set i y2).map BV.B,B.Sm∧B.Rg:=by
      rw [HQ1.out];exact zer (zcL N.ls HSMB.out HHR.out k) (fun B=>HHR.out B _ _)
     have HS2:=hide (zcr st2.own.row (fun B hB=>(hall B hB).1) z1 (List.mem_of_getElem? hz1));have HR2:=hide ((hall z1.B (List.mem_map_of_mem (List.mem_of_getElem? hz1))).2);clear hz1 hall;obtain ⟨x0,x1,x2⟩:=zd kP;(go_wp2_with fail);refine (zdJ N k i x y false x.p (j:Int) x.q _ (h.below hB) HX.out HY.out HWF.out).mono ?_;rintro e w11 ⟨rfl,b11⟩;have st2:=st2.later b11;have hB:=zc hB b11;have kP:=za kP b11;have kJ:=za kJ b11;clear x0 x1 x2 b11;obtain ⟨x0,x1,x2⟩:=zd kP;(go_wp2_with fail);refine (zew _ base X k j false (sayV y.B.id y.B.ports x.p) x z1 (i:Int) x.p x.q _ st2 HUQ.out HX2.out HWF.out HZ1.out HS2.out HR2.out).mono ?_;rintro e w12 ⟨rfl,z2,hz2,st3,b12⟩;have HQ2:Hid (((M2.bs.set i y2).set j z2).map BV.B=za3 N.brs N.ls (k+1)):=hide (by
      have e1:sayAt N.brs x.a x.p=sayV y.B.id y.B.ports x.p:=by rw [HI.out]; exact zdL HY.out x.p
      show _=za8 N.brs N.ls (za3 N.brs N.ls k) k
      rw [ziy HX.out HU.out,← HQ1.out,e1,HJ.out];exact zcq (f:=fun B=>hearB B x.q (sayV y.B.id y.B.ports x.p)) HZ1.out hz2)
     have HKP:=hide (zP kP b12 HJB.out.1);have HKJ:=hide (zP kJ b12 HJB.out.2.1);have HBN:=hide (hB.trans (b12.mono HBL.out));have HST:=hide st3;clear st2 st3 kP kJ hB x0 x1 x2 b12 hz2;go_wp2
     go_roundw
     case rel=>exact ⟨k+1,_,by omega,by go_num,HST.out,HKP.out,HKJ.out,HBN.out,HM.out.1,HQ2.out⟩
     case measure=>simp [intOf]; omega
   ·have hkn:k=N.ln:=by omega
    obtain ⟨kX,st2,hb2⟩:=st.saidNew (Below.refl _ _) (ao:=none) (n:=0) (cap:=0) (ss:=[]) (World.ownsRow_nil wr base 90 7);obtain ⟨y0,y1,y2⟩:=zd kX;have fx:=zf kX 2;have kJ2:=zP kJ hb2 HJB.out.2.1;have hB:=hB.trans (hb2.mono HBL.out);have HE:Hid (M2.brs=za3 N.brs N.ls N.ls.length):=hide (by rw [HM.out.2,hkn,hll]);(go_upto_region 11 with fail);generalize hw7:wr.setCell ⟨X,2,none⟩ (.slice none 0 0)=w7 at *;clear y0 y1 y2 fx kX st kJ hb2 x0 x1 x2 kP;obtain ⟨y0,y1,y2⟩:=zd st2.box;obtain ⟨r0,r1,r2⟩:=zd kJ2;have f0:=zf kJ2 0;have f1:=zf kJ2 1;have f2:=zf kJ2 2;have ne1:¬R=X:=by have:=HXL.out; have:=HJB.out; omega
    have ne2:¬X=R:=by have:=HXL.out; have:=HJB.out; omega
    have HO:=hide ((st2.own.out kJ2).lt (base':=w.heap.size) HBL.out);have HB:=hide (zai hB (R:=R) HJB.out.2.2 (.slice M2.ba M2.bn M2.bc) (.slice M2.la M2.ln M2.lc) (.slice none 0 0));dsimp only at y0 y1 y2 HO;clear st2 kJ2 hB;go_wp2;exact bodyPost_ret (v:=.agg #[.slice M2.ba M2.bn M2.bc,.slice M2.la M2.ln M2.lc,.slice none 0 0]) (by simp [results,Tryz.results30,go_sem, *]) rfl ⟨_,rfl,HO.out,⟨HM.out.1,fun _=>⟨HE.out,rfl⟩,fun hc=>absurd HOK.out hc⟩,HB.out⟩

def NV.t (N:NV):List BR × List LK × List SY:=(N.brs,N.ls,N.ss)

theorem zlz {N M:NV} (h:M.Same N):M.t=N.t:=by
 have e:M.brs=N.brs:=h.b;unfold NV.t;rw [e,h.l,h.s]
theorem zlA {N M:NV} (h:M.t=N.t):M.Same N:=by
 unfold NV.t at h;simp only [Prod.mk.injEq] at h;exact ⟨h.1,h.2.1,h.2.2⟩

structure zhD (a b:List BR × List LK × List SY):Prop where
 l:b.2.1=a.2.1
 yes:NetOk a.1 a.2.1 a.2.2→b.1=za3 a.1 a.2.1 a.2.1.length∧b.2.2=[]
 no:¬NetOk a.1 a.2.1 a.2.2→b.1=a.1∧b.2.2=a.2.2

theorem zfH.r {N M:NV} (h:zfH N M):zhD N.t M.t:=⟨h.l,h.yes,h.no⟩

def zbZ:Nat→List BR × List LK × List SY→List BR × List LK × List SY→Prop
 | 0,a,b=>b=a
 | k+1,a,b=>∃c,zbZ k a c∧zhD c b

def FitT (a:List BR × List LK × List SY):Prop:=(∀B∈a.1,zt B=true)∧a.1.length≤6∧a.2.1.length≤9∧a.2.2.length≤40

theorem ziw {a b:List BR × List LK × List SY} (h:zhD a b):b=a∨FitT b:=by
 by_cases ho:NetOk a.1 a.2.1 a.2.2
 ·obtain ⟨e1,e2⟩:=h.yes ho;refine .inr ⟨?_, ?_, ?_, ?_⟩
  ·rw [e1]; exact zcL a.2.1 ho.1.1 (fun B p v hB=>zhR hB p v) _
  ·rw [e1,ze5 (zbM _ _ _)]; exact ho.1.2.2.2
  ·rw [h.l]; exact ho.2.1.1
  ·rw [e2]; simp
 ·obtain ⟨e1,e2⟩:=h.no ho;refine .inl ?_;obtain ⟨b1,b2,b3⟩:=b;obtain ⟨a1,a2,a3⟩:=a;have e3:=h.l;dsimp only at *;rw [e1,e2,e3]

theorem zeS:∀(k:Nat) {a b:List BR × List LK × List SY},zbZ k a b→b=a∨FitT b
 | 0,_,_,h=>.inl h
 | n+1,_,_,⟨c,h1,h2⟩=>by
  rcases ziw h2 with e | e
  ·subst e; exact zeS n h1
  ·exact .inr e

theorem zjt {a b:List BR × List LK × List SY} (h:zhD a b) (hr:∀B∈a.1,B.Rg):∀B∈b.1,B.Rg:=by
 by_cases ho:NetOk a.1 a.2.1 a.2.2
 ·rw [(h.yes ho).1]; exact zcL a.2.1 hr (fun B p v hB=>zi8 B p v hB) _
 ·rw [(h.no ho).1]; exact hr

theorem zfA:∀(k:Nat) {a b:List BR × List LK × List SY},zbZ k a b→(∀B∈a.1,B.Rg)→∀B∈b.1,B.Rg
 | 0,_,_,h,hr=>by rw [show _=_ from h]; exact hr
 | n+1,_,_,⟨c,h1,h2⟩,hr=>zjt h2 (zfA n h1 hr)

theorem zkV {w:World} {x:BV} (h:x.Reads w) (hb:zt x.B=true):x.Tiny:=by
 obtain ⟨h1,h2,h3,h4,h5,h6,-⟩:=zS hb;have q1:=h.ports.size;have q2:=h.f.size;have q3:=h.v.rows.size;have q4:=h.v.own.size;have p4:(x.B.ports.length:Int)≤6:=by unfold in3 at h4; simp at h4; omega
 have p5:x.B.f.length≤12:=((zb8 _).1 h5).2;have p6:x.B.v.rows.length≤6∧x.B.v.own.length≤6:=by
  unfold zas at h6;simp only [Bool.and_eq_true,decide_eq_true_eq,beq_iff_eq] at h6;exact ⟨h6.1.1.1.2,by have:=h6.1.1.1.1.2; omega⟩
 exact ⟨by omega,by omega,by omega,by omega⟩

structure NV.Sized (N:NV):Prop where
 n:N.bn≤1048576
 l:N.ln≤1048576
 s:N.sn≤1048576
 m:∀x∈N.bs,x.Small20

theorem zkr {w w0:World} {N M:NV} (h:zag w M) (h0:zag w0 N) (hf:M.t=N.t∨FitT M.t) (hs:N.Sized):M.Sized:=by
 have q1:=h.b.size;have q2:=h.l.size;have q3:=h.s.size;rcases hf with e | ⟨f1,f2,f3,f4⟩
 ·have e':=zlA e;have r1:=h0.b.size;have r2:=h0.l.size;have r3:=h0.s.size;have e1:=congrArg List.length e'.b;rw [List.length_map,List.length_map] at e1;rw [e'.l] at q2;rw [e'.s] at q3;have z1:=hs.n;have z2:=hs.l;have z3:=hs.s;refine ⟨by omega,by omega,by omega,zcr h ?_⟩;rw [show M.brs=N.brs from e'.b];exact zjv h0 hs.m
 ·have f2':M.bs.length≤6:=by have:(M.bs.map BV.B).length≤6:=f2; simpa using this
  have f3':M.ls.length≤9:=f3;have f4':M.ss.length≤40:=f4;refine ⟨by omega,by omega,by omega,fun x hx => ?_⟩;obtain ⟨t1,t2,t3,t4⟩:=zkV (h.item x hx) (f1 x.B (List.mem_map_of_mem hx));exact ⟨by omega,by omega,by omega,by omega⟩

theorem zeK {bs:List BR} {ls:List LK} {ss:List SY} (h:NetOk bs ls ss) {t t' u:Nat} (ht:15≤t) (ht':15≤t') {B B':BR} (hB:(zat bs ls t)[u]?=some B) (hB':(zat bs ls t')[u]?=some B'):knowT B=knowT B'∧B.id=B'.id:=by
 have hu:u < bs.length:=by have:=(List.getElem?_eq_some_iff.1 hB).1; rw [zd3] at this; exact this
 obtain ⟨x,n,c,-,-,-,-,hT⟩:=zhw (zlu h) (zke h) hu;have h1:=hT t ht;have h2:=hT t' ht';dsimp only [zbV] at h1 h2;rw [hB] at h1;rw [hB'] at h2;dsimp only at h1 h2;obtain ⟨A,hA,f⟩:=zbt h (List.getElem?_eq_getElem hu) t;obtain ⟨A',hA',f'⟩:=zbt h (List.getElem?_eq_getElem hu) t';rw [hB] at hA;cases hA;rw [hB'] at hA';cases hA';exact ⟨h1.trans h2.symm,f.id.trans f'.id.symm⟩

theorem zcU {bs:List BR} {ls:List LK} {ss:List SY} (h:NetOk bs ls ss) {t u p v q:Nat} {A:BR} {y:PT} (hA:(zat bs ls (t+1))[u]?=some A) (hy:A.ports[p]?=some y) (hh:Hears bs ls ls.length u p v q):∃D,(zat bs ls t)[v]?=some D∧y.has=true∧y.v=sayV D.id D.ports (q:Int):=by
 obtain ⟨ss',h'⟩:=zbN h t;have hu:u < bs.length:=by have:=(List.getElem?_eq_some_iff.1 hA).1; rw [zd3] at this; exact this
 obtain ⟨B,hB,f⟩:=zbt h (List.getElem?_eq_getElem hu) t;obtain ⟨B',hB',r⟩:=(zfy h' ls.length (Nat.le_refl _)).at' u B hB;have e:B'=A:=by
  have:(zat bs ls (t+1))[u]?=some B':=hB'
  rw [hA] at this;exact (Option.some.inj this).symm
 subst e;have hh':=zdz (za1 bs ls t).symm hh;obtain ⟨A0,D,pA,pD,hA0,hD,hpA,hpD⟩:=zcV hh';rw [hB] at hA0;cases hA0;obtain ⟨y',hy',g⟩:=r.port p pA hpA;rw [hy] at hy';cases hy';obtain ⟨g1,g2⟩:=g.yes v q hh';exact ⟨D,hD,g1,by rw [g2]; exact (zdK h' hD hpD).2⟩

theorem zdc {bs:List BR} {ls:List LK} {ss:List SY} (h:NetOk bs ls ss) {t:Nat} (ht:15≤t):agreed (zat bs ls (t+1)) ls=true:=by
 refine zfh fun κ hκ => ?_
 unfold agrK;rw [List.getElem?_eq_getElem hκ];dsimp only;cases hup:zT (zat bs ls (t+1)) ls (κ:Int) with
 | false=>rfl
 | true =>
  obtain ⟨i,ip,j,jq,A,B,pA,pB,hx,hA,hB,hpA,hpB⟩:=zcK (List.getElem?_eq_getElem hκ) hup;have hl:zT bs ls (κ:Int)=true:=by rw [← zcb (za1 bs ls (t+1))]; exact hup
  have h1:Hears bs ls ls.length i ip j jq:=⟨κ,_,hκ,List.getElem?_eq_getElem hκ,hl,.inl hx⟩;have h2:Hears bs ls ls.length j jq i ip:=⟨κ,_,hκ,List.getElem?_eq_getElem hκ,hl,.inr hx⟩;obtain ⟨D,hD,d1,d2⟩:=zcU h hA hpA h1;obtain ⟨E,hE,e1,e2⟩:=zcU h hB hpB h2;obtain ⟨k1,i1⟩:=zeK h ht (show 15≤t+1 by omega) hD hB;obtain ⟨k2,i2⟩:=zeK h ht (show 15≤t+1 by omega) hE hA;rw [hx,zhE hA hB hpA hpB];unfold zb9;rw [d1,e1,d2,e2,zbW D,zbW E,zbW A,zbW B,k1,k2,i1,i2]
  simp

theorem zk0 {x y:PT} (h1:x.up=y.up) (h2:x.k=y.k) (h3:x.has=y.has) (h4:x.v=y.v):x=y:=by
 obtain ⟨a,b,c,d⟩:=x;obtain ⟨a',b',c',d'⟩:=y
 simp only at h1 h2 h3 h4
 subst h1 h2 h3 h4
 rfl

theorem zf4 {bs:List BR} {ls:List LK} {ss:List SY} (h:NetOk bs ls ss) {t u:Nat} (ht:15≤t) {B B':BR} (hB:(zat bs ls (t+1))[u]?=some B) (hB':(zat bs ls (t+2))[u]?=some B'):B'.ports=B.ports∧B'.id=B.id:=by
 obtain ⟨ss',h'⟩:=zbN h (t+1);obtain ⟨B2,hB2,r⟩:=(zfy h' ls.length (Nat.le_refl _)).at' u B hB;have e:B2=B':=by
  have:(zat bs ls (t+2))[u]?=some B2:=hB2
  rw [hB'] at this;exact (Option.some.inj this).symm
 subst e;refine ⟨List.ext_getElem? fun p => ?_,r.id⟩;cases hp:B.ports[p]? with
 | none =>
  rw [List.getElem?_eq_none_iff] at hp ⊢;rw [r.len];exact hp
 | some y =>
  obtain ⟨y',hy',g⟩:=r.port p y hp;rw [hy']
  congr 1
  by_cases hh:∃v q,Hears bs ls ls.length u p v q
  ·obtain ⟨v,q,hh⟩:=hh;obtain ⟨D,hD,d1,d2⟩:=zcU h hB hp hh;obtain ⟨E,hE,e1,e2⟩:=zcU h hB' hy' hh;obtain ⟨k1,i1⟩:=zeK h ht (show 15≤t+1 by omega) hD hE;exact zk0 g.up g.k (by rw [d1,e1]) (by rw [d2,e2,zbW D,zbW E,k1,i1])
  ·exact g.no (fun v q hc=>hh ⟨v,q,zdz (za1 bs ls (t+1)) hc⟩)

theorem zgC {bs bs':List BR} {ls:List LK} (hu:bs.map upsB=bs'.map upsB) (h:∀(u:Nat) (B B':BR),bs[u]?=some B→bs'[u]?=some B'→B'.ports=B.ports∧B'.id=B.id):∀k,zaE bs' ls k=zaE bs ls k
 | 0=>rfl
 | k+1=>by
  have hl:=ze5 hu;have e:∀b p:Int,zfD bs' b p=zfD bs b p:=fun b p=>by
   unfold zfD;cases hB:bs[b.toNat]? with
   | none =>
    rw [List.getElem?_eq_none_iff] at hB;rw [List.getElem?_eq_none_iff.2 (by omega)]
   | some B =>
    have hlt:=(List.getElem?_eq_some_iff.1 hB).1;have hB':=List.getElem?_eq_getElem (l:=bs') (i:=b.toNat) (by omega);rw [hB'];obtain ⟨e1,e2⟩:=h _ _ _ hB hB';dsimp only;rw [e1,e2]
  have ek:liveK bs' ls k=liveK bs ls k:=by
   unfold liveK;rw [zcb hu];cases ls[k]? with
   | none=>rfl
   | some x=>dsimp only; rw [e,e]
  rw [zaE,zaE,ek,zgC hu h k]

theorem zeT {a b:List BR × List LK × List SY} (h:NetOk a.1 a.2.1 a.2.2):∀{k:Nat},zbZ k a b→b.1=zat a.1 a.2.1 k∧b.2.1=a.2.1∧NetOk b.1 b.2.1 b.2.2∧(0 < k→b.2.2=[]):=by
 intro k
 induction k generalizing b with
 | zero =>
  intro hr;have e:b=a:=hr;subst e;exact ⟨rfl,rfl,h,fun hc=>by omega⟩
 | succ k ih =>
  rintro ⟨c,h1,h2⟩;obtain ⟨e1,e2,ok,-⟩:=ih h1;obtain ⟨f1,f2⟩:=h2.yes ok;have f3:=h2.l;refine ⟨by rw [f1,e1,e2]; rfl,f3.trans e2, ?_,fun _=>f2⟩;rw [f1,f2,f3];exact zcp ok

structure Settled (X Y:NV):Prop where
 ax:agreed X.brs X.ls=true
 ay:agreed Y.brs Y.ls=true
 sy:Y.ss=[]
 okx:NetOk X.brs X.ls X.ss
 len:Y.bs.length=X.bs.length
 ports:∀(u:Nat) (x y:BV),X.bs[u]?=some x→Y.bs[u]?=some y→y.B.ports=x.B.ports
 live:zaE Y.brs Y.ls Y.ls.length=zaE X.brs X.ls X.ls.length
 ls:Y.ls=X.ls

theorem ziE {N X Y:NV} (h:NetOk N.brs N.ls N.ss) (hx:zbZ 20 N.t X.t) (hy:zfH X Y):Settled X Y:=by
 obtain ⟨e1,e2,e3,-⟩:=zeT h hx;obtain ⟨f1,f2,f3,f4⟩:=zeT (b:=Y.t) h (k:=21) ⟨_,hx,hy.r⟩;have e1:X.brs=zat N.brs N.ls 20:=e1;have e2:X.ls=N.ls:=e2;have f1:Y.brs=zat N.brs N.ls 21:=f1;have f2:Y.ls=N.ls:=f2;have f4:Y.ss=[]:=f4 (by omega);have hp:∀(u:Nat) (B B':BR),X.brs[u]?=some B→Y.brs[u]?=some B'→B'.ports=B.ports∧B'.id=B.id:=fun u B B' hB hB'=>by
  rw [e1] at hB;rw [f1] at hB';exact zf4 (t:=19) h (by omega) hB hB'
 have hups:X.brs.map upsB=Y.brs.map upsB:=by rw [e1,f1,za1,za1]
 refine ⟨?_, ?_,f4,e3, ?_,fun u x y hx hy=>(hp u _ _ (zdr hx) (zdr hy)).1, ?_,f2.trans e2.symm⟩
 ·rw [e1,e2]; exact zdc (t:=19) h (by omega)
 ·rw [f1,f2]; exact zdc (t:=20) h (by omega)
 ·have:=ze5 hups
  rw [zcD,zcD] at this;exact this.symm
 ·rw [f2,e2];exact zgC hups hp _

theorem zi9 (s:Int):∀(n i:Nat),i < n→(idsTo s n)[i]?=some (1+(s+(i:Int)*3) % 7)
 | 0,i,h=>absurd h (Nat.not_lt_zero _)
 | n+1,i,h=>by
  rw [idsTo];by_cases e:i=n
  ·subst e;rw [List.getElem?_append_right (by rw [zbJ]; exact Nat.le_refl _),zbJ,Nat.sub_self]
   rfl
  ·rw [List.getElem?_append_left (by rw [zbJ]; omega)];exact zi9 s n i (by omega)

theorem zlv {s:Int} {pp:Nat} {i:Nat} (hp:1≤pp∧pp≤6):zn (1+(s+(i:Int)*3) % 7) (pp:Int)=zY (1+(s+(i:Int)*3) % 7) pp:=by
 unfold zn;rw [if_pos (by simp; omega),Int.toNat_natCast]

theorem zjW {s:Int} {nn pp:Nat} {ls:List LK} (hn:1≤nn∧nn≤6) (hp:1≤pp∧pp≤6) (h:zdf nn pp ls):NetOk (newBs (idsTo s nn) (pp:Int)) ls []:=by
 have hlen:(newBs (idsTo s nn) (pp:Int)).length=nn:=by unfold newBs; rw [List.length_map,zbJ]
 have hat:∀i:Nat,i < nn→(newBs (idsTo s nn) (pp:Int))[i]?=some (zY (1+(s+(i:Int)*3) % 7) pp):=fun i hi=>by rw [zcm (zi9 s nn i hi),zlv hp]
 have hport:∀b p:Int,0≤b∧b < (nn:Int)→0≤p∧p < (pp:Int)→zaa (newBs (idsTo s nn) (pp:Int)) b p=some newPt:=fun b p hb hq=>by
  unfold zaa;rw [if_pos ⟨hb.1,hq.1⟩,hat b.toNat (by omega)]
  show (List.replicate pp newPt)[p.toNat]?=some newPt
  rw [List.getElem?_replicate,if_pos (by omega)]
 refine ⟨⟨fun x hx => ?_,fun i j x y hij hx hy => ?_,by rw [hlen]; exact hn.1,by rw [hlen]; exact hn.2⟩,(zbx _ _).2 ⟨h.len,fun x hx => ?_,h.nd⟩,fun i B hB p x hx hh => ?_,by simp,by intro s hs; cases hs⟩
 ·obtain ⟨i,hi,rfl⟩:=List.mem_iff_getElem.1 hx;rw [hlen] at hi
  have:=hat i hi
  rw [List.getElem?_eq_getElem (by rw [hlen]; exact hi)] at this;rw [Option.some.inj this];exact zfW (by omega) hp
 ·have hj:j < nn:=by rw [← hlen]; exact (List.getElem?_eq_some_iff.1 hy).1
  rw [hat i (by omega)] at hx;rw [hat j hj] at hy;cases hx;cases hy
  show 1+(s+(i:Int)*3) % 7≠1+(s+(j:Int)*3) % 7
  omega
 ·obtain ⟨h1,h2,h3,h4,h5⟩:=h.at' x hx;exact ⟨h1,newPt,newPt,hport _ _ h2 h4,hport _ _ h3 h5,rfl⟩
 ·have hi:i < nn:=by rw [← hlen]; exact (List.getElem?_eq_some_iff.1 hB).1
  rw [hat i hi] at hB;cases hB;have hx:(List.replicate pp newPt)[p]?=some x:=hx;rw [List.getElem?_replicate] at hx
  split at hx
  ·cases hx;cases hh
  ·cases hx

def costB (B:BR) (p:Nat) (x:PT) (k:Int):BR:={ B with ports:=B.ports.set p { x with k:=k } }

theorem zhi {ls:List LK} {i:Nat} {B:BR} (h:zt B=true) {p:Nat} {x:PT} (hx:B.ports[p]?=some x) {k:Int} (hk:1≤k∧k≤1000):zd8 ls noU i B (costB B p x k):=by
 have hp:ptOk { x with k:=k }=true:=by
  have h1:=zhs h hx;unfold ptOk at *;simp only [Bool.and_eq_true] at h1 ⊢;exact ⟨by simp; omega,h1.2⟩
 refine ⟨rfl,zf0 h hp,by simp [costB],fun q x' hx' => ?_⟩;have hy':(B.ports.set p { x with k:=k })[q]?=some x':=hx';rw [List.getElem?_set] at hy'
 split at hy'
 ·next e =>
  subst e;have e2:({ x with k:=k }:PT)=x':=by simpa [(List.getElem?_eq_some_iff.1 hx).1] using hy'
  subst e2;exact ⟨x,hx,rfl,.inl⟩
 ·exact ⟨x',hy',rfl,.inl⟩

theorem zim {bs:List BR} {ls:List LK} {ss:List SY} (h:NetOk bs ls ss) {i p:Nat} {B:BR} {x:PT} (hB:bs[i]?=some B) (hx:B.ports[p]?=some x) {k:Int} (hk:1≤k∧k≤1000):NetOk (bs.set i (costB B p x k)) ls ss:=by
 have e:bs.set i (costB B p x k)=atSet bs i (fun B=>costB B p x k):=by unfold atSet; rw [hB]
 rw [e];refine zcW (U:=noU) (fun _ _=>rfl) h (zbf h.1.1 (fun _ _ _=>rfl) (fun D hD => ?_)) h.2.2.2;rw [hB] at hD;cases hD;exact zhi (h.1.1 B (List.mem_of_getElem? hB)) hx hk

theorem NOwn.cost {w:World} {base:Nat} {M:NV} (h:NOwn w base M) {i p:Nat} {y:BV} {x:PT} (hy:M.bs[i]?=some y) (hx:y.B.ports[p]?=some x) {g:Nat} (hg:y.a=some ⟨g,0,none⟩) (k:Int) :
  NOwn (w.setCell ⟨g,p*8+1,none⟩ (.int .i64 k)) base { M with bs:=M.bs.set i { y with B:=costB y.B p x k } }:=by
 have hO:=h.b.item y (List.mem_of_getElem? hy);have hports:w.ownsRow base 67 8 (.slice (some ⟨g,0,none⟩) y.n y.c) y.n (ptF.all y.B.ports):=by rw [← hg]; exact hO.ports
 obtain ⟨pre,post,e1,e2,e3⟩:=zdM (y:={ y with B:=costB y.B p x k }) hy;obtain ⟨pr,po,f1,f2,f3⟩:=zdM (y:={ x with k:=k }) hx;have hgs:w.grownBy (w.setCell ⟨g,p*8+1,none⟩ (.int .i64 k)) (some g):=zj _ _;have hgs2:w.grownBy (w.setCell ⟨g,p*8+1,none⟩ (.int .i64 k)) (Value.slice (some ⟨g,0,none⟩) y.n y.c).ownBlock:=hgs;have hNew:(w.setCell ⟨g,p*8+1,none⟩ (.int .i64 k)).ownsRow base 67 8 (.slice (some ⟨g,0,none⟩) y.n y.c) y.n (ptF.all (y.B.ports.set p { x with k:=k })):=by
  rw [← f3];rw [f1] at hports;rw [f2];exact zO (F:=ptF) hports 1 (.int .i64 k) (by decide) rfl
 have hrow:(w.setCell ⟨g,p*8+1,none⟩ (.int .i64 k)).ownsRow base 63 11 (.slice M.ba M.bn M.bc) M.bn (brF.all M.bs):=zA h.b.row hports (by decide) hgs2;have hall:brF.all (M.bs.set i { y with B:=costB y.B p x k })=brF.all M.bs:=by
  rw [← e3]
  conv=>rhs; rw [e1]
  rw [brF.all_append,brF.all_append,brF.all_cons,brF.all_cons]
  rfl
 refine ⟨?_,zA h.l hports (by decide) hgs2,zA h.s hports (by decide) hgs2⟩
 show BOs _ base M.ba M.bn M.bc (M.bs.set i { y with B:=costB y.B p x k })
 have hb:=h.b;rw [e1] at hb;have hit:({ y with B:=costB y.B p x k }:BV).Own (w.setCell ⟨g,p*8+1,none⟩ (.int .i64 k)) base:=by
  refine ⟨?_,zA hO.f hports (by decide) hgs2,⟨zA hO.v.rows hports (by decide) hgs2,zA hO.v.own hports (by decide) hgs2,hO.v.i64⟩⟩
  show (w.setCell ⟨g,p*8+1,none⟩ (.int .i64 k)).ownsRow base 67 8 (.slice y.a y.n y.c) y.n (ptF.all (y.B.ports.set p { x with k:=k }))
  rw [hg];exact hNew
 have hO3:Only [g] w (w.setCell ⟨g,p*8+1,none⟩ (.int .i64 k)):=Only.set w g _ _;rw [← e3] at hall ⊢;refine hb.turn (bs:=[g]) (fun z hz b hb1 hb2=>zdU hb.apart z hz b hb1 hb2) hO3 (fun b hb'=>.inl ?_) (by rw [hall]; exact hrow) hit;rw [List.mem_singleton] at hb';rw [hb'];exact zcl.2 (.inl (by rw [hg]; simp [blkL]))

structure NnSt (w wr:World) (X:Nat) (la:Option Addr) (ln lc:Nat) (l:List LK) (ba:Option Addr) (bn bc:Nat) (bs:List BV):Prop where
 box:wr.heap[X]?=some (.cells #[.slice ba bn bc,.slice la ln lc,.slice none 0 0] 31)
 res:wr.heap[w.heap.size]?=some (.cells #[.slice none 0 0,.slice none 0 0,.slice none 0 0] 31)
 b:BOs wr (w.heap.size+1) ba bn bc bs
 l:wr.ownsRow (w.heap.size+1) 44 4 (.slice la ln lc) ln (linkF.all l)
 below:Below w.heap.size w wr
 lt:w.heap.size < X

theorem NnSt.later {w wr:World} {X:Nat} {la:Option Addr} {ln lc:Nat} {l:List LK} {ba:Option Addr} {bn bc:Nat} {bs:List BV} (h:NnSt w wr X la ln lc l ba bn bc bs) {w':World} (hb:Below wr.heap.size wr w'):NnSt w w' X la ln lc l ba bn bc bs :=
 ⟨za h.box hb,za h.res hb,h.b.below hb,zh h.l hb,zc h.below hb,h.lt⟩

theorem NnSt.size {w wr:World} {X:Nat} {la:Option Addr} {ln lc:Nat} {l:List LK} {ba:Option Addr} {bn bc:Nat} {bs:List BV} (h:NnSt w wr X la ln lc l ba bn bc bs):w.heap.size+1≤wr.heap.size:=zaU h.res

theorem NnSt.rows {w wr:World} {X:Nat} {la:Option Addr} {ln lc:Nat} {l:List LK} {ba:Option Addr} {bn bc:Nat} {bs:List BV} (h:NnSt w wr X la ln lc l ba bn bc bs) {w':World} (hg:wr.grownBy w' (Value.slice ba bn bc).ownBlock):w'.heap[X]?=some (.cells #[.slice ba bn bc,.slice la ln lc,.slice none 0 0] 31)∧w'.heap[w.heap.size]?=some (.cells #[.slice none 0 0,.slice none 0 0,.slice none 0 0] 31)∧w'.ownsRow (w.heap.size+1) 44 4 (.slice la ln lc) ln (linkF.all l)∧Below w.heap.size w w' :=
 ⟨ze h.box hg (fun k hk=>zx h.b.row h.box (by decide) k hk),ze h.res hg (fun k hk=>zx h.b.row h.res (by decide) k hk),zA h.l h.b.row (by decide) hg,h.below.grown hg h.below.size (by intro k hk; have:=(h.b.row.lt k hk).1; omega)⟩

theorem NnSt.push {w wr:World} {X:Nat} {la:Option Addr} {ln lc:Nat} {l:List LK} {ba:Option Addr} {bn bc:Nat} {bs:List BV} (h:NnSt w wr X la ln lc l ba bn bc bs) {w1 w2:World} (hb:Below wr.heap.size wr w1) {y:BV} (hy:y.Own w1 wr.heap.size) (hg:w1.grownBy w2 (Value.slice ba bn bc).ownBlock) {ao':Option Addr} {cap':Nat} (hr:w2.ownsRow (w.heap.size+1) 63 11 (.slice ao' (bn+1) cap') (bn+1) (brF.all (bs++[y]))) :
  w2.heap[X]?=some (.cells #[.slice ba bn bc,.slice la ln lc,.slice none 0 0] 31)∧Below w.heap.size w w2∧NnSt w (w2.setCell ⟨X,0,none⟩ (.slice ao' (bn+1) cap')) X la ln lc l ao' (bn+1) cap' (bs++[y]):=by
 have hp:=h.b.push hb hy h.size hg hr;obtain ⟨h1,h2,h3,h4⟩:=(h.later hb).rows hg;have hgx:w2.grownBy (w2.setCell ⟨X,0,none⟩ (.slice ao' (bn+1) cap')) (some X):=zj 0 _;have hlt:=h.lt;refine ⟨h1,h4, ?_,ze h2 hgx (by intro k e; cases e; omega),hp.boxed h1 hgx,zr h3 hgx (zx h3 h1 (by decide)),h4.grown hgx h4.size (by intro k e; cases e; omega),hlt⟩
 have:=zC (j:=0) h1 (.slice ao' (bn+1) cap')
 simpa using this

theorem NnSt.put {w wr:World} {X:Nat} {la:Option Addr} {ln lc:Nat} {l:List LK} {g bn bc:Nat} {pre post:List BV} {x y:BV} (h:NnSt w wr X la ln lc l (some ⟨g,0,none⟩) bn bc (pre++x::post)) {w1 w2:World} (hb:Below wr.heap.size wr w1) (hy:y.Own w1 wr.heap.size) (hg:w1.grownBy w2 (some g)) (hr:w2.ownsRow (w.heap.size+1) 63 11 (.slice (some ⟨g,0,none⟩) bn bc) bn (brF.all (pre++y::post))) :
  NnSt w w2 X la ln lc l (some ⟨g,0,none⟩) bn bc (pre++y::post):=by
 have hp:=h.b.put hb hy h.size hg hr;obtain ⟨h1,h2,h3,h4⟩:=(h.later hb).rows (w':=w2) hg;exact ⟨h1,h2,hp,h3,h4,h.lt⟩

theorem NnSt.out {w wr:World} {X:Nat} {la:Option Addr} {ln lc:Nat} {l:List LK} {ba:Option Addr} {bn bc:Nat} {bs:List BV} (h:NnSt w wr X la ln lc l ba bn bc bs):zbi (((wr.setCell ⟨w.heap.size,0,none⟩ (.slice ba bn bc)).setCell ⟨w.heap.size,1,none⟩ (.slice la ln lc)).setCell ⟨w.heap.size,2,none⟩ (.slice none 0 0)) w.heap.size ⟨ba,bn,bc,bs,la,ln,lc,l,none,0,0,[]⟩∧Below w.heap.size w (((wr.setCell ⟨w.heap.size,0,none⟩ (.slice ba bn bc)).setCell ⟨w.heap.size,1,none⟩ (.slice la ln lc)).setCell ⟨w.heap.size,2,none⟩ (.slice none 0 0)) :=
 ⟨((zbi.apart (M:=⟨ba,bn,bc,bs,la,ln,lc,l,none,0,0,[]⟩) ⟨h.b,h.l,rfl,rfl,rfl,rfl⟩ (zK (zK (zj 0 _) (zj 1 _)) (zj 2 _)) (by omega)).lt (by omega)),zq (zq (zq h.below (Nat.le_refl _) 0 _) (Nat.le_refl _) 1 _) (Nat.le_refl _) 2 _⟩

structure NewIs (ids:List Int) (ports:Int) (l:List LK) (M:NV):Prop where
 yes:NetOk (newBs ids ports) l []→M.bs.map BV.B=upBs ids ports∧M.ls=l
 no:¬NetOk (newBs ids ports) l []→M.bs=[]∧M.ls=[]
def ziK (ids:List Int) (ports:Int) (l:List LK) (w:World) (e:Ending) (w':World):Prop:=∃M:NV,e=.returned (.agg #[.slice M.ba M.bn M.bc,.slice M.la M.ln M.lc,.slice M.sa M.sn M.sc])∧zbi w' w.heap.size M∧NewIs ids ports l M∧Below w.heap.size w w'

theorem zkf {ids:List Int} {ports:Int} {l:List LK} {w w':World} (h:¬NetOk (newBs ids ports) l []) (hb:Below w.heap.size w w'):ziK ids ports l w (.returned (.agg #[.slice none 0 0,.slice none 0 0,.slice none 0 0])) w' :=
 ⟨⟨none,0,0,[],none,0,0,[],none,0,0,[]⟩,rfl,⟨zaR _ _,World.ownsRow_nil _ _ _ _,rfl,rfl,rfl,rfl⟩,⟨fun k=>absurd k h,fun _=>⟨rfl,rfl⟩⟩,hb⟩

end Go.Proofs.YtkoekkjfcaiagaaGreat
