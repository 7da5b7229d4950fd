/-
  Packed: StepRoundI StepFit SetDone TreeNet TreeLive TreeJoin TreeCount TreeLoop.
-/
import Derived.Test.YtkaefmfopejbaaaGreatPAK29
import Derived.Test.YtkaefmfopejbaaaGreatPAK34
namespace Go.Proofs.YtkaefmfopejbaaaGreat
set_option maxRecDepth 100000
set_option maxHeartbeats 16000000
open Go.RowKit

theorem zkR (B:BR) (p:Int) (v:VD) (h:B.Rg):(hearB B p v).Rg:=by
 have hs:(hearB B p v).f.Sublist B.f:=by
  unfold hearB
  split
  ·split
   ·split
    ·exact zbU _ _ _
    ·exact List.Sublist.refl _
   ·exact List.Sublist.refl _
  ·exact List.Sublist.refl _
 exact ⟨fun x hx=>h.1 x (hs.subset hx),by rw [(zhu B p v).2.2]; exact h.2⟩

theorem NV.rgs {N:NV} (h:∀B∈N.brs,B.Rg):∀y∈N.bs,y.B.Rg:=fun y hy=>h y.B (by unfold NV.brs; exact List.mem_map_of_mem hy)

theorem zf1 (N:NV) (w:World) (h:zaa w N) (hn:N.bn≤1048576) (hl:N.ln≤1048576) (hs:N.sn≤1048576) (hm:∀x∈N.bs,x.Small20) (hR:∀B∈N.brs,B.Rg) :
  Calls Tryz.prog 24 #[.agg #[.slice N.ba N.bn N.bc,.slice N.la N.ln N.lc,.slice N.sa N.sn N.sc]] w fun e w'=>∃M:NV,e=.returned (.agg #[.slice M.ba M.bn M.bc,.slice M.la M.ln M.lc,.slice M.sa M.sn M.sc])∧NOwn w' w.heap.size M∧zia N M∧Below w.heap.size w w':=by
 have hll:N.ls.length=N.ln:=h.l.size;have hle:=Nat.le_trans h.l.le h.l.top;unfold maxLen at hle;generalize hw1:w.alloc (Obj.cells #[.slice N.ba N.bn N.bc,.slice N.la N.ln N.lc,.slice N.sa N.sn N.sc] 28)=w1;generalize hw2:w1.alloc (Obj.cells #[.slice none 0 0,.slice none 0 0,.slice none 0 0] 28)=w2;have b01:=zb hw1;have b12:=zb hw2;have b02:=zc b01 b12;have kP:=za (zk hw1) b12;have kJ:=zk hw2;have HZR:Hid (w1.heap.size=w.heap.size+1):=hide (by rw [← hw1]; simp);have HZ:Hid (w2.heap.size=w.heap.size+2):=hide (by rw [← hw2,← hw1]; simp);obtain ⟨x0,x1,x2⟩:=zd kP;go_enter Tryz.func24,Tryz.ntmps24;go_wp2_with fail
 refine (zdz N _ (h.below b02) (by omega) (by omega) (by omega) (zfK hm)).mono ?_;rintro e w3 ⟨X,base,M,rfl,st,sM,hbs,hb3⟩;have kP:=za kP hb3;have kJ:=za kJ hb3;have b03:=zc b02 hb3;have HBS:Hid (w.heap.size+2≤base):=hide (by have:=HZ.out; omega);generalize hRR:w1.heap.size=R at *;clear x0 x1 x2 hb3 b02 b12 b01 hbs;obtain ⟨x0,x1,x2⟩:=zd kP;go_wp2_with fail
 refine (zgS N _ (h.below b03) (fun x hx=>by have:=(hm x hx).2.1; omega) (fun x hx=>(hR x.B (by unfold NV.brs; exact List.mem_map_of_mem hx)).2)).mono ?_;rintro e w5 ⟨q,rfl,hq,hb5⟩;have st:=st.later hb5;have kP:=za kP hb5;have kJ:=za kJ hb5;have b05:=zc b03 hb5;clear x0 x1 x2 b03 hb5 hw1 hw2;have HSM:=hide sM;have HXL:=hide st.le;have HJB:Hid (w.heap.size < base∧R < base∧w.heap.size≤R):=hide (by have:=HBS.out; have:=HZR.out; omega);cases q
 ·have HNO:Hid (¬NetOk N.brs N.ls N.ss):=hide (fun hc=>by have:=hq.2 hc; cases this);clear hq;obtain ⟨x0,x1,x2⟩:=zd st.box;obtain ⟨r0,r1,r2⟩:=zd kJ;have f0:=zf kJ 0;have f1:=zf kJ 1;have f2:=zf kJ 2;have ne1:¬R=X:=by have:=HXL.out; have:=HJB.out; omega
  have ne2:¬X=R:=by have:=HXL.out; have:=HJB.out; omega
  have HO:=hide ((st.own.out kJ).lt (base':=w.heap.size) (by have:=HBS.out; omega));have HB:=hide (zak b05 (R:=R) HJB.out.2.2 (.slice M.ba M.bn M.bc) (.slice M.la M.ln M.lc) (.slice M.sa M.sn M.sc));clear st kP kJ b05;go_wp2;exact bodyPost_ret (v:=.agg #[.slice M.ba M.bn M.bc,.slice M.la M.ln M.lc,.slice M.sa M.sn M.sc]) (by simp [results,Tryz.results24,go_sem, *]) rfl ⟨M,rfl,HO.out,⟨HSM.out.l,fun hc=>absurd hc HNO.out,fun _=>⟨HSM.out.b,HSM.out.s⟩⟩,HB.out⟩
 ·have hOK:NetOk N.brs N.ls N.ss:=hq.1 rfl;clear hq;have HOK:=hide hOK;clear hOK;have HSMB:Hid (∀B∈N.brs,B.Sm∧B.Rg):=hide (fun B hB=>⟨zlh h hm B hB,hR B hB⟩);have HBL:Hid (w.heap.size≤base):=hide (by have:=HBS.out; omega);have HHR:Hid (∀(B:BR) (p:Int) (v:VD),B.Sm∧B.Rg→(hearB B p v).Sm∧(hearB B p v).Rg):=hide (fun B p v hB=>⟨zmX (zhu B p v) hB.1,zkR B p v hB.2⟩);obtain ⟨x0,x1,x2⟩:=zd kP;(go_wp2_with fail);clear HZ HZR x0 x1 x2 hRR
  go_loopw [4,17] (fun u i wr=>∃(k:Nat) (M:NV),k≤N.ln∧i=.int .i64 k∧NiSt wr base X M∧wr.heap[w.heap.size]? = some (.cells #[.slice N.ba N.bn N.bc,.slice N.la N.ln N.lc,.slice N.sa N.sn N.sc] 28)∧wr.heap[R]? = some (.cells #[.slice none 0 0,.slice none 0 0,.slice none 0 0] 28)∧Below w.heap.size w wr∧(M.ls=N.ls∧M.brs=za7 N.brs N.ls k)) (fun _ i _=>N.ln - (intOf i).toNat)
  case atStart=>exact ⟨0,M,Nat.zero_le _,rfl,st,kP,kJ,b05,HSM.out.l,HSM.out.b⟩
  case round =>
   clear st kP kJ b05 sM HSM;obtain ⟨k,M2,hk,rfl,st,kP,kJ,hB,hM⟩:=hrel;have HM:=hide hM;clear hM;obtain ⟨x0,x1,x2⟩:=zd kP;by_cases hlt:k < N.ln
   ·obtain ⟨x,hx⟩:∃x,N.ls[k]? = some x:=⟨_,List.getElem?_eq_getElem (by omega)⟩;obtain ⟨hnab,u1,v1,hpa,hpb,-⟩:=(HOK.out.2.1.2 x (List.mem_of_getElem? hx)).1;have hpa:zad (N.bs.map BV.B) x.a x.p=some u1:=hpa;have hpb:zad (N.bs.map BV.B) x.b x.q=some v1:=hpb;obtain ⟨i,y,hi,hy⟩:=za8 hpa;obtain ⟨j,z,hj,hz⟩:=za8 hpb;have hml:M2.bs.length=N.bs.length:=by
     have e1:=congrArg List.length HM.out.2;have e2:=ziY (zb2 N.brs N.ls k);unfold NV.brs at e1 e2;simp only [List.length_map] at e1 e2;omega
    obtain ⟨y1,hy1⟩:=zh4 hy hml;have hall:∀B∈M2.brs,B.Sm∧B.Rg:=by rw [HM.out.2]; exact zc8 N.ls HSMB.out HHR.out k
    have HS1:=hide (zci st.own.row (fun B hB=>(hall B hB).1) y1 (List.mem_of_getElem? hy1));have HR1:=hide ((NV.rgs (fun B hB=>(hall B hB).2)) y1 (List.mem_of_getElem? hy1));have HUP:Hid (zT M2.brs M2.ls (k:Int)=zT N.brs N.ls (k:Int)):=hide (by rw [HM.out.1]; exact zex (by rw [HM.out.2]; exact zb2 _ _ _) _ _);have HX:=hide hx;have HY:=hide hy;have HZz:=hide hz;have HI:=hide hi;have HJ:=hide hj;have HY1:=hide hy1;have HX2:Hid (M2.ls[k]? = some x):=hide (by rw [HM.out.1]; exact hx);have HML:=hide hml;have HWB:Hid (Way x true (j:Int) x.q (i:Int) x.p):=hide ⟨fun _=>⟨hj.symm,rfl,hi.symm,rfl⟩,(fun e=>by cases e)⟩;have HWF:Hid (Way x false (i:Int) x.p (j:Int) x.q):=hide ⟨(fun e=>by cases e),fun _=>⟨hi.symm,rfl,hj.symm,rfl⟩⟩;have i0:(k:Int) < (N.ln:Int):=by omega
    clear hx hy hz hi hj hy1 hml hpa hpb hnab hall;(go_wp2_with fail);refine (zei N k j x z true x.q (i:Int) x.p _ (h.below hB) HX.out HZz.out HWB.out).mono ?_;rintro e w9 ⟨rfl,b9⟩;have st:=st.later b9;have hB:=zc hB b9;have kP:=za kP b9;have kJ:=za kJ b9;clear x0 x1 x2 b9;obtain ⟨x0,x1,x2⟩:=zd kP;cases hU:zT N.brs N.ls (k:Int)
    ·have HS:Hid (M2.brs=za7 N.brs N.ls (k+1)):=hide (by rw [HM.out.2]; exact (zkb hU).symm);have HU:=hide (HUP.out.trans hU);clear hU;(go_wp2_with fail);refine (zgi M2 base X k true (sayV z.B.id z.B.ports x.q) _ st HU.out).mono ?_;rintro e w10 ⟨rfl,st2,b10⟩;have hB:=hB.trans (b10.mono HBL.out);have kP:=zR kP b10 HJB.out.1;have kJ:=zR kJ b10 HJB.out.2.1;clear x0 x1 x2 b10 st;obtain ⟨x0,x1,x2⟩:=zd kP;(go_wp2_with fail);refine (zei N k i x y false x.p (j:Int) x.q _ (h.below hB) HX.out HY.out HWF.out).mono ?_;rintro e w11 ⟨rfl,b11⟩;have st2:=st2.later b11;have hB:=zc hB b11;have kP:=za kP b11;have kJ:=za kJ b11;clear x0 x1 x2 b11;obtain ⟨x0,x1,x2⟩:=zd kP;(go_wp2_with fail);refine (zgi M2 base X k false (sayV y.B.id y.B.ports x.p) _ st2 HU.out).mono ?_;rintro e w12 ⟨rfl,st3,b12⟩;have HKP:=hide (zR kP b12 HJB.out.1);have HKJ:=hide (zR kJ b12 HJB.out.2.1);have HBN:=hide (hB.trans (b12.mono HBL.out));have HST:=hide st3;clear st2 st3 kP kJ hB x0 x1 x2 b12;go_wp2
     go_roundw
     case rel=>exact ⟨k+1,M2,by omega,by go_num,HST.out,HKP.out,HKJ.out,HBN.out,HM.out.1,HS.out⟩
     case measure=>simp [intOf]; omega
    ·have HU:=hide hU;have HU2:=hide (HUP.out.trans hU);clear hU;(go_wp2_with fail);refine (zfg M2 base X k i true (sayV z.B.id z.B.ports x.q) x y1 (j:Int) x.q x.p _ st HU2.out HX2.out HWB.out HY1.out HS1.out HR1.out).mono ?_;rintro e w10 ⟨rfl,y2,hy2,st2,b10⟩;have hB:=hB.trans (b10.mono HBL.out);have kP:=zR kP b10 HJB.out.1;have kJ:=zR kJ b10 HJB.out.2.1;have HQ1:Hid ((M2.bs.set i y2).map BV.B=atSet (za7 N.brs N.ls k) x.a.toNat (fun B=>hearB B x.p (sayAt N.brs x.b x.q))):=hide (by
      have e1:sayAt N.brs x.b x.q=sayV z.B.id z.B.ports x.q:=by rw [HJ.out]; exact zej HZz.out x.q
      rw [e1,HI.out,← HM.out.2];exact zcJ (f:=fun B=>hearB B x.p (sayV z.B.id z.B.ports x.q)) HY1.out hy2)
     have HUQ:Hid (zT ((M2.bs.set i y2).map BV.B) M2.ls (k:Int)=true):=hide (by
      rw [← HU2.out];refine zex ?_ _ _;rw [HQ1.out,← HM.out.2];exact zfa upsB (fun B=>zgM B _ _))
     clear x0 x1 x2 b10 hy2 st;obtain ⟨z1,hz1⟩:=zh4 HZz.out (bs2:=M2.bs.set i y2) (by rw [List.length_set]; exact HML.out);have HZ1:=hide hz1;have hall:∀B∈(M2.bs.set i y2).map BV.B,B.Sm∧B.Rg:=by
      rw [HQ1.out];exact ze9 (zc8 N.ls HSMB.out HHR.out k) (fun B=>HHR.out B _ _)
     have HS2:=hide (zci st2.own.row (fun B hB=>(hall B hB).1) z1 (List.mem_of_getElem? hz1));have HR2:=hide ((hall z1.B (List.mem_map_of_mem (List.mem_of_getElem? hz1))).2);clear hz1 hall;obtain ⟨x0,x1,x2⟩:=zd kP;(go_wp2_with fail);refine (zei N k i x y false x.p (j:Int) x.q _ (h.below hB) HX.out HY.out HWF.out).mono ?_;rintro e w11 ⟨rfl,b11⟩;have st2:=st2.later b11;have hB:=zc hB b11;have kP:=za kP b11;have kJ:=za kJ b11;clear x0 x1 x2 b11;obtain ⟨x0,x1,x2⟩:=zd kP;(go_wp2_with fail);refine (zfg _ base X k j false (sayV y.B.id y.B.ports x.p) x z1 (i:Int) x.p x.q _ st2 HUQ.out HX2.out HWF.out HZ1.out HS2.out HR2.out).mono ?_;rintro e w12 ⟨rfl,z2,hz2,st3,b12⟩;have HQ2:Hid (((M2.bs.set i y2).set j z2).map BV.B=za7 N.brs N.ls (k+1)):=hide (by
      have e1:sayAt N.brs x.a x.p=sayV y.B.id y.B.ports x.p:=by rw [HI.out]; exact zej HY.out x.p
      show _=zbf N.brs N.ls (za7 N.brs N.ls k) k
      rw [zkc HX.out HU.out,← HQ1.out,e1,HJ.out];exact zcJ (f:=fun B=>hearB B x.q (sayV y.B.id y.B.ports x.p)) HZ1.out hz2)
     have HKP:=hide (zR kP b12 HJB.out.1);have HKJ:=hide (zR kJ b12 HJB.out.2.1);have HBN:=hide (hB.trans (b12.mono HBL.out));have HST:=hide st3;clear st2 st3 kP kJ hB x0 x1 x2 b12 hz2;go_wp2
     go_roundw
     case rel=>exact ⟨k+1,_,by omega,by go_num,HST.out,HKP.out,HKJ.out,HBN.out,HM.out.1,HQ2.out⟩
     case measure=>simp [intOf]; omega
   ·have hkn:k=N.ln:=by omega
    obtain ⟨kX,st2,hb2⟩:=st.saidNew (Below.refl _ _) (ao:=none) (n:=0) (cap:=0) (ss:=[]) (World.ownsRow_nil wr base 99 7);obtain ⟨y0,y1,y2⟩:=zd kX;have fx:=zf kX 2;have kJ2:=zR kJ hb2 HJB.out.2.1;have hB:=hB.trans (hb2.mono HBL.out);have HE:Hid (M2.brs=za7 N.brs N.ls N.ls.length):=hide (by rw [HM.out.2,hkn,hll]);(go_upto_region 11 with fail);generalize hw7:wr.setCell ⟨X,2,none⟩ (.slice none 0 0)=w7 at *;clear y0 y1 y2 fx kX st kJ hb2 x0 x1 x2 kP;obtain ⟨y0,y1,y2⟩:=zd st2.box;obtain ⟨r0,r1,r2⟩:=zd kJ2;have f0:=zf kJ2 0;have f1:=zf kJ2 1;have f2:=zf kJ2 2;have ne1:¬R=X:=by have:=HXL.out; have:=HJB.out; omega
    have ne2:¬X=R:=by have:=HXL.out; have:=HJB.out; omega
    have HO:=hide ((st2.own.out kJ2).lt (base':=w.heap.size) HBL.out);have HB:=hide (zak hB (R:=R) HJB.out.2.2 (.slice M2.ba M2.bn M2.bc) (.slice M2.la M2.ln M2.lc) (.slice none 0 0));dsimp only at y0 y1 y2 HO;clear st2 kJ2 hB;go_wp2;exact bodyPost_ret (v:=.agg #[.slice M2.ba M2.bn M2.bc,.slice M2.la M2.ln M2.lc,.slice none 0 0]) (by simp [results,Tryz.results24,go_sem, *]) rfl ⟨_,rfl,HO.out,⟨HM.out.1,fun _=>⟨HE.out,rfl⟩,fun hc=>absurd HOK.out hc⟩,HB.out⟩

def NV.t (N:NV):List BR × List LK × List SY:=(N.brs,N.ls,N.ss)

theorem znM {N M:NV} (h:M.Same N):M.t=N.t:=by
 have e:M.brs=N.brs:=h.b;unfold NV.t;rw [e,h.l,h.s]
theorem znN {N M:NV} (h:M.t=N.t):M.Same N:=by
 unfold NV.t at h;simp only [Prod.mk.injEq] at h;exact ⟨h.1,h.2.1,h.2.2⟩

structure zi3 (a b:List BR × List LK × List SY):Prop where
 l:b.2.1=a.2.1
 yes:NetOk a.1 a.2.1 a.2.2→b.1=za7 a.1 a.2.1 a.2.1.length∧b.2.2=[]
 no:¬NetOk a.1 a.2.1 a.2.2→b.1=a.1∧b.2.2=a.2.2

theorem zia.r {N M:NV} (h:zia N M):zi3 N.t M.t:=⟨h.l,h.yes,h.no⟩

def zbT:Nat→List BR × List LK × List SY→List BR × List LK × List SY→Prop
 | 0,a,b=>b=a
 | k+1,a,b=>∃c,zbT k a c∧zi3 c b

def FitT (a:List BR × List LK × List SY):Prop:=(∀B∈a.1,zu B=true)∧a.1.length≤6∧a.2.1.length≤9∧a.2.2.length≤40

theorem zka {a b:List BR × List LK × List SY} (h:zi3 a b):b=a∨FitT b:=by
 by_cases ho:NetOk a.1 a.2.1 a.2.2
 ·obtain ⟨e1,e2⟩:=h.yes ho;refine .inr ⟨?_, ?_, ?_, ?_⟩
  ·rw [e1]; exact zc8 a.2.1 ho.1.1 (fun B p v hB=>zjh hB p v) _
  ·rw [e1,ziY (zb2 _ _ _)]; exact ho.1.2.2.2
  ·rw [h.l]; exact ho.2.1.1
  ·rw [e2]; simp
 ·obtain ⟨e1,e2⟩:=h.no ho;refine .inl ?_;obtain ⟨b1,b2,b3⟩:=b;obtain ⟨a1,a2,a3⟩:=a;have e3:=h.l;dsimp only at *;rw [e1,e2,e3]

theorem zfE:∀(k:Nat) {a b:List BR × List LK × List SY},zbT k a b→b=a∨FitT b
 | 0,_,_,h=>.inl h
 | n+1,_,_,⟨c,h1,h2⟩=>by
  rcases zka h2 with e | e
  ·subst e; exact zfE n h1
  ·exact .inr e

theorem zlf {a b:List BR × List LK × List SY} (h:zi3 a b) (hr:∀B∈a.1,B.Rg):∀B∈b.1,B.Rg:=by
 by_cases ho:NetOk a.1 a.2.1 a.2.2
 ·rw [(h.yes ho).1]; exact zc8 a.2.1 hr (fun B p v hB=>zkR B p v hB) _
 ·rw [(h.no ho).1]; exact hr

theorem zgz:∀(k:Nat) {a b:List BR × List LK × List SY},zbT k a b→(∀B∈a.1,B.Rg)→∀B∈b.1,B.Rg
 | 0,_,_,h,hr=>by rw [show _=_ from h]; exact hr
 | n+1,_,_,⟨c,h1,h2⟩,hr=>zlf h2 (zgz n h1 hr)

theorem zm5 {w:World} {x:BV} (h:x.Reads w) (hb:zu x.B=true):x.Tiny:=by
 obtain ⟨h1,h2,h3,h4,h5,h6,-⟩:=zU hb;have q1:=h.ports.size;have q2:=h.f.size;have q3:=h.v.rows.size;have q4:=h.v.own.size;have p4:(x.B.ports.length:Int)≤6:=by unfold in3 at h4; simp at h4; omega
 have p5:x.B.f.length≤12:=((zcp _).1 h5).2;have p6:x.B.v.rows.length≤6∧x.B.v.own.length≤6:=by
  unfold zau at h6;simp only [Bool.and_eq_true,decide_eq_true_eq,beq_iff_eq] at h6;exact ⟨h6.1.1.1.2,by have:=h6.1.1.1.1.2; omega⟩
 exact ⟨by omega,by omega,by omega,by omega⟩

structure NV.Sized (N:NV):Prop where
 n:N.bn≤1048576
 l:N.ln≤1048576
 s:N.sn≤1048576
 m:∀x∈N.bs,x.Small20

theorem zmr {w w0:World} {N M:NV} (h:zaa w M) (h0:zaa w0 N) (hf:M.t=N.t∨FitT M.t) (hs:N.Sized):M.Sized:=by
 have q1:=h.b.size;have q2:=h.l.size;have q3:=h.s.size;rcases hf with e | ⟨f1,f2,f3,f4⟩
 ·have e':=znN e;have r1:=h0.b.size;have r2:=h0.l.size;have r3:=h0.s.size;have e1:=congrArg List.length e'.b;rw [List.length_map,List.length_map] at e1;rw [e'.l] at q2;rw [e'.s] at q3;have z1:=hs.n;have z2:=hs.l;have z3:=hs.s;refine ⟨by omega,by omega,by omega,zci h ?_⟩;rw [show M.brs=N.brs from e'.b];exact zlh h0 hs.m
 ·have f2':M.bs.length≤6:=by have:(M.bs.map BV.B).length≤6:=f2; simpa using this
  have f3':M.ls.length≤9:=f3;have f4':M.ss.length≤40:=f4;refine ⟨by omega,by omega,by omega,fun x hx => ?_⟩;obtain ⟨t1,t2,t3,t4⟩:=zm5 (h.item x hx) (f1 x.B (List.mem_map_of_mem hx));exact ⟨by omega,by omega,by omega,by omega⟩

theorem zm9 {x y:PT} (h1:x.up=y.up) (h2:x.k=y.k) (h3:x.has=y.has) (h4:x.v=y.v):x=y:=by
 obtain ⟨a,b,c,d⟩:=x;obtain ⟨a',b',c',d'⟩:=y
 simp only at h1 h2 h3 h4
 subst h1 h2 h3 h4
 rfl

theorem zfF {a b:List BR × List LK × List SY} (h:NetOk a.1 a.2.1 a.2.2):∀{k:Nat},zbT k a b→b.1=za2 a.1 a.2.1 k∧b.2.1=a.2.1∧NetOk b.1 b.2.1 b.2.2∧(0 < k→b.2.2=[]):=by
 intro k
 induction k generalizing b with
 | zero =>
  intro hr;have e:b=a:=hr;subst e;exact ⟨rfl,rfl,h,fun hc=>by omega⟩
 | succ k ih =>
  rintro ⟨c,h1,h2⟩;obtain ⟨e1,e2,ok,-⟩:=ih h1;obtain ⟨f1,f2⟩:=h2.yes ok;have f3:=h2.l;refine ⟨by rw [f1,e1,e2]; rfl,f3.trans e2, ?_,fun _=>f2⟩;rw [f1,f2,f3];exact zdP ok

theorem zhv {y:PT} {v:VD} (h:zaO y v=true):y.has=true∧y.v=v:=by
 unfold zaO at h;simp only [Bool.and_eq_true,beq_iff_eq] at h;obtain ⟨h0,h1,h2,h3,h4,h5⟩:=h;refine ⟨h0, ?_⟩;obtain ⟨a,b,c,⟨d,e,f,g,i⟩⟩:=y;obtain ⟨d',e',f',g',i'⟩:=v
 simp only at h1 h2 h3 h4 h5
 subst h1 h2 h3 h4 h5
 rfl

theorem zgm {bs:List BR} {ls:List LK} {K u p v q:Nat} (h:Hears bs ls K u p v q):Hears bs ls K v q u p:=by
 obtain ⟨κ,x,h1,h2,h3,h4⟩:=h;exact ⟨κ,x,h1,h2,h3,h4.symm⟩

theorem zcX {bs:List BR} {ls:List LK} (ha:agreed bs ls=true) {u p v q:Nat} (hh:Hears bs ls ls.length u p v q) {A:BR} {y:PT} (hA:bs[u]? = some A) (hy:A.ports[p]? = some y):∃D,bs[v]? = some D∧y.has=true∧y.v=sayV D.id D.ports (q:Int):=by
 obtain ⟨κ,x,hκ,hx,hup,hc⟩:=hh;have hk:agrK bs ls κ=true:=by
  unfold agreed at ha;rw [List.all_eq_true] at ha;exact ha κ (List.mem_range.2 hκ)
 unfold agrK at hk;rw [hx] at hk;dsimp only at hk;rw [hup] at hk;obtain ⟨i,ip,j,jq,A',D',pA,pD,rfl,hA',hD',hpA,hpD⟩:=zbx hx hup;rw [zgG hA' hD' hpA hpD] at hk;simp only [Bool.not_true,Bool.false_or,Bool.and_eq_true] at hk;rcases hc with hc | hc
 ·simp only [LK.mk.injEq] at hc;obtain ⟨e1,e2,e3,e4⟩:=hc;have e1:i=u:=by omega
  have e2:ip=p:=by omega
  have e3:j=v:=by omega
  have e4:jq=q:=by omega
  subst e1 e2 e3 e4;rw [hA] at hA';cases hA';rw [hy] at hpA;cases hpA;exact ⟨D',hD',zhv hk.2⟩
 ·simp only [LK.mk.injEq] at hc;obtain ⟨e1,e2,e3,e4⟩:=hc;have e1:i=v:=by omega
  have e2:ip=q:=by omega
  have e3:j=u:=by omega
  have e4:jq=p:=by omega
  subst e1 e2 e3 e4;rw [hA] at hD';cases hD';rw [hy] at hpD;cases hpD;exact ⟨A',hA',zhv hk.1⟩

theorem zcv {bs:List BR} {ls:List LK} {ss:List SY} (h:NetOk bs ls ss) (ha:agreed bs ls=true):∀(t u:Nat) (B:BR),bs[u]? = some B→∃B',(za2 bs ls t)[u]? = some B'∧B'.id=B.id∧B'.ports=B.ports
 | 0,u,B,hB=>⟨B,hB,rfl,rfl⟩
 | t+1,u,B,hB=>by
  obtain ⟨B1,hB1,i1,p1⟩:=zcv h ha t u B hB;obtain ⟨ss',h'⟩:=zcI h t;obtain ⟨B2,hB2,r⟩:=(zhX h' ls.length (Nat.le_refl _)).at' u B1 hB1;refine ⟨B2,hB2,r.id.trans i1,List.ext_getElem? fun p => ?_⟩;cases hp:B.ports[p]? with
  | none =>
   rw [List.getElem?_eq_none_iff] at hp ⊢;rw [r.len,p1];exact hp
  | some y =>
   obtain ⟨y',hy',g⟩:=r.port p y (by rw [p1]; exact hp);rw [hy']
   congr 1
   by_cases hh:∃v q,Hears (za2 bs ls t) ls ls.length u p v q
   ·obtain ⟨v,q,hh⟩:=hh;obtain ⟨g1,g2⟩:=g.yes v q hh;obtain ⟨D,hD,d1,d2⟩:=zcX ha (zfl (zct bs ls t) hh) hB hp;obtain ⟨D1,hD1,i2,p2⟩:=zcv h ha t v D hD;refine zm9 g.up g.k (by rw [g1,d1]) ?_;rw [g2,d2];unfold sayAt;rw [Int.toNat_natCast,hD1];dsimp only;rw [i2,p2]
   ·exact g.no (fun v q hc=>hh ⟨v,q,hc⟩)

theorem zdD {bs:List BR} {ls:List LK} {ss:List SY} (h:NetOk bs ls ss) (ha:agreed bs ls=true) {u:Nat} {B:BR} (hB:bs[u]? = some B):∃x n c,x < bs.length∧Tree (EdgeB bs ls) (idAt bs) x n u c∧n≤5∧(∀y h c',y < bs.length→Wlk (EdgeB bs ls) y h u c'→idAt bs x≤idAt bs y)∧knowT B=⟨idAt bs x,c,(n:Int)⟩:=by
 obtain ⟨x,n,c,h1,h2,h3,h4,h5⟩:=ziS (zhN h) (zl9 h) (List.getElem?_eq_some_iff.1 hB).1;refine ⟨x,n,c,h1,h2,h3,h4, ?_⟩;have e:=h5 15 (Nat.le_refl _);obtain ⟨B',hB',e1,e2⟩:=zcv h ha 15 u B hB;dsimp only [zca] at e;rw [hB'] at e;dsimp only at e;rw [← e];unfold knowT;rw [e1,e2]

theorem zkC {bs:List BR} {ls:List LK} {u p v q:Nat} (h:Hears bs ls ls.length u p v q):∃k,EdgeB bs ls u v q k:=by
 obtain ⟨A,D,pA,pD,hA,-,hpA,-⟩:=zaM h;exact ⟨pA.k,p,A,pA,h,hA,hpA,rfl⟩

theorem zfI {bs:List BR} {ls:List LK} {ss:List SY} (h:NetOk bs ls ss) (ha:agreed bs ls=true) {u p v q:Nat} (hh:Hears bs ls ls.length u p v q) {A D:BR} (hA:bs[u]? = some A) (hD:bs[v]? = some D):(knowT A).r=(knowT D).r:=by
 obtain ⟨x,n,c,x1,x2,-,x4,x5⟩:=zdD h ha hA;obtain ⟨y,m,d,y1,y2,-,y4,y5⟩:=zdD h ha hD;rw [x5,y5]
 show idAt bs x=idAt bs y
 obtain ⟨k,hk⟩:=zkC hh;obtain ⟨k',hk'⟩:=zkC (zgm hh);have a1:=x4 y (m+1) _ y1 ⟨v,q,k,d,zdq y2,hk,rfl⟩;have a2:=y4 x (n+1) _ x1 ⟨u,p,k',c,zdq x2,hk',rfl⟩;omega

theorem zgf {bs:List BR} {ls:List LK} {ss:List SY} (h:NetOk bs ls ss) (ha:agreed bs ls=true) {u p:Nat} {A:BR} (hA:bs[u]? = some A) (hb:bestP (zO A.id A.ports)=(p:Int)):∃(v q:Nat) (D:BR) (y:PT),Hears bs ls ls.length u p v q∧bs[v]? = some D∧A.ports[p]? = some y∧(knowT A).r=(knowT D).r∧(knowT A).c=(knowT D).c+y.k∧(knowT A).h=(knowT D).h+1∧1≤y.k:=by
 cases hx:zO A.id A.ports with
 | none=>rw [hx] at hb; simp only [bestP] at hb; omega
 | some s =>
  obtain ⟨f,j⟩:=s;rw [hx] at hb;simp only [bestP] at hb;have hj:j=p:=by omega
  subst hj;obtain ⟨y,hy,ho,rfl⟩:=zcw hx;obtain ⟨o1,o2,-,-⟩:=zbp ho;obtain ⟨v,q,hh⟩:=zht h hA hy o1 o2;obtain ⟨D,hD,-,d2⟩:=zcX ha hh hA hy;have hk:=(zbF (h.1.1 A (List.mem_of_getElem? hA)) hy).1;unfold ptOk at hk;simp only [Bool.and_eq_true,decide_eq_true_eq] at hk;rw [zea] at d2;refine ⟨v,q,D,y,hh,hD,hy, ?_, ?_, ?_,hk.1.1⟩
  ·unfold knowT;rw [hx]
   show y.v.r=_
   rw [d2]
   rfl
  ·unfold knowT;rw [hx]
   show y.v.c+y.k=_
   rw [d2]
   rfl
  ·unfold knowT;rw [hx]
   show y.v.h+1=_
   rw [d2]
   rfl

theorem zk2 {A:BR} {r c h d q c' h':Int} (p:Int) (hk:knowT A=⟨r,c,h⟩) (hne:A.id≠d):lessV (sayV A.id A.ports p) ⟨r,c',h',d,q⟩=decide (c < c'∨(c=c'∧A.id < d)):=by
 rw [zea,hk];unfold lessV zaL;dsimp only;simp only [bne_self_eq_false,Bool.false_eq_true,if_false,bne_iff_ne,ne_eq,ite_not]
 split
 ·next e =>
  subst e
  simp
 ·next e =>
  simp only [decide_eq_decide];omega

theorem znd {id:Int} {l:List PT} {i:Nat} {x:PT} (hx:l[i]? = some x) (hu:x.up=true) (hh:x.has=true):decide (zaw id l (i:Int)≤2)=(decide (bestP (zO id l)=(i:Int)) || lessV (sayV id l (i:Int)) x.v):=by
 have hi:=(List.getElem?_eq_some_iff.1 hx).1;have e:zaw id l (i:Int)=zcT id l i x:=by
  unfold zaw;rw [if_pos (by simp; omega)]
  simp [hx]
 rw [e];unfold zcT;rw [hu,hh,if_neg (by simp)];by_cases hb:bestP (zO id l)=(i:Int)
 ·rw [if_pos hb,hb]
  simp
 ·rw [if_neg hb];cases hl:lessV (sayV id l (i:Int)) x.v <;> simp [hb]

theorem zjB {bs:List BR} {ls:List LK} {ss:List SY} (h:NetOk bs ls ss) (ha:agreed bs ls=true) {u p v q:Nat} (hh:Hears bs ls ls.length u p v q) {A D:BR} (hA:bs[u]? = some A) (hD:bs[v]? = some D):zeO bs (u:Int) (p:Int)=(decide (bestP (zO A.id A.ports)=(p:Int)) || decide ((knowT A).c < (knowT D).c∨((knowT A).c=(knowT D).c∧A.id < D.id))):=by
 obtain ⟨A',D',y,z,hA',hD',hy,hz⟩:=zaM hh;rw [hA] at hA';cases hA';rw [hD] at hD';cases hD';obtain ⟨D',hD',d1,d2⟩:=zcX ha hh hA hy;rw [hD] at hD';cases hD';have hp:=(List.getElem?_eq_some_iff.1 hy).1;have h6:=(zbF (h.1.1 A (List.mem_of_getElem? hA)) hy).2.1;have hr:=zfI h ha hh hA hD;have hne:A.id≠D.id:=by
  intro e;have huv:u≠v:=by
   obtain ⟨κ,x,-,hx,-,hc⟩:=hh;obtain ⟨⟨n,-⟩,-⟩:=h.2.1.2 x (List.mem_of_getElem? hx);rintro rfl;rcases hc with rfl | rfl <;> exact n rfl
  refine huv ((zhN h).apart u v (List.getElem?_eq_some_iff.1 hA).1 (List.getElem?_eq_some_iff.1 hD).1 ?_);unfold idAt;rw [hA,hD];exact e
 have es:zeO bs (u:Int) (p:Int)=bitOf (zah A.id A.ports) (p:Int):=by
  unfold zeO;rw [Int.toNat_natCast,hA]
 rw [es,zlm A.id A.ports p hp h6,znd hy (zjj hh hA hy) d1,d2,zea D]
 congr 1
 rw [hr.symm];exact zk2 (p:Int) rfl hne

def Goes (bs:List BR) (ls:List LK) (u p v q:Nat):Prop:=Hears bs ls ls.length u p v q∧∃A,bs[u]? = some A∧bestP (zO A.id A.ports)=(p:Int)

theorem zhw {bs:List BR} {ls:List LK} {ss:List SY} (h:NetOk bs ls ss) {u p v q v' q':Nat} (h1:Hears bs ls ls.length u p v q) (h2:Hears bs ls ls.length u p v' q'):v=v'∧q=q':=by
 obtain ⟨κ,x,-,hx,-,hc⟩:=h1;obtain ⟨κ',x',-,hx',-,hc'⟩:=h2;have hnd:=((za1 bs ls).1 h.2.1).2.2;have e:=zbl hnd (List.mem_of_getElem? hx) (List.mem_of_getElem? hx') (by rcases hc with rfl | rfl <;> rcases hc' with rfl | rfl <;> simp);subst e;obtain ⟨⟨n,-⟩,-⟩:=h.2.1.2 x' (List.mem_of_getElem? hx);rcases hc with rfl | rfl <;> rcases hc' with e | e <;> simp only [LK.mk.injEq] at e <;> first | omega | (exact absurd (by omega) n)

theorem zd2 {bs:List BR} {ls:List LK} {ss:List SY} (h:NetOk bs ls ss) (ha:agreed bs ls=true) {u p v q:Nat} (hg:Goes bs ls u p v q) {A D:BR} (hA:bs[u]? = some A) (hD:bs[v]? = some D):(knowT D).c < (knowT A).c∧(knowT A).r=(knowT D).r∧0≤(knowT D).c:=by
 obtain ⟨hh,A',hA',hb⟩:=hg;rw [hA] at hA';cases hA';obtain ⟨v',q',D',y,h1,h2,-,h4,h5,-,h7⟩:=zgf h ha hA hb;obtain ⟨rfl,rfl⟩:=zhw h hh h1;rw [hD] at h2;cases h2;obtain ⟨x,n,c,-,t1,-,-,t2⟩:=zdD h ha hD;have hw:=zdc (zhN h) (zdq t1);have ec:(knowT D).c=c:=by rw [t2]
 exact ⟨by omega,h4,by omega⟩

theorem zbZ {bs:List BR} {ls:List LK} {ss:List SY} (h:NetOk bs ls ss) (ha:agreed bs ls=true) {κ i ip j jq:Nat} (hx:ls[κ]? = some ⟨(i:Int),(ip:Int),(j:Int),(jq:Int)⟩) (hup:zT bs ls (κ:Int)=true):(liveK bs ls κ=true↔Goes bs ls i ip j jq∨Goes bs ls j jq i ip)∧¬(Goes bs ls i ip j jq∧Goes bs ls j jq i ip):=by
 have hκ:=(List.getElem?_eq_some_iff.1 hx).1;have h1:Hears bs ls ls.length i ip j jq:=⟨κ,_,hκ,hx,hup,.inl rfl⟩;have h2:=zgm h1;obtain ⟨A,D,pA,pD,hA,hD,-,-⟩:=zaM h1;have e1:=zjB h ha h1 hA hD;have e2:=zjB h ha h2 hD hA;have g1:Goes bs ls i ip j jq↔bestP (zO A.id A.ports)=(ip:Int):=⟨fun ⟨_,A',hA',hb⟩=>by rw [hA] at hA'; cases hA'; exact hb,fun hb=>⟨h1,A,hA,hb⟩⟩;have g2:Goes bs ls j jq i ip↔bestP (zO D.id D.ports)=(jq:Int):=⟨fun ⟨_,D',hD',hb⟩=>by rw [hD] at hD'; cases hD'; exact hb,fun hb=>⟨h2,D,hD,hb⟩⟩;have l1:=fun hg=>zd2 h ha (u:=i) (p:=ip) (v:=j) (q:=jq) hg hA hD
 have l2:=fun hg=>zd2 h ha (u:=j) (p:=jq) (v:=i) (q:=ip) hg hD hA
 have ek:liveK bs ls κ=(zeO bs (i:Int) (ip:Int) && zeO bs (j:Int) (jq:Int)):=by
  unfold liveK;rw [hup,hx]
  rfl
 have hne:A.id≠D.id:=by
  intro e;have hij:i≠j:=by
   obtain ⟨⟨n,-⟩,-⟩:=h.2.1.2 _ (List.mem_of_getElem? hx);rintro rfl;exact n rfl
  refine hij ((zhN h).apart i j (List.getElem?_eq_some_iff.1 hA).1 (List.getElem?_eq_some_iff.1 hD).1 ?_);unfold idAt;rw [hA,hD];exact e
 refine ⟨?_,fun ⟨c1,c2⟩=>by have:=(l1 c1).1; have:=(l2 c2).1; omega⟩;rw [ek,e1,e2,g1,g2];simp only [Bool.and_eq_true,Bool.or_eq_true,decide_eq_true_eq];rw [g1] at l1;rw [g2] at l2
 constructor
 ·rintro ⟨hl | hl,hr | hr⟩
  ·exact .inl hl
  ·exact .inl hl
  ·exact .inr hr
  ·omega
 ·rintro (hl | hr)
  ·have:=(l1 hl).1
   exact ⟨.inl hl,.inr (.inl this)⟩
  ·have:=(l2 hr).1
   exact ⟨.inr (.inl this),.inl hr⟩

theorem zbO {bs:List BR} {ls:List LK} {k:Int}:∀{n:Nat},k∈zY bs ls n↔∃κ:Nat,k=(κ:Int)∧κ < n∧liveK bs ls κ=true
 | 0=>by simp [zY]
 | n+1=>by
  rw [zY];have ih:=@zbO bs ls k n
  split
  ·next hl =>
   rw [List.mem_append,List.mem_singleton,ih]
   constructor
   ·rintro (⟨κ,h1,h2,h3⟩ | rfl)
    ·exact ⟨κ,h1,by omega,h3⟩
    ·exact ⟨n,rfl,by omega,hl⟩
   ·rintro ⟨κ,h1,h2,h3⟩;by_cases e:κ=n
    ·subst e; exact .inr h1
    ·exact .inl ⟨κ,h1,by omega,h3⟩
  ·next hl =>
   rw [ih]
   constructor
   ·rintro ⟨κ,h1,h2,h3⟩;exact ⟨κ,h1,by omega,h3⟩
   ·rintro ⟨κ,h1,h2,h3⟩;have e:κ≠n:=by rintro rfl; exact hl h3
    exact ⟨κ,h1,by omega,h3⟩

theorem zgr {bs:List BR} {ls:List LK} {κ:Nat} (h:liveK bs ls κ=true):zT bs ls (κ:Int)=true:=by
 unfold liveK at h;rw [Bool.and_eq_true] at h;exact h.1

structure Ups (bs:List BR) (ls:List LK) (l:List Int):Prop where
 up:∀k∈l,∃κ:Nat,k=(κ:Int)∧κ < ls.length∧zT bs ls (κ:Int)=true
 live:∀k∈zY bs ls ls.length,k∈l

theorem zbS {ls:List LK} (κ:Nat):zcS ls (κ:Int)=ls[κ]? := by
 unfold zcS;rw [if_pos (by omega),Int.toNat_natCast]

theorem zgL {bs:List BR} {ls:List LK} {ss:List SY} (h:NetOk bs ls ss) (ha:agreed bs ls=true) {S:Int→Prop} (hS:Clo bs.length ls (zY bs ls ls.length) S) {u p v q:Nat} (hg:Goes bs ls u p v q):S (u:Int)↔S (v:Int):=by
 obtain ⟨A,D,-,-,hA,hD,-,-⟩:=zaM hg.1;have hu:inB bs.length (u:Int)=true:=zaU.2 ⟨by omega,by have:=(List.getElem?_eq_some_iff.1 hA).1; omega⟩;have hv:inB bs.length (v:Int)=true:=zaU.2 ⟨by omega,by have:=(List.getElem?_eq_some_iff.1 hD).1; omega⟩;obtain ⟨κ,x,hκ,hx,hup,hc⟩:=hg.1;rcases hc with rfl | rfl
 ·have hl:=(zbZ h ha hx hup).1.2 (.inl hg)
  have:=hS (κ:Int) (zbO.2 ⟨κ,rfl,hκ,hl⟩) _ (by rw [zbS]; exact hx)
  exact ⟨fun a=>this.1 a hv,fun a=>this.2 a hu⟩
 ·have hl:=(zbZ h ha hx hup).1.2 (.inr hg)
  have:=hS (κ:Int) (zbO.2 ⟨κ,rfl,hκ,hl⟩) _ (by rw [zbS]; exact hx)
  exact ⟨fun a=>this.2 a hv,fun a=>this.1 a hu⟩

theorem zeM {bs:List BR} {ls:List LK} {ss:List SY} (h:NetOk bs ls ss) (ha:agreed bs ls=true) {u:Nat} {A:BR} (hA:bs[u]? = some A):(bestP (zO A.id A.ports) = -1∧(knowT A).r=A.id)∨∃(p v q:Nat) (D:BR),Goes bs ls u p v q∧bs[v]? = some D∧bestP (zO A.id A.ports)=(p:Int):=by
 obtain ⟨-,-,r3,r4,-⟩:=zdU (id:=A.id) (l:=A.ports);by_cases hb:bestP (zO A.id A.ports) = -1
 ·exact .inl ⟨hb,r3.2 hb⟩
 ·obtain ⟨p,hp⟩:∃p:Nat,bestP (zO A.id A.ports)=(p:Int):=⟨(bestP (zO A.id A.ports)).toNat,by omega⟩;obtain ⟨v,q,D,y,h1,h2,-⟩:=zgf h ha hA hp;exact .inr ⟨p,v,q,D,⟨h1,A,hA,hp⟩,h2,hp⟩

theorem zlu {bs:List BR} {ls:List LK} {ss:List SY} (h:NetOk bs ls ss) (ha:agreed bs ls=true) {S:Int→Prop} (hS:∀u p v q:Nat,Goes bs ls u p v q→(S (u:Int)↔S (v:Int))):∀(n u:Nat) (A:BR),bs[u]? = some A→(knowT A).c.toNat=n→∃(x:Nat) (X:BR),bs[x]? = some X∧(knowT A).r=X.id∧(S (u:Int)↔S (x:Int)):=by
 intro n
 induction n using Nat.strongRecOn with
 | ind n ih =>
  intro u A hA hn;rcases zeM h ha hA with ⟨-,hr⟩ | ⟨p,v,q,D,hg,hD,-⟩
  ·exact ⟨u,A,hA,hr,Iff.rfl⟩
  ·obtain ⟨c1,c2,c3⟩:=zd2 h ha hg hA hD;obtain ⟨x,X,hX,e1,e2⟩:=ih (knowT D).c.toNat (by omega) v D hD rfl;exact ⟨x,X,hX,c2.trans e1,(hS u p v q hg).trans e2⟩

theorem zj5 {bs:List BR} {ls:List LK} {ss:List SY} (h:NetOk bs ls ss) (ha:agreed bs ls=true) {S:Int→Prop} (hS:∀u p v q:Nat,Goes bs ls u p v q→(S (u:Int)↔S (v:Int))) {u p v q:Nat} (hh:Hears bs ls ls.length u p v q):S (u:Int)↔S (v:Int):=by
 obtain ⟨A,D,-,-,hA,hD,-,-⟩:=zaM hh;obtain ⟨x,X,hX,e1,e2⟩:=zlu h ha hS _ u A hA rfl;obtain ⟨y,Y,hY,f1,f2⟩:=zlu h ha hS _ v D hD rfl;have hr:=zfI h ha hh hA hD;have e:x=y:=by
  refine (zhN h).apart x y (List.getElem?_eq_some_iff.1 hX).1 (List.getElem?_eq_some_iff.1 hY).1 ?_;unfold idAt;rw [hX,hY]
  show X.id=Y.id
  rw [← e1,← f1,hr]
 subst e;exact e2.trans f2.symm

theorem znt {bs:List BR} {ls:List LK} {ss:List SY} (h:NetOk bs ls ss) (ha:agreed bs ls=true) {l:List Int} (hl:Ups bs ls l) {S:Int→Prop} (hS:Clo bs.length ls (zY bs ls ls.length) S):Clo bs.length ls l S:=by
 intro k hk x hx;obtain ⟨κ,rfl,hκ,hup⟩:=hl.up k hk;rw [zbS] at hx;obtain ⟨i,ip,j,jq,A,D,pA,pD,rfl,-⟩:=zbx hx hup
 have:=zj5 h ha (fun u p v q hg=>zgL h ha hS hg) (u:=i) (p:=ip) (v:=j) (q:=jq) ⟨κ,_,hκ,hx,hup,.inl rfl⟩
 exact ⟨fun a _=>this.1 a,fun a _=>this.2 a⟩

theorem zeg {bs:List BR} {ls:List LK} {ss:List SY} (h:NetOk bs ls ss) (ha:agreed bs ls=true) {l:List Int} (hl:Ups bs ls l) {b z:Int}:Rch bs.length ls (zY bs ls ls.length) b z↔Rch bs.length ls l b z :=
 ⟨fun hr S h1 h2=>hr S h1 (fun k hk=>h2 k (hl.live k hk)),fun hr S h1 h2=>hr S h1 (znt h ha hl h2)⟩

theorem zfs {S T:List Int} (h:∀z,z∈S↔z∈T):∀k,zb9 S k=zb9 T k
 | 0=>rfl
 | k+1=>by
  unfold zb9;rw [zfs h k];have e:S.contains (k:Int)=T.contains (k:Int):=by
   rw [Bool.eq_iff_iff,List.contains_iff_mem,List.contains_iff_mem];exact h _
  rw [e]

theorem ziy {bs:List BR} {ls:List LK} {ss:List SY} (h:NetOk bs ls ss) (ha:agreed bs ls=true) {l:List Int} (hl:Ups bs ls l) (b:Int):joined bs.length ls b (zY bs ls ls.length)=joined bs.length ls b l:=by
 unfold joined
 split
 ·next hb=>exact zfs (fun z=>by rw [zhD hb,zhD hb]; exact zeg h ha hl) _
 ·rfl

theorem zhE {bs:List BR} {ls:List LK} {ss:List SY} (h:NetOk bs ls ss) (ha:agreed bs ls=true) {l:List Int} (hl:Ups bs ls l) {u:Nat} {A:BR} (hA:bs[u]? = some A):(∀z∈joined bs.length ls (u:Int) l,∃(y:Nat) (Y:BR),z=(y:Int)∧bs[y]? = some Y∧(knowT A).r≤Y.id)∧∃(x:Nat) (X:BR),(x:Int)∈joined bs.length ls (u:Int) l∧bs[x]? = some X∧(knowT A).r=X.id:=by
 have hu:inB bs.length (u:Int)=true:=zaU.2 ⟨by omega,by have:=(List.getElem?_eq_some_iff.1 hA).1; omega⟩;unfold joined;rw [if_pos hu];refine ⟨fun z hz => ?_, ?_⟩
 ·obtain ⟨h1,h2,h3⟩:=zdj.1 hz;have hr:=(zhD hu).1 h1;obtain ⟨y,rfl⟩:∃y:Nat,z=(y:Int):=⟨z.toNat,by omega⟩;have hy:y < bs.length:=by omega
  refine ⟨y,_,rfl,List.getElem?_eq_getElem hy, ?_⟩
  have:=hr (fun s=>∃(a:Nat) (B:BR),s=(a:Int)∧bs[a]? = some B∧(knowT B).r=(knowT A).r) ⟨u,A,rfl,hA,rfl⟩ (fun k hk x hx=>by
   obtain ⟨κ,rfl,hκ,hup⟩:=hl.up k hk;rw [zbS] at hx;obtain ⟨i,ip,j,jq,B,D,pA,pD,rfl,hB,hD,-⟩:=zbx hx hup;have hs:=zfI h ha (u:=i) (p:=ip) (v:=j) (q:=jq) ⟨κ,_,hκ,hx,hup,.inl rfl⟩ hB hD;refine ⟨fun ⟨a,B',e1,e2,e3⟩ _=>⟨j,D,rfl,hD, ?_⟩,fun ⟨a,B',e1,e2,e3⟩ _=>⟨i,B,rfl,hB, ?_⟩⟩
   ·have e:i=a:=Int.ofNat.inj e1;subst e;rw [hB] at e2;cases e2;rw [← hs,e3]
   ·have e:j=a:=Int.ofNat.inj e1;subst e;rw [hD] at e2;cases e2;rw [hs,e3])
  obtain ⟨a,B,e1,e2,e3⟩:=this;have e:y=a:=Int.ofNat.inj e1;subst e;rw [List.getElem?_eq_getElem hy] at e2;cases e2;rw [← e3];exact zdU.2.1
 ·obtain ⟨x,X,hX,e1,e2⟩:=zlu h ha (S:=fun z=>Rch bs.length ls l (u:Int) z) (fun a p b q hg=>by
   obtain ⟨B,D,-,-,hB,hD,-,-⟩:=zaM hg.1;have ia:inB bs.length (a:Int)=true:=zaU.2 ⟨by omega,by have:=(List.getElem?_eq_some_iff.1 hB).1; omega⟩;have ib:inB bs.length (b:Int)=true:=zaU.2 ⟨by omega,by have:=(List.getElem?_eq_some_iff.1 hD).1; omega⟩
   constructor
   ·intro hr;exact (zeg h ha hl).1 (fun S h1 h2=>(zgL h ha h2 hg).1 ((zeg h ha hl).2 hr S h1 h2))
   ·intro hr;exact (zeg h ha hl).1 (fun S h1 h2=>(zgL h ha h2 hg).2 ((zeg h ha hl).2 hr S h1 h2))) _ u A hA rfl
  have hx:=(List.getElem?_eq_some_iff.1 hX).1;exact ⟨x,X,zdj.2 ⟨(zhD hu).2 (e2.1 (fun S h1 _=>h1)),by omega,by omega⟩,hX,e1⟩

section
open Go.RowKit

theorem ziE {α β:Type} [DecidableEq β] (R:α→β→Prop):∀(l:List α) (l':List β),l.Nodup→(∀z∈l,∃y∈l',R z y)→(∀z z' y,z∈l→z'∈l→R z y→R z' y→z=z')→l.length≤l'.length
 | [],l',_,_,_=>by simp
 | a::l,l',hn,ht,hi=>by
  obtain ⟨b,hb,hab⟩:=ht a (by simp);rw [List.nodup_cons] at hn;have ih:=ziE R l (l'.erase b) hn.2 (fun z hz=>by
   obtain ⟨y,hy,hr⟩:=ht z (by simp [hz]);refine ⟨y, ?_,hr⟩;have hne:y≠b:=by
    rintro rfl
    have:=hi z a y (by simp [hz]) (by simp) hr hab
    subst this;exact hn.1 hz
   exact (List.mem_erase_of_ne hne).2 hy) (fun z z' y h1 h2=>hi z z' y (by simp [h1]) (by simp [h2]))
  rw [List.length_erase_of_mem hb] at ih
  have:0 < l'.length:=List.length_pos_of_mem hb
  simp only [List.length_cons];omega

theorem zfB {bs:List BR} {ls:List LK} {ss:List SY} (h:NetOk bs ls ss) {i j:Nat} {x:LK} (hi:ls[i]? = some x) (hj:ls[j]? = some x):i=j:=by
 have hnd:=((za1 bs ls).1 h.2.1).2.2;unfold endsL at hnd;unfold List.Nodup at hnd;rw [List.pairwise_flatMap] at hnd;have hp:=List.pairwise_iff_getElem.1 hnd.2;obtain ⟨hi1,hi2⟩:=List.getElem?_eq_some_iff.1 hi;obtain ⟨hj1,hj2⟩:=List.getElem?_eq_some_iff.1 hj;rcases Nat.lt_trichotomy i j with hl | hl | hl
 ·have:=hp i j hi1 hj1 hl
  rw [hi2,hj2] at this;exact absurd rfl (this (x.a,x.p) (by simp) (x.a,x.p) (by simp))
 ·exact hl
 ·have:=hp j i hj1 hi1 hl
  rw [hi2,hj2] at this;exact absurd rfl (this (x.a,x.p) (by simp) (x.a,x.p) (by simp))

def By (bs:List BR) (ls:List LK) (κ u v:Nat):Prop:=∃(p q:Nat) (x:LK),ls[κ]? = some x∧zT bs ls (κ:Int)=true∧(x=⟨(u:Int),(p:Int),(v:Int),(q:Int)⟩∨x=⟨(v:Int),(q:Int),(u:Int),(p:Int)⟩)∧Goes bs ls u p v q

section
variable {bs:List BR} {ls:List LK} {ss:List SY}

theorem zmL (h:NetOk bs ls ss) (ha:agreed bs ls=true) {κ u v:Nat} (hb:By bs ls κ u v):κ < ls.length∧liveK bs ls κ=true:=by
 obtain ⟨p,q,x,hx,hup,hc,hg⟩:=hb;refine ⟨(List.getElem?_eq_some_iff.1 hx).1, ?_⟩;rcases hc with rfl | rfl
 ·exact (zbZ h ha hx hup).1.2 (.inl hg)
 ·exact (zbZ h ha hx hup).1.2 (.inr hg)

theorem ziG (h:NetOk bs ls ss) (ha:agreed bs ls=true) {κ:Nat} (hl:liveK bs ls κ=true) (hκ:κ < ls.length):∃u v,By bs ls κ u v:=by
 have hup:=zgr hl;have hx:=List.getElem?_eq_getElem hκ;obtain ⟨i,ip,j,jq,A,D,pA,pD,e,-⟩:=zbx hx hup;rw [e] at hx;rcases (zbZ h ha hx hup).1.1 hl with hg | hg
 ·exact ⟨i,j,ip,jq,_,hx,hup,.inl rfl,hg⟩
 ·exact ⟨j,i,jq,ip,_,hx,hup,.inr rfl,hg⟩

theorem zmK (h:NetOk bs ls ss) (ha:agreed bs ls=true) {u:Nat} {A:BR} (hA:bs[u]? = some A) (hr:(knowT A).r≠A.id):∃κ v,By bs ls κ u v:=by
 rcases zeM h ha hA with ⟨-,hc⟩ | ⟨p,v,q,D,hg,-⟩
 ·exact absurd hc hr
 ·obtain ⟨κ,x,hκ,hx,hup,hc⟩:=hg.1;exact ⟨κ,v,p,q,x,hx,hup,hc,hg⟩

theorem zlX (h:NetOk bs ls ss) {u p v q p' v' q':Nat} (h1:Goes bs ls u p v q) (h2:Goes bs ls u p' v' q'):p=p'∧v=v'∧q=q':=by
 obtain ⟨k1,A,hA,b1⟩:=h1;obtain ⟨k2,A',hA',b2⟩:=h2;rw [hA] at hA';cases hA';have e:p=p':=by omega
 subst e;exact ⟨rfl,zhw h k1 k2⟩

theorem zkw (h:NetOk bs ls ss) {κ κ' u v v':Nat} (h1:By bs ls κ u v) (h2:By bs ls κ' u v'):κ=κ'∧v=v':=by
 obtain ⟨p,q,x,hx,-,hc,hg⟩:=h1;obtain ⟨p',q',x',hx',-,hc',hg'⟩:=h2;obtain ⟨rfl,rfl,rfl⟩:=zlX h hg hg';have hnd:=((za1 bs ls).1 h.2.1).2.2;have e:=zbl hnd (List.mem_of_getElem? hx) (List.mem_of_getElem? hx') (by rcases hc with rfl | rfl <;> rcases hc' with rfl | rfl <;> simp);subst e;exact ⟨zfB h hx hx',rfl⟩

theorem znm (h:NetOk bs ls ss) (ha:agreed bs ls=true) {κ u v u' v':Nat} (h1:By bs ls κ u v) (h2:By bs ls κ u' v'):u=u':=by
 obtain ⟨p,q,x,hx,hup,hc,hg⟩:=h1;obtain ⟨p',q',x',hx',-,hc',hg'⟩:=h2;rw [hx] at hx';cases hx';rcases hc with rfl | rfl
 ·have:=(zbZ h ha hx hup).2
  rcases hc' with e | e <;> simp only [LK.mk.injEq] at e
  ·omega
  ·have e1:u=v':=by omega
   have e2:p=q':=by omega
   have e3:v=u':=by omega
   have e4:q=p':=by omega
   subst e1 e2 e3 e4;exact absurd ⟨hg,hg'⟩ this
 ·have:=(zbZ h ha hx hup).2
  rcases hc' with e | e <;> simp only [LK.mk.injEq] at e
  ·have e1:u=v':=by omega
   have e2:p=q':=by omega
   have e3:v=u':=by omega
   have e4:q=p':=by omega
   subst e1 e2 e3 e4;exact absurd ⟨hg',hg⟩ this
  ·omega

theorem zey (bs:List BR) (ls:List LK):∀n,(zY bs ls n).Nodup
 | 0=>by simp [zY]
 | n+1=>by
  rw [zY]
  split
  ·rw [List.nodup_append];refine ⟨zey bs ls n,by simp,fun a h1 b h2 => ?_⟩;obtain ⟨κ,rfl,hk,-⟩:=zbO.1 h1;simp only [List.mem_singleton] at h2;omega
  ·exact zey bs ls n

def zb1 (bs:List BR) (u:Nat):Bool:=match bs[u]? with
 | some A=>decide ((knowT A).r=A.id)
 | none=>true

theorem zgq (h:NetOk bs ls ss) (ha:agreed bs ls=true):(zY bs ls ls.length).length+(List.range bs.length).countP (zb1 bs)=bs.length:=by
 have e1:(zY bs ls ls.length).length≤((List.range bs.length).filter (fun u => !(zb1 bs u))).length:=by
  refine ziE (fun (k:Int) (u:Nat)=>∃κ v:Nat,k=(κ:Int)∧By bs ls κ u v) _ _ (zey bs ls _) (fun k hk => ?_) (fun z z' y _ _ => ?_)
  ·obtain ⟨κ,rfl,hκ,hl⟩:=zbO.1 hk;obtain ⟨u,v,hb⟩:=ziG h ha hl hκ;refine ⟨u, ?_,κ,v,rfl,hb⟩;obtain ⟨p,q,x,-,-,-,hg⟩:=hb;obtain ⟨-,A,hA,hbp⟩:=hg;rw [List.mem_filter];refine ⟨List.mem_range.2 (List.getElem?_eq_some_iff.1 hA).1, ?_⟩;unfold zb1;rw [hA];dsimp only
   have:=(zdU (id:=A.id) (l:=A.ports)).2.2.1
   have hne:(knowT A).r≠A.id:=fun hc=>by have:=this.1 hc; omega
   simp [hne]
  ·rintro ⟨κ,v,rfl,h1⟩ ⟨κ',v',rfl,h2⟩;rw [(zkw h h1 h2).1]
 have e2:((List.range bs.length).filter (fun u => !(zb1 bs u))).length≤(zY bs ls ls.length).length:=by
  refine ziE (fun (u:Nat) (k:Int)=>∃κ v:Nat,k=(κ:Int)∧By bs ls κ u v) _ _ (List.Pairwise.filter _ List.nodup_range) (fun u hu => ?_) (fun z z' y _ _ => ?_)
  ·rw [List.mem_filter,List.mem_range] at hu;obtain ⟨hu,hr⟩:=hu;unfold zb1 at hr;rw [List.getElem?_eq_getElem hu] at hr;dsimp only at hr;obtain ⟨κ,v,hb⟩:=zmK h ha (List.getElem?_eq_getElem hu) (by simpa using hr);obtain ⟨l1,l2⟩:=zmL h ha hb;exact ⟨(κ:Int),zbO.2 ⟨κ,rfl,l1,l2⟩,κ,v,rfl,hb⟩
  ·rintro ⟨κ,v,rfl,h1⟩ ⟨κ',v',e,h2⟩;have e:κ=κ':=Int.ofNat.inj e;subst e;exact znm h ha h1 h2
 have e3:=List.length_eq_countP_add_countP (zb1 bs) (l:=List.range bs.length);rw [List.length_range] at e3;rw [← List.countP_eq_length_filter] at e1 e2;have e4:(List.range bs.length).countP (fun u => !(zb1 bs u))=(List.range bs.length).countP (fun a=>decide ¬zb1 bs a=true):=List.countP_congr (fun u _=>by cases zb1 bs u <;> simp);omega

def Anc (bs:List BR) (ls:List LK):Nat→Nat→Nat→Prop
 | 0,z,c=>z=c
 | k+1,z,c=>∃κ y,By bs ls κ z y∧Anc bs ls k y c

theorem zkv (h:NetOk bs ls ss) (ha:agreed bs ls=true) {κ u v:Nat} (hb:By bs ls κ u v) {A D:BR} (hA:bs[u]? = some A) (hD:bs[v]? = some D):(knowT D).c < (knowT A).c:=by
 obtain ⟨p,q,x,-,-,-,hg⟩:=hb;exact (zd2 h ha hg hA hD).1

theorem zi7 (h:NetOk bs ls ss) (ha:agreed bs ls=true):∀{k z c:Nat} {Z C:BR},Anc bs ls k z c→bs[z]? = some Z→bs[c]? = some C→(knowT C).c≤(knowT Z).c
 | 0,z,c,Z,C,hk,hZ,hC=>by
  have e:z=c:=hk;subst e;rw [hZ] at hC;cases hC;exact Int.le_refl _
 | k+1,z,c,Z,C,hk,hZ,hC=>by
  obtain ⟨κ,y,hb,hy⟩:=hk;obtain ⟨Y,hY⟩:∃Y,bs[y]? = some Y:=by
   obtain ⟨p,q,x,-,-,-,hg⟩:=hb;obtain ⟨-,D,-,-,-,hD,-⟩:=zaM hg.1;exact ⟨D,hD⟩
  have:=zi7 h ha hy hY hC
  have:=zkv h ha hb hZ hY
  omega

theorem zjM (h:NetOk bs ls ss) (ha:agreed bs ls=true) {x:LK} {κ:Nat} (hx:ls[κ]? = some x) (hl:liveK bs ls κ=true):∃S:Int→Prop,¬(S x.a↔S x.b)∧∀(κ':Nat) (x':LK),κ'≠κ→ls[κ']? = some x'→liveK bs ls κ'=true→(S x'.a↔S x'.b):=by
 obtain ⟨u,v,hb⟩:=ziG h ha hl (List.getElem?_eq_some_iff.1 hx).1;refine ⟨fun z=>∃n k:Nat,z=(n:Int)∧Anc bs ls k n u, ?_, ?_⟩
 ·have yes:∃n k:Nat,(u:Int)=(n:Int)∧Anc bs ls k n u:=⟨u,0,rfl,rfl⟩;have no:¬∃n k:Nat,(v:Int)=(n:Int)∧Anc bs ls k n u:=by
   rintro ⟨n,k,e,hk⟩;have e:v=n:=Int.ofNat.inj e;subst e;obtain ⟨p,q,y,-,-,-,hg⟩:=id hb;obtain ⟨A,D,-,-,hA,hD,-⟩:=zaM hg.1
   have:=zi7 h ha hk hD hA
   have:=zkv h ha hb hA hD
   omega
  obtain ⟨p,q,y,hy,-,hc,-⟩:=hb;rw [hx] at hy;cases hy;rcases hc with rfl | rfl
  ·exact fun hc=>no (hc.1 yes)
  ·exact fun hc=>no (hc.2 yes)
 ·intro κ' x' hne hx' hl';obtain ⟨u',v',hb'⟩:=ziG h ha hl' (List.getElem?_eq_some_iff.1 hx').1;have key:(∃n k:Nat,(u':Int)=(n:Int)∧Anc bs ls k n u)↔(∃n k:Nat,(v':Int)=(n:Int)∧Anc bs ls k n u):=by
   constructor
   ·rintro ⟨n,k,e,hk⟩;have e:u'=n:=Int.ofNat.inj e;subst e;cases k with
    | zero =>
     have e:u'=u:=hk;subst e;exact absurd (zkw h hb' hb).1 hne
    | succ k =>
     obtain ⟨κ2,y,h1,h2⟩:=hk;obtain ⟨-,rfl⟩:=zkw h h1 hb';exact ⟨y,k,rfl,h2⟩
   ·rintro ⟨n,k,e,hk⟩;have e:v'=n:=Int.ofNat.inj e;subst e;exact ⟨u',k+1,rfl,κ',v',hb',hk⟩
  obtain ⟨p,q,y,hy,-,hc,-⟩:=hb';rw [hx'] at hy;cases hy;rcases hc with rfl | rfl
  ·exact key
  ·exact key.symm

end

end

theorem zjE {nb:Nat} {ls:List LK} {k:Int} {x:LK} (h:zck nb ls k=some x):zcS ls k=some x:=by
 unfold zck at h
 split at h
 ·rename_i y hy
  split at h
  ·cases h; exact hy
  ·cases h
 ·cases h

theorem zkm {bs:List BR} {ls:List LK} {ss:List SY} (h:NetOk bs ls ss) {cs:List Int} (hn:cs.Nodup):(told bs.length ls cs).Nodup:=by
 unfold told List.Nodup;rw [List.pairwise_filterMap];refine hn.imp ?_;intro a b hab x hx y hy e;subst e;have h1:=zjE hx;have h2:=zjE hy;unfold zcS at h1 h2
 split at h1
 ·split at h2
  ·have:=zfB h h1 h2
   omega
  ·cases h2
 ·cases h1

theorem zm4 {bs:List BR} {ls:List LK} {ss:List SY} (h:NetOk bs ls ss) (ha:agreed bs ls=true) {cs:List Int} (hn:cs.Nodup) (hcs:∀k,k∈cs↔k∈zY bs ls ls.length) {i:Nat} {x:LK} (hx:(told bs.length ls cs)[i]? = some x):¬RchT ((told bs.length ls cs).take i) x.a x.b:=by
 intro hr;have hT:=zkm h hn;obtain ⟨k,hk,hl,-,-⟩:=zcO.1 (List.mem_of_getElem? hx);obtain ⟨κ,rfl,hκ,hlive⟩:=zbO.1 ((hcs k).1 hk);rw [zbS] at hl;obtain ⟨S,s1,s2⟩:=zjM h ha hl hlive;have key:∀y∈(told bs.length ls cs).take i,(S y.a↔S y.b):=by
  intro y hy;obtain ⟨j,hj,e⟩:=List.mem_take_iff_getElem.1 hy;have hy2:y∈told bs.length ls cs:=List.mem_of_mem_take hy;obtain ⟨k',hk',hl',-,-⟩:=zcO.1 hy2;obtain ⟨κ',rfl,hκ',hlive'⟩:=zbO.1 ((hcs k').1 hk');rw [zbS] at hl';refine s2 κ' y (fun e2 => ?_) hl' hlive';subst e2;rw [hl] at hl';have exy:x=y:=Option.some.inj hl';obtain ⟨hi,ei⟩:=List.getElem?_eq_some_iff.1 hx;have hp:=List.pairwise_iff_getElem.1 hT j i (by omega) hi (by omega);exact hp (by rw [e,ei,exy])
 refine s1 ⟨fun hs => ?_,fun hs => ?_⟩
 ·exact hr S hs (fun y hy=>⟨(key y hy).1,(key y hy).2⟩)
 ·exact Classical.byContradiction fun hc=>hr (fun z=>¬S z) hc (fun y hy=>⟨fun a b=>a ((key y hy).2 b),fun a b=>a ((key y hy).1 b)⟩) hs

end Go.Proofs.YtkaefmfopejbaaaGreat
