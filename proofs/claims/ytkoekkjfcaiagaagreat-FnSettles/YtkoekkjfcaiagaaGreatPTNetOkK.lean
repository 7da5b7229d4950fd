/-
  By ports without a link nothing was heard; what was said is right; all of it together: NetOk of the program.
-/
import Derived.Test.YtkoekkjfcaiagaaGreatPTK01
import Derived.Test.YtkoekkjfcaiagaaGreatPTK03
import Derived.Test.YtkoekkjfcaiagaaGreatPTK18
import Derived.Test.YtkoekkjfcaiagaaGreatPTK27
namespace Go.Proofs.YtkoekkjfcaiagaaGreat
set_option maxRecDepth 100000
set_option maxHeartbeats 16000000
open Go.RowKit

theorem zeE (N:NV) (w:World) (h:zag w N) :
  Calls Tryz.prog 55 #[.agg #[.slice N.ba N.bn N.bc,.slice N.la N.ln N.lc,.slice N.sa N.sn N.sc]] w fun e w'=>Says (Quiet N.brs N.ls) w e w':=by
 obtain ⟨ba,bn,bc,bs,la,ln,lc,ls,sa,sn,sc,ss⟩:=N;have hG:=h.b;have hle:=Nat.le_trans hG.le hG.top;unfold maxLen at hle;have hsz:=hG.size;have hat:∀{i:Nat} {x:BV},bs[i]?=some x→(bs.map BV.B)[i]?=some x.B:=fun hx=>by rw [List.getElem?_map,hx]; rfl
 have hlen:(bs.map BV.B).length=bn:=by simp; exact hsz
 have hitem:∀x∈bs,x.Reads w:=h.item;have HH:=hide h;clear h;generalize hbR:NV.brs ⟨ba,bn,bc,bs,la,ln,lc,ls,sa,sn,sc,ss⟩=bR;have hbR':bs.map BV.B=bR:=hbR;rw [hbR'] at hat hlen;clear hbR hbR';dsimp only at hG hle hsz ⊢;generalize hw1:w.alloc (Obj.cells #[.slice ba bn bc,.slice la ln lc,.slice sa sn sc] 31)=w1;have b01:=zb hw1;have k1:=zk hw1;obtain ⟨x0,x1,x2⟩:=zd k1;go_enter Tryz.func55,Tryz.ntmps55;go_wp2_with fail
 clear hw1 x0 x1 x2
 go_loopw [13] (fun i wr=>∃k:Nat,k≤bn∧i=.int .i64 k∧(∀(i:Nat) (B:BR),i < k→bR[i]?=some B→zeo ls i B)∧wr.heap[w.heap.size]?=some (.cells #[.slice ba bn bc,.slice la ln lc,.slice sa sn sc] 31)∧Below w.heap.size w wr) (fun i _=>bn - (intOf i).toNat)
 case atStart=>exact ⟨0,Nat.zero_le _,rfl,by intro i B hi; omega,k1,b01⟩
 case round =>
  obtain ⟨k,hk,rfl,hqt,hbox,hb⟩:=hrel;clear k1 b01;by_cases hlt:k < bn
  ·obtain ⟨x,bb,off,hx,rfl,ca0,ca1,ca2,ca3,ca4,ca5,ca6,ca7,ca8,ca9,ca10⟩:=br_at (hG.below hb) k hlt;have hrow:=hitem x (List.mem_of_getElem? hx);have hpl:=Nat.le_trans hrow.ports.le hrow.ports.top;unfold maxLen at hpl;have hps:=hrow.ports.size;have i1:(0:Int)≤(k:Int):=by omega
   have i2:(k:Int) < (bn:Int):=by omega
   have HBX:=hide (hat hx);have HQT:=hide hqt;generalize hwa:wr.alloc (Obj.cells #[.int .i64 x.B.id,.string x.B.name,.slice x.a x.n x.c,.slice x.fa x.fn x.fc,.slice x.ra x.rn x.rc,.slice x.oa x.on x.oc,.int .i64 x.B.ticks,.int .i64 x.B.parse,.int .i64 x.B.word,.int .i64 x.B.drops,.int .i64 x.B.vers] 63)=wa;have ba9:=zb hwa;have ka:=zk hwa;have kNe:=za hbox ba9;have b0a:=zc hb ba9;obtain ⟨c0,c1,c2,c3,c4,c5,c6,c7,c8,c9,c10⟩:=zu ka;clear hx hqt hbox;(go_wp2_with fail);clear c0 c1 c2 c3 c4 c5 c6 c7 c8 c9 c10 ca0 ca1 ca2 ca3 ca4 ca5 ca6 ca7 ca8 ca9 ca10 ka ba9 hwa hb
   go_loopw [21] (fun i wr=>∃p:Nat,p≤x.n∧i=.int .i64 p∧(∀(i:Nat) (y:PT),i < p→x.B.ports[i]?=some y→y.has=true→usedL ls (k:Int) (i:Int)≠0)∧wr.heap[w.heap.size]?=some (.cells #[.slice (some ⟨bb,off,none⟩) bn bc,.slice la ln lc,.slice sa sn sc] 31)∧Below w.heap.size w wr) (fun i _=>x.n - (intOf i).toNat)
   case atStart=>exact ⟨0,Nat.zero_le _,rfl,by intro i y hi; omega,kNe,b0a⟩
   case round =>
    obtain ⟨p,hp,rfl,hq,hbox5,hb5⟩:=hrel;clear kNe b0a;by_cases hpn:p < x.n
    ·obtain ⟨y,pb,po,hy,hpa,d0,d1,d2,d3,d4,d5,d6,d7⟩:=pt_at (hrow.ports.below hb5) p hpn;obtain ⟨xa,xn,xc,xfa,xfn,xfc,xra,xrn,xrc,xoa,xon,xoc,xB⟩:=x;dsimp only at hpa hpn hp hrow hpl hps HBX hq hy ⊢;subst hpa;have i3:(0:Int)≤(p:Int):=by omega
     have i4:(p:Int) < (xn:Int):=by omega
     have HQ:=hide hq;have HY:=hide hy;generalize hwb:wr.alloc (Obj.cells #[.bool y.up,.int .i64 y.k,.bool y.has,.int .i64 y.v.r,.int .i64 y.v.c,.int .i64 y.v.h,.int .i64 y.v.b,.int .i64 y.v.p] 67)=wb;have bb9:=zb hwb;have kp:=zk hwb;have kNe:=za hbox5 bb9;have b0b:=zc hb5 bb9;obtain ⟨x0,x1,x2⟩:=zd kNe;clear hq hy hbox5;(go_wp2_with fail);refine (zfb ⟨some ⟨bb,off,none⟩,bn,bc,bs,la,ln,lc,ls,sa,sn,sc,ss⟩ (k:Int) (p:Int) _ (HH.out.below b0b)).mono ?_;rintro e w6 ⟨rfl,hb6⟩;have kNe:=za kNe hb6;have kp:=za kp hb6;have b06:=zc b0b hb6;generalize hRR:wr.heap.size=G at *;clear x0 x1 x2 d0 d1 d2 d3 d4 d5 d6 d7 hwb bb9 b0b hb6 hb5;obtain ⟨o0,o1,o2,o3,o4,o5,o6,o7⟩:=zhL kp;dsimp only;have hBU:=zg2 ls (k:Int) (p:Int);have HKN:=hide kNe;cases hh:y.has
     ·rw [hh] at o2;have HNX:Hid (∀(i:Nat) (z:PT),i < p+1→xB.ports[i]?=some z→z.has=true→usedL ls (k:Int) (i:Int)≠0):=hide (fun i z hi hz hzh=>by
       by_cases hip:i=p
       ·subst hip; rw [HY.out] at hz; cases hz; rw [hh] at hzh; cases hzh
       ·exact HQ.out i z (by omega) hz hzh)
      obtain ⟨t1,t2,t3,hT⟩:∃(x y:Int) (z:Bool),zfJ (zby ls (k:Int) (p:Int))=.tuple #[.int .i64 x,.int .i64 y,.bool z]:=by
       cases zby ls (k:Int) (p:Int) with
       | none=>exact ⟨_,_,_,rfl⟩
       | some q=>exact ⟨_,_,_,rfl⟩
      rw [hT];clear hT hBU kNe;go_wp2
      go_roundw
      case rel=>exact ⟨p+1,by omega,by go_num,HNX.out,HKN.out,b06⟩
      case measure=>simp [intOf]; omega
     ·rw [hh] at o2;cases hBS:zby ls (k:Int) (p:Int) with
      | none =>
       have hu:=hBU.1 hBS;have HNO:Hid ((false=true)↔Quiet bR ls):=hide (zaB fun hp=>hp k _ HBX.out p y HY.out hh hu);clear hBU hu kNe hBS;unfold zfJ;dsimp only;go_wp2;go_ret;exact ⟨false,rfl,HNO.out,b06⟩
      | some q =>
       have hu:¬usedL ls (k:Int) (p:Int)=0:=fun e=>by rw [hBU.2 e] at hBS; cases hBS
       have HNX:Hid (∀(i:Nat) (z:PT),i < p+1→xB.ports[i]?=some z→z.has=true→usedL ls (k:Int) (i:Int)≠0):=hide (fun i z hi hz hzh=>by
        by_cases hip:i=p
        ·subst hip; exact hu
        ·exact HQ.out i z (by omega) hz hzh)
       clear hBU hu kNe hBS;obtain ⟨qa,qb⟩:=q;unfold zfJ;dsimp only;go_wp2
       go_roundw
       case rel=>exact ⟨p+1,by omega,by go_num,HNX.out,HKN.out,b06⟩
       case measure=>simp [intOf]; omega
    ·have hpx:p=x.n:=by omega
     have HQT':Hid (∀(i:Nat) (B:BR),i < k+1→bR[i]?=some B→zeo ls i B):=hide (fun i B hi hB=>by
      by_cases him:i=k
      ·subst him;rw [HBX.out] at hB;cases hB;intro q y hy hyh;exact hq q y (by have:=(List.getElem?_eq_some_iff.1 hy).1; omega) hy hyh
      ·exact HQT.out i B (by omega) hB)
     have HBOX5:=hide hbox5;have HB5:=hide hb5;clear hq hbox5 hb5;go_wp2
     go_roundw
     case rel=>exact ⟨k+1,by omega,by go_num,HQT'.out,HBOX5.out,HB5.out⟩
     case measure=>simp [intOf]; omega
  ·have hkn:k=bn:=by omega
   have HP:Hid (Quiet bR ls):=hide (fun i B hB=>hqt i B (by have:=(List.getElem?_eq_some_iff.1 hB).1; omega) hB);clear hqt;subst hkn;go_wp2;go_ret;exact ⟨true,rfl,zd7 HP.out,hb⟩

theorem zgx (N:NV) (w:World) (h:zag w N) :
  Calls Tryz.prog 56 #[.agg #[.slice N.ba N.bn N.bc,.slice N.la N.ln N.lc,.slice N.sa N.sn N.sc]] w fun e w'=>Says (zcB N.ls N.ss) w e w':=by
 obtain ⟨ba,bn,bc,bs,la,ln,lc,ls,sa,sn,sc,ss⟩:=N;have hS:=h.s;have hls:=h.l.size;have hll:=Nat.le_trans h.l.le h.l.top;have hle:=Nat.le_trans hS.le hS.top;unfold maxLen at hle hll;have hsz:=hS.size;clear h;dsimp only at hS hle hll hls hsz ⊢;generalize hw1:w.alloc (Obj.cells #[.slice ba bn bc,.slice la ln lc,.slice sa sn sc] 31)=w1;have b01:=zb hw1;have k1:=zk hw1;obtain ⟨x0,x1,x2⟩:=zd k1;by_cases s40:(sn:Int) > 40
 ·have HNO:Hid ((false=true)↔zcB ls ss):=hide (zaB fun hp=>by have:=hp.1; omega);go_enter Tryz.func56,Tryz.ntmps56;go_wp2;go_ret;exact ⟨false,rfl,HNO.out,b01⟩
 go_enter Tryz.func56,Tryz.ntmps56;go_wp2_with fail
 clear hw1 x0 x1 x2
 go_loopw [12] (fun i wr=>∃k:Nat,k≤sn∧i=.int .i64 k∧(∀y∈ss.take k,SayOk ls y)∧wr.heap[w.heap.size]?=some (.cells #[.slice ba bn bc,.slice la ln lc,.slice sa sn sc] 31)∧Below w.heap.size w wr) (fun i _=>sn - (intOf i).toNat)
 case atStart=>exact ⟨0,Nat.zero_le _,rfl,by intro y hy; simp at hy,k1,b01⟩
 case round =>
  obtain ⟨k,hk,rfl,hss,hbox,hb⟩:=hrel;clear k1 b01;by_cases hlt:k < sn
  ·obtain ⟨y,sb,so,hy,rfl,d0,d1,d2,d3,d4,d5,d6⟩:=zjx (hS.below hb) k hlt;have i1:(0:Int)≤(k:Int):=by omega
   have i2:(k:Int) < (sn:Int):=by omega
   have hmem:=List.mem_of_getElem? hy;have HY:=hide hy;have HSS:=hide hss;generalize hwa:wr.alloc (Obj.cells #[.int .i64 y.l,.bool y.back,.int .i64 y.v.r,.int .i64 y.v.c,.int .i64 y.v.h,.int .i64 y.v.b,.int .i64 y.v.p] 90)=wa;have ba9:=zb hwa;have ka:=zk hwa;have kNe:=za hbox ba9;have b0a:=zc hb ba9;obtain ⟨e0,e1,e2,e3,e4,e5,e6⟩:=zae ka;obtain ⟨x0,x1,x2⟩:=zd kNe;clear hy hss hbox hb;cases h1:(decide (0≤y.l) && decide (y.l≤(ln:Int) - 1))
   ·have HNO:Hid ((false=true)↔zcB ls ss):=hide (zaB fun hp=>by
     have:=(hp.2 y hmem).1
     rw [hls,h1] at this;cases this)
    (go_wp2_with fail);refine (zM y.l 0 ((ln:Int) - 1) _).mono ?_;rintro e w2 ⟨rfl,ew⟩;obtain rfl:=ew.symm;rw [h1];clear h1;go_wp2;go_ret;exact ⟨false,rfl,HNO.out,b0a⟩
   ·(go_wp2_with fail);refine (zM y.l 0 ((ln:Int) - 1) _).mono ?_;rintro e w2 ⟨rfl,ew⟩;obtain rfl:=ew.symm;rw [h1];have H1:=hide h1;clear h1;(go_wp2_with fail);refine (zay y.v.r y.v.c y.v.h y.v.b y.v.p _).mono ?_;rintro e w3 ⟨rfl,hb3⟩;have HK:=hide (za kNe hb3);have HB:=hide (zc b0a hb3);clear hb3 kNe b0a ba9 ka hwa e0 e1 e2 e3 e4 e5 e6 x0 x1 x2 d0 d1 d2 d3 d4 d5 d6;cases h2:okVc y.v.r y.v.c y.v.h y.v.b y.v.p
    ·have HNO:Hid ((false=true)↔zcB ls ss):=hide (zaB fun hp=>by
      have:=(hp.2 y hmem).2
      unfold okVd at this;rw [h2] at this;cases this)
     go_wp2;go_ret;exact ⟨false,rfl,HNO.out,HB.out⟩
    ·have HYES:=hide (zbB HY.out HSS.out (P:=SayOk ls) ⟨by rw [hls]; exact H1.out,h2⟩);go_wp2
     go_roundw
     case rel=>exact ⟨k+1,by omega,by go_num,HYES.out,HK.out,HB.out⟩
     case measure=>simp [intOf]; omega
  ·have hkn:k=sn:=by omega
   rw [List.take_of_length_le (by omega)] at hss;have HP:Hid (zcB ls ss):=hide ⟨by omega,hss⟩;clear hss;subst hkn;go_wp2;go_ret;exact ⟨true,rfl,zd7 HP.out,hb⟩

theorem zfR (N:NV) (w:World) (h:zag w N) (hm:∀x∈N.bs,x.fn≤16777216) (hR:∀x∈N.bs,∀r∈x.B.v.rows,r.Rng) :
  Calls Tryz.prog 17 #[.agg #[.slice N.ba N.bn N.bc,.slice N.la N.ln N.lc,.slice N.sa N.sn N.sc]] w fun e w'=>Says (NetOk N.brs N.ls N.ss) w e w':=by
 generalize hw1:w.alloc (Obj.cells #[.slice N.ba N.bn N.bc,.slice N.la N.ln N.lc,.slice N.sa N.sn N.sc] 31)=w1;have b01:=zb hw1;have k1:=zk hw1;obtain ⟨x0,x1,x2⟩:=zd k1;have kNe:=k1;have b:=b01;clear k1 b01;go_enter Tryz.func17,Tryz.ntmps17;go_wp2_with fail
 refine (zeC N.ba N.bn N.bc N.bs _ (h.b.below b) (fun x hx=>(h.item x hx).below b) hm hR).mono ?_;rintro e v0 ⟨q0,rfl,hq0,hb0⟩;have kNe:=za kNe hb0;have b:=zc b hb0;have HQ0:=hide hq0;clear hq0 hb0 x0 x1 x2;obtain ⟨x0,x1,x2⟩:=zd kNe;cases q0
 ·have HNO:Hid ((false=true)↔NetOk N.brs N.ls N.ss):=hide (zaB fun hp=>by have:=HQ0.out.2 hp.1; cases this);go_wp2;go_ret;exact ⟨false,rfl,HNO.out,b⟩
 ·have HT0:Hid (zaC N.brs):=hide (HQ0.out.1 rfl);clear HQ0;(go_wp2_with fail);refine (zfQ N _ (h.below b)).mono ?_;rintro e v1 ⟨q1,rfl,hq1,hb1⟩;have kNe:=za kNe hb1;have b:=zc b hb1;have HQ1:=hide hq1;clear hq1 hb1 x0 x1 x2;obtain ⟨x0,x1,x2⟩:=zd kNe;cases q1
  ·have HNO:Hid ((false=true)↔NetOk N.brs N.ls N.ss):=hide (zaB fun hp=>by have:=HQ1.out.2 hp.2.1; cases this);go_wp2;go_ret;exact ⟨false,rfl,HNO.out,b⟩
  ·have HT1:Hid (zaQ N.brs N.ls):=hide (HQ1.out.1 rfl);clear HQ1;(go_wp2_with fail);refine (zeE N _ (h.below b)).mono ?_;rintro e v2 ⟨q2,rfl,hq2,hb2⟩;have kNe:=za kNe hb2;have b:=zc b hb2;have HQ2:=hide hq2;clear hq2 hb2 x0 x1 x2;obtain ⟨x0,x1,x2⟩:=zd kNe;cases q2
   ·have HNO:Hid ((false=true)↔NetOk N.brs N.ls N.ss):=hide (zaB fun hp=>by have:=HQ2.out.2 hp.2.2.1; cases this);go_wp2;go_ret;exact ⟨false,rfl,HNO.out,b⟩
   ·have HT2:Hid (Quiet N.brs N.ls):=hide (HQ2.out.1 rfl);clear HQ2;(go_wp2_with fail);refine (zgx N _ (h.below b)).mono ?_;rintro e v3 ⟨q3,rfl,hq3,hb3⟩;have kNe:=za kNe hb3;have b:=zc b hb3;have HQ3:=hide hq3;clear hq3 hb3 x0 x1 x2;obtain ⟨x0,x1,x2⟩:=zd kNe;cases q3
    ·have HNO:Hid ((false=true)↔NetOk N.brs N.ls N.ss):=hide (zaB fun hp=>by have:=HQ3.out.2 hp.2.2.2; cases this);go_wp2;go_ret;exact ⟨false,rfl,HNO.out,b⟩
    ·have HP:Hid (NetOk N.brs N.ls N.ss):=hide ⟨HT0.out,HT1.out,HT2.out,HQ3.out.1 rfl⟩;go_wp2;go_ret;exact ⟨true,rfl,zd7 HP.out,b⟩

end Go.Proofs.YtkoekkjfcaiagaaGreat
