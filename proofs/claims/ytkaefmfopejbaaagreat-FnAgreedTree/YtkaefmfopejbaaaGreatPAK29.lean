/-
  Packed: NetOkK JoinX RootI.
-/
import Derived.Test.YtkaefmfopejbaaaGreatPAJoinR
import Derived.Test.YtkaefmfopejbaaaGreatPAK28
namespace Go.Proofs.YtkaefmfopejbaaaGreat
set_option maxRecDepth 100000
set_option maxHeartbeats 16000000
open Go.RowKit

theorem zfo (N:NV) (w:World) (h:zaa w N) :
  Calls Tryz.prog 85 #[.agg #[.slice N.ba N.bn N.bc,.slice N.la N.ln N.lc,.slice N.sa N.sn N.sc]] w fun e w'=>Says (Quiet N.brs N.ls) w e w':=by
 obtain ⟨ba,bn,bc,bs,la,ln,lc,ls,sa,sn,sc,ss⟩:=N;have hG:=h.b;have hle:=Nat.le_trans hG.le hG.top;unfold maxLen at hle;have hsz:=hG.size;have hat:∀{i:Nat} {x:BV},bs[i]? = some x→(bs.map BV.B)[i]? = some x.B:=fun hx=>by rw [List.getElem?_map,hx]; rfl
 have hlen:(bs.map BV.B).length=bn:=by simp; exact hsz
 have hitem:∀x∈bs,x.Reads w:=h.item;have HH:=hide h;clear h;generalize hbR:NV.brs ⟨ba,bn,bc,bs,la,ln,lc,ls,sa,sn,sc,ss⟩=bR;have hbR':bs.map BV.B=bR:=hbR;rw [hbR'] at hat hlen;clear hbR hbR';dsimp only at hG hle hsz ⊢;generalize hw1:w.alloc (Obj.cells #[.slice ba bn bc,.slice la ln lc,.slice sa sn sc] 28)=w1;have b01:=zb hw1;have k1:=zk hw1;obtain ⟨x0,x1,x2⟩:=zd k1;go_enter Tryz.func85,Tryz.ntmps85;go_wp2_with fail
 clear hw1 x0 x1 x2
 go_loopw [13] (fun i wr=>∃k:Nat,k≤bn∧i=.int .i64 k∧(∀(i:Nat) (B:BR),i < k→bR[i]? = some B→ze3 ls i B)∧wr.heap[w.heap.size]? = some (.cells #[.slice ba bn bc,.slice la ln lc,.slice sa sn sc] 28)∧Below w.heap.size w wr) (fun i _=>bn - (intOf i).toNat)
 case atStart=>exact ⟨0,Nat.zero_le _,rfl,by intro i B hi; omega,k1,b01⟩
 case round =>
  obtain ⟨k,hk,rfl,hqt,hbox,hb⟩:=hrel;clear k1 b01;by_cases hlt:k < bn
  ·obtain ⟨x,bb,off,hx,rfl,ca0,ca1,ca2,ca3,ca4,ca5,ca6,ca7,ca8,ca9,ca10⟩:=br_at (hG.below hb) k hlt;have hrow:=hitem x (List.mem_of_getElem? hx);have hpl:=Nat.le_trans hrow.ports.le hrow.ports.top;unfold maxLen at hpl;have hps:=hrow.ports.size;have i1:(0:Int)≤(k:Int):=by omega
   have i2:(k:Int) < (bn:Int):=by omega
   have HBX:=hide (hat hx);have HQT:=hide hqt;generalize hwa:wr.alloc (Obj.cells #[.int .i64 x.B.id,.string x.B.name,.slice x.a x.n x.c,.slice x.fa x.fn x.fc,.slice x.ra x.rn x.rc,.slice x.oa x.on x.oc,.int .i64 x.B.ticks,.int .i64 x.B.parse,.int .i64 x.B.word,.int .i64 x.B.drops,.int .i64 x.B.vers] 44)=wa;have ba9:=zb hwa;have ka:=zk hwa;have kNe:=za hbox ba9;have b0a:=zc hb ba9;obtain ⟨c0,c1,c2,c3,c4,c5,c6,c7,c8,c9,c10⟩:=zx ka;clear hx hqt hbox;(go_wp2_with fail);clear c0 c1 c2 c3 c4 c5 c6 c7 c8 c9 c10 ca0 ca1 ca2 ca3 ca4 ca5 ca6 ca7 ca8 ca9 ca10 ka ba9 hwa hb
   go_loopw [21] (fun i wr=>∃p:Nat,p≤x.n∧i=.int .i64 p∧(∀(i:Nat) (y:PT),i < p→x.B.ports[i]? = some y→y.has=true→usedL ls (k:Int) (i:Int)≠0)∧wr.heap[w.heap.size]? = some (.cells #[.slice (some ⟨bb,off,none⟩) bn bc,.slice la ln lc,.slice sa sn sc] 28)∧Below w.heap.size w wr) (fun i _=>x.n - (intOf i).toNat)
   case atStart=>exact ⟨0,Nat.zero_le _,rfl,by intro i y hi; omega,kNe,b0a⟩
   case round =>
    obtain ⟨p,hp,rfl,hq,hbox5,hb5⟩:=hrel;clear kNe b0a;by_cases hpn:p < x.n
    ·obtain ⟨y,pb,po,hy,hpa,d0,d1,d2,d3,d4,d5,d6,d7⟩:=pt_at (hrow.ports.below hb5) p hpn;obtain ⟨xa,xn,xc,xfa,xfn,xfc,xra,xrn,xrc,xoa,xon,xoc,xB⟩:=x;dsimp only at hpa hpn hp hrow hpl hps HBX hq hy ⊢;subst hpa;have i3:(0:Int)≤(p:Int):=by omega
     have i4:(p:Int) < (xn:Int):=by omega
     have HQ:=hide hq;have HY:=hide hy;generalize hwb:wr.alloc (Obj.cells #[.bool y.up,.int .i64 y.k,.bool y.has,.int .i64 y.v.r,.int .i64 y.v.c,.int .i64 y.v.h,.int .i64 y.v.b,.int .i64 y.v.p] 53)=wb;have bb9:=zb hwb;have kp:=zk hwb;have kNe:=za hbox5 bb9;have b0b:=zc hb5 bb9;obtain ⟨x0,x1,x2⟩:=zd kNe;clear hq hy hbox5;(go_wp2_with fail);refine (zfZ ⟨some ⟨bb,off,none⟩,bn,bc,bs,la,ln,lc,ls,sa,sn,sc,ss⟩ (k:Int) (p:Int) _ (HH.out.below b0b)).mono ?_;rintro e w6 ⟨rfl,hb6⟩;have kNe:=za kNe hb6;have kp:=za kp hb6;have b06:=zc b0b hb6;generalize hRR:wr.heap.size=G at *;clear x0 x1 x2 d0 d1 d2 d3 d4 d5 d6 d7 hwb bb9 b0b hb6 hb5;obtain ⟨o0,o1,o2,o3,o4,o5,o6,o7⟩:=zcn kp;dsimp only;have hBU:=zif ls (k:Int) (p:Int);have HKN:=hide kNe;cases hh:y.has
     ·rw [hh] at o2;have HNX:Hid (∀(i:Nat) (z:PT),i < p+1→xB.ports[i]? = some z→z.has=true→usedL ls (k:Int) (i:Int)≠0):=hide (fun i z hi hz hzh=>by
       by_cases hip:i=p
       ·subst hip; rw [HY.out] at hz; cases hz; rw [hh] at hzh; cases hzh
       ·exact HQ.out i z (by omega) hz hzh)
      obtain ⟨t1,t2,t3,hT⟩:∃(x y:Int) (z:Bool),zgH (zbJ ls (k:Int) (p:Int))=.tuple #[.int .i64 x,.int .i64 y,.bool z]:=by
       cases zbJ ls (k:Int) (p:Int) with
       | none=>exact ⟨_,_,_,rfl⟩
       | some q=>exact ⟨_,_,_,rfl⟩
      rw [hT];clear hT hBU kNe;go_wp2
      go_roundw
      case rel=>exact ⟨p+1,by omega,by go_num,HNX.out,HKN.out,b06⟩
      case measure=>simp [intOf]; omega
     ·rw [hh] at o2;cases hBS:zbJ ls (k:Int) (p:Int) with
      | none =>
       have hu:=hBU.1 hBS;have HNO:Hid ((false=true)↔Quiet bR ls):=hide (zaD fun hp=>hp k _ HBX.out p y HY.out hh hu);clear hBU hu kNe hBS;unfold zgH;dsimp only;go_wp2;go_ret;exact ⟨false,rfl,HNO.out,b06⟩
      | some q =>
       have hu:¬usedL ls (k:Int) (p:Int)=0:=fun e=>by rw [hBU.2 e] at hBS; cases hBS
       have HNX:Hid (∀(i:Nat) (z:PT),i < p+1→xB.ports[i]? = some z→z.has=true→usedL ls (k:Int) (i:Int)≠0):=hide (fun i z hi hz hzh=>by
        by_cases hip:i=p
        ·subst hip; exact hu
        ·exact HQ.out i z (by omega) hz hzh)
       clear hBU hu kNe hBS;obtain ⟨qa,qb⟩:=q;unfold zgH;dsimp only;go_wp2
       go_roundw
       case rel=>exact ⟨p+1,by omega,by go_num,HNX.out,HKN.out,b06⟩
       case measure=>simp [intOf]; omega
    ·have hpx:p=x.n:=by omega
     have HQT':Hid (∀(i:Nat) (B:BR),i < k+1→bR[i]? = some B→ze3 ls i B):=hide (fun i B hi hB=>by
      by_cases him:i=k
      ·subst him;rw [HBX.out] at hB;cases hB;intro q y hy hyh;exact hq q y (by have:=(List.getElem?_eq_some_iff.1 hy).1; omega) hy hyh
      ·exact HQT.out i B (by omega) hB)
     have HBOX5:=hide hbox5;have HB5:=hide hb5;clear hq hbox5 hb5;go_wp2
     go_roundw
     case rel=>exact ⟨k+1,by omega,by go_num,HQT'.out,HBOX5.out,HB5.out⟩
     case measure=>simp [intOf]; omega
  ·have hkn:k=bn:=by omega
   have HP:Hid (Quiet bR ls):=hide (fun i B hB=>hqt i B (by have:=(List.getElem?_eq_some_iff.1 hB).1; omega) hB);clear hqt;subst hkn;go_wp2;go_ret;exact ⟨true,rfl,zeE HP.out,hb⟩

theorem zhC (N:NV) (w:World) (h:zaa w N) :
  Calls Tryz.prog 86 #[.agg #[.slice N.ba N.bn N.bc,.slice N.la N.ln N.lc,.slice N.sa N.sn N.sc]] w fun e w'=>Says (zcW N.ls N.ss) w e w':=by
 obtain ⟨ba,bn,bc,bs,la,ln,lc,ls,sa,sn,sc,ss⟩:=N;have hS:=h.s;have hls:=h.l.size;have hll:=Nat.le_trans h.l.le h.l.top;have hle:=Nat.le_trans hS.le hS.top;unfold maxLen at hle hll;have hsz:=hS.size;clear h;dsimp only at hS hle hll hls hsz ⊢;generalize hw1:w.alloc (Obj.cells #[.slice ba bn bc,.slice la ln lc,.slice sa sn sc] 28)=w1;have b01:=zb hw1;have k1:=zk hw1;obtain ⟨x0,x1,x2⟩:=zd k1;by_cases s40:(sn:Int) > 40
 ·have HNO:Hid ((false=true)↔zcW ls ss):=hide (zaD fun hp=>by have:=hp.1; omega);go_enter Tryz.func86,Tryz.ntmps86;go_wp2;go_ret;exact ⟨false,rfl,HNO.out,b01⟩
 go_enter Tryz.func86,Tryz.ntmps86;go_wp2_with fail
 clear hw1 x0 x1 x2
 go_loopw [12] (fun i wr=>∃k:Nat,k≤sn∧i=.int .i64 k∧(∀y∈ss.take k,SayOk ls y)∧wr.heap[w.heap.size]? = some (.cells #[.slice ba bn bc,.slice la ln lc,.slice sa sn sc] 28)∧Below w.heap.size w wr) (fun i _=>sn - (intOf i).toNat)
 case atStart=>exact ⟨0,Nat.zero_le _,rfl,by intro y hy; simp at hy,k1,b01⟩
 case round =>
  obtain ⟨k,hk,rfl,hss,hbox,hb⟩:=hrel;clear k1 b01;by_cases hlt:k < sn
  ·obtain ⟨y,sb,so,hy,rfl,d0,d1,d2,d3,d4,d5,d6⟩:=zlj (hS.below hb) k hlt;have i1:(0:Int)≤(k:Int):=by omega
   have i2:(k:Int) < (sn:Int):=by omega
   have hmem:=List.mem_of_getElem? hy;have HY:=hide hy;have HSS:=hide hss;generalize hwa:wr.alloc (Obj.cells #[.int .i64 y.l,.bool y.back,.int .i64 y.v.r,.int .i64 y.v.c,.int .i64 y.v.h,.int .i64 y.v.b,.int .i64 y.v.p] 99)=wa;have ba9:=zb hwa;have ka:=zk hwa;have kNe:=za hbox ba9;have b0a:=zc hb ba9;obtain ⟨e0,e1,e2,e3,e4,e5,e6⟩:=zag ka;obtain ⟨x0,x1,x2⟩:=zd kNe;clear hy hss hbox hb;cases h1:(decide (0≤y.l) && decide (y.l≤(ln:Int) - 1))
   ·have HNO:Hid ((false=true)↔zcW ls ss):=hide (zaD fun hp=>by
     have:=(hp.2 y hmem).1
     rw [hls,h1] at this;cases this)
    (go_wp2_with fail);refine (zP y.l 0 ((ln:Int) - 1) _).mono ?_;rintro e w2 ⟨rfl,ew⟩;obtain rfl:=ew.symm;rw [h1];clear h1;go_wp2;go_ret;exact ⟨false,rfl,HNO.out,b0a⟩
   ·(go_wp2_with fail);refine (zP y.l 0 ((ln:Int) - 1) _).mono ?_;rintro e w2 ⟨rfl,ew⟩;obtain rfl:=ew.symm;rw [h1];have H1:=hide h1;clear h1;(go_wp2_with fail);refine (zaA y.v.r y.v.c y.v.h y.v.b y.v.p _).mono ?_;rintro e w3 ⟨rfl,hb3⟩;have HK:=hide (za kNe hb3);have HB:=hide (zc b0a hb3);clear hb3 kNe b0a ba9 ka hwa e0 e1 e2 e3 e4 e5 e6 x0 x1 x2 d0 d1 d2 d3 d4 d5 d6;cases h2:okVc y.v.r y.v.c y.v.h y.v.b y.v.p
    ·have HNO:Hid ((false=true)↔zcW ls ss):=hide (zaD fun hp=>by
      have:=(hp.2 y hmem).2
      unfold okVd at this;rw [h2] at this;cases this)
     go_wp2;go_ret;exact ⟨false,rfl,HNO.out,HB.out⟩
    ·have HYES:=hide (zbM HY.out HSS.out (P:=SayOk ls) ⟨by rw [hls]; exact H1.out,h2⟩);go_wp2
     go_roundw
     case rel=>exact ⟨k+1,by omega,by go_num,HYES.out,HK.out,HB.out⟩
     case measure=>simp [intOf]; omega
  ·have hkn:k=sn:=by omega
   rw [List.take_of_length_le (by omega)] at hss;have HP:Hid (zcW ls ss):=hide ⟨by omega,hss⟩;clear hss;subst hkn;go_wp2;go_ret;exact ⟨true,rfl,zeE HP.out,hb⟩

theorem zgS (N:NV) (w:World) (h:zaa w N) (hm:∀x∈N.bs,x.fn≤16777216) (hR:∀x∈N.bs,∀r∈x.B.v.rows,r.Rng) :
  Calls Tryz.prog 48 #[.agg #[.slice N.ba N.bn N.bc,.slice N.la N.ln N.lc,.slice N.sa N.sn N.sc]] w fun e w'=>Says (NetOk N.brs N.ls N.ss) w e w':=by
 generalize hw1:w.alloc (Obj.cells #[.slice N.ba N.bn N.bc,.slice N.la N.ln N.lc,.slice N.sa N.sn N.sc] 28)=w1;have b01:=zb hw1;have k1:=zk hw1;obtain ⟨x0,x1,x2⟩:=zd k1;have kNe:=k1;have b:=b01;clear k1 b01;go_enter Tryz.func48,Tryz.ntmps48;go_wp2_with fail
 refine (zfm N.ba N.bn N.bc N.bs _ (h.b.below b) (fun x hx=>(h.item x hx).below b) hm hR).mono ?_;rintro e v0 ⟨q0,rfl,hq0,hb0⟩;have kNe:=za kNe hb0;have b:=zc b hb0;have HQ0:=hide hq0;clear hq0 hb0 x0 x1 x2;obtain ⟨x0,x1,x2⟩:=zd kNe;cases q0
 ·have HNO:Hid ((false=true)↔NetOk N.brs N.ls N.ss):=hide (zaD fun hp=>by have:=HQ0.out.2 hp.1; cases this);go_wp2;go_ret;exact ⟨false,rfl,HNO.out,b⟩
 ·have HT0:Hid (zaE N.brs):=hide (HQ0.out.1 rfl);clear HQ0;(go_wp2_with fail);refine (zgQ N _ (h.below b)).mono ?_;rintro e v1 ⟨q1,rfl,hq1,hb1⟩;have kNe:=za kNe hb1;have b:=zc b hb1;have HQ1:=hide hq1;clear hq1 hb1 x0 x1 x2;obtain ⟨x0,x1,x2⟩:=zd kNe;cases q1
  ·have HNO:Hid ((false=true)↔NetOk N.brs N.ls N.ss):=hide (zaD fun hp=>by have:=HQ1.out.2 hp.2.1; cases this);go_wp2;go_ret;exact ⟨false,rfl,HNO.out,b⟩
  ·have HT1:Hid (zaS N.brs N.ls):=hide (HQ1.out.1 rfl);clear HQ1;(go_wp2_with fail);refine (zfo N _ (h.below b)).mono ?_;rintro e v2 ⟨q2,rfl,hq2,hb2⟩;have kNe:=za kNe hb2;have b:=zc b hb2;have HQ2:=hide hq2;clear hq2 hb2 x0 x1 x2;obtain ⟨x0,x1,x2⟩:=zd kNe;cases q2
   ·have HNO:Hid ((false=true)↔NetOk N.brs N.ls N.ss):=hide (zaD fun hp=>by have:=HQ2.out.2 hp.2.2.1; cases this);go_wp2;go_ret;exact ⟨false,rfl,HNO.out,b⟩
   ·have HT2:Hid (Quiet N.brs N.ls):=hide (HQ2.out.1 rfl);clear HQ2;(go_wp2_with fail);refine (zhC N _ (h.below b)).mono ?_;rintro e v3 ⟨q3,rfl,hq3,hb3⟩;have kNe:=za kNe hb3;have b:=zc b hb3;have HQ3:=hide hq3;clear hq3 hb3 x0 x1 x2;obtain ⟨x0,x1,x2⟩:=zd kNe;cases q3
    ·have HNO:Hid ((false=true)↔NetOk N.brs N.ls N.ss):=hide (zaD fun hp=>by have:=HQ3.out.2 hp.2.2.2; cases this);go_wp2;go_ret;exact ⟨false,rfl,HNO.out,b⟩
    ·have HP:Hid (NetOk N.brs N.ls N.ss):=hide ⟨HT0.out,HT1.out,HT2.out,HQ3.out.1 rfl⟩;go_wp2;go_ret;exact ⟨true,rfl,zeE HP.out,b⟩

section
open Go.RowKit Go.Maps

theorem zmG (l:List Int):intF.all l=l.map encZ:=by
 induction l with
 | nil=>rfl
 | cons a l ih=>rw [intF.all_cons,ih]; rfl

theorem zl3 (m:Option Nat) (w:World) :
  Calls Tryz.prog 33 #[.map m] w fun e w'=>e=.returned (.func (.func 61) #[] #[.pointer (some ⟨w.heap.size,0,none⟩)])∧w'=w.alloc (.cells #[.map m] 78):=by
 have h:=AnyZI.keys_in Tryz.keysI Fence.wide 5 trivial rfl m w
 change CallsIn _ _ Tryz.prog 33 _ _ _ at h
 exact callsIn_wide.1 h

theorem zmj {w:World} {b n:Nat} {S:List Int} (h:w.ownsMap Tryz.prog 3 (unitElem (H:=Unit)) b n (setI S)) (hn:S.Nodup):S.Perm (intKeys (setI S)):=by
 obtain ⟨es,hD,hpw,-⟩:=h.entries keyI;obtain ⟨es',hD',hko⟩:=h.keysOf;obtain rfl:es=es':=by rw [hD] at hD'; simpa using hD'
 have hh:∀x,x∈S↔has (.map es) (.int .i64 x)=true:=fun x=>by rw [← hD,zd4,List.contains_iff_mem]
 rw [hD];exact perm_intKeys hpw (fun p hp=>by obtain ⟨v,hv⟩:=hko p hp; obtain ⟨x,_,hx,_⟩:=Maps.keyOf_i64 Tryz.underlying3 hv; exact ⟨x,hx⟩) hn hh

theorem za0 (N:NV) (b:Int) (la:Option Addr) (n c:Nat) (l:List Int) (w:World) (h:zaa w N) (hl:GRow intF w la n c l) (hn:n≤1048576) (hbn:N.bn≤1048576) :
  Calls Tryz.prog 15 #[.agg #[.slice N.ba N.bn N.bc,.slice N.la N.ln N.lc,.slice N.sa N.sn N.sc],.int .i64 b,.slice la n c] w fun e w'=>∃ao cap,e=.returned (.slice ao (joined N.bn N.ls b l).length cap)∧w'.ownsRow w.heap.size 3 1 (.slice ao (joined N.bn N.ls b l).length cap) (joined N.bn N.ls b l).length (intF.all (joined N.bn N.ls b l))∧Below w.heap.size w w':=by
 generalize hw1:w.alloc (Obj.cells #[.slice N.ba N.bn N.bc,.slice N.la N.ln N.lc,.slice N.sa N.sn N.sc] 28)=w1;have b01:=zb hw1;have k1:=zk hw1;obtain ⟨x0,x1,x2⟩:=zd k1;go_enter Tryz.func15,Tryz.ntmps15;go_wp2_with fail
 refine (zcY N b _ (h.below b01)).mono ?_;rintro e w2 ⟨v,rfl,hv,hb2⟩;have b02:=zc b01 hb2;have k2:=za k1 hb2;clear x0 x1 x2 hw1 k1 b01 hb2;obtain ⟨x0,x1,x2⟩:=zd k2;cases v with
 | none =>
  have HJ:Hid (joined N.bn N.ls b l=[]):=hide (by unfold joined; rw [hv.1 rfl]; rfl);have HB:=hide b02;clear hv b02;go_wp2;go_ret;exact ⟨none,0,by rw [HJ.out]; rfl,by rw [HJ.out]; exact World.ownsRow_nil _ _ _ _,HB.out⟩
 | some p =>
  have hB:inB N.bn b=true:=by
   cases hc:inB N.bn b
   ·have:=hv.2 hc
    cases this
   ·rfl
  have HIN:=hide hB;clear hv hB;(go_wp2_with fail);refine (zeb N la n c l _ (h.below b02) (hl.below b02) hn).mono ?_;rintro e w3 ⟨cs,ta,tc,hcs,-,-,rfl,hT,hb3⟩;have b03:=zc b02 hb3;have HCS:=hide hcs;have hT2:∀x∈told N.bn N.ls cs,inB N.bn x.a=true∧inB N.bn x.b=true:=fun x hx=>by
   obtain ⟨k,-,-,h1,h2⟩:=zcO.1 hx;exact ⟨h1,h2⟩
  have hGT:=zC (F:=linkF) hT;clear hcs hT x0 x1 x2 k2 hb3 b02;generalize hTT:told N.bn N.ls cs=T at *;have HTT:=hide hTT;clear hTT;generalize T.length=tn at *;(go_wp2_with fail);refine (zdO T N.bn b ta tn tc _ hGT hT2 HIN.out hbn).mono ?_;rintro e w4 ⟨S,rfl,hR,hM,hb4⟩;have b04:=zc b03 hb4;have HR:=hide hR;have HP:=hide (zmj hM hR.good.1);have hlS:=hR.good.len;clear hGT hT2 hb4 b03 hR;(go_wp2_with fail);refine (zl3 _ _).mono ?_;rintro e w5 ⟨rfl,e5⟩;have b45:Below w4.heap.size w4 w5:=by rw [e5]; exact zl _ _
  have k5:w5.heap[w4.heap.size]? = some (.cells #[.map (some w3.heap.size)] 78):=by rw [e5]; exact zy _ _
  have hM5:=zbq hM b45;have b05:=zc b04 b45;have hc5:w5.cell? ⟨w4.heap.size,0,none⟩=some (.map (some w3.heap.size)):=by unfold World.cell?; rw [k5]; rfl
  have hlt5:w4.heap.size < w5.heap.size:=(Array.getElem?_eq_some_iff.1 k5).1;have hgv:=zmS (AnyZI.keys_gives (ρ:=Tryz.keysI_ren) { Tryz.keysI with } Fence.wide 2 trivial rfl (by omega) w4.heap.size w3.heap.size S.length (setI S) w5 hlt5 hc5 hM5);have hsz:∀ss:List Int,ss.Perm (intKeys (setI S))→ss.length≤S.length:=fun ss hss=>by rw [hss.length_eq,HP.out.length_eq]; exact Nat.le_refl _
  have hms:=hM5.size_le;have hgv2:ze2 Fence.wide 2 Tryz.prog 61 #[.pointer (some ⟨w4.heap.size,0,none⟩)] (fun ss=>ss.Perm (intKeys (setI S))) S.length w5:=fun l J W h1 h2 h3 hY h0=>hgv l J W h1 h2 h3 (fun pre x W1 hj hl=>hY pre x W1 hj (Nat.lt_of_lt_of_le hl hms)) h0
  have hS16:S.length≤16777216:=by omega
  have HB5:=hide b05;clear e5 hM k5 b45 b04 hgv hms b05 hc5 hlt5 hM5 hlS;(go_wp2_with fail);refine (zgC 61 _ (enters_of Tryz.func61 (by kernel_rfl) rfl) (fun ss=>ss.Perm (intKeys (setI S))) S.length hsz hS16 w5 hgv2).mono ?_;rintro e w6 ⟨v,ss,rfl,hss,how,-,hb6⟩;have hJ:ss.mergeSort leI=joined N.bn N.ls b l:=by
   rw [mergeSort_of_perm_i (hss.trans HP.out.symm)];exact zgU HCS.out HIN.out (by rw [HTT.out]; exact HR.out)
  have how:w6.ownsRow w5.heap.size 3 1 v ss.length ((ss.mergeSort leI).map encZ):=how;have hL:ss.length=(joined N.bn N.ls b l).length:=by rw [← hJ,List.length_mergeSort]
  rw [hJ,hL,← zmG] at how;obtain ⟨ao,cap,rfl⟩:=zcq how;have HO:=hide (zH how HB5.out.size);have HB:=hide (zc HB5.out hb6);clear how hb6 hJ hL hss hgv2 hsz;go_wp2;go_ret;exact ⟨ao,cap,rfl,HO.out,HB.out⟩

end

def idOf (bs:List BR) (z:Int):Int:=match bs[z.toNat]? with
 | some B=>B.id
 | none=>0
def zbD (bs:List BR) (r:Int) (J:List Int):Nat→Int
 | 0=>r
 | k+1=>match J[k]? with
  | some z=>min (zbD bs r J k) (idOf bs z)
  | none=>zbD bs r J k
def zbI (bs:List BR) (ls:List LK) (nb:Nat) (b:Int):Int:=zbD bs (idOf bs b) (joined nb ls b (upTo bs ls ls.length)) (joined nb ls b (upTo bs ls ls.length)).length

theorem ziO {bs:List BR} {r z:Int} {J:List Int} {k:Nat} (h:J[k]? = some z):zbD bs r J (k+1)=min (zbD bs r J k) (idOf bs z):=by
 rw [zbD,h]

theorem zhZ (bs:List BR) (r:Int) (J:List Int):∀k,zbD bs r J k≤r∧∀j z,j < k→J[j]? = some z→zbD bs r J k≤idOf bs z
 | 0=>⟨Int.le_refl _,fun j z hj=>absurd hj (Nat.not_lt_zero _)⟩
 | k+1=>by
  obtain ⟨h1,h2⟩:=zhZ bs r J k;rw [zbD]
  split
  ·next y hy =>
   refine ⟨by omega,fun j z hj hz => ?_⟩;by_cases e:j=k
   ·subst e;rw [hy] at hz;cases hz;omega
   ·have:=h2 j z (by omega) hz
    omega
  ·next hy =>
   refine ⟨h1,fun j z hj hz => ?_⟩;by_cases e:j=k
   ·subst e;rw [hy] at hz;cases hz
   ·exact h2 j z (by omega) hz

theorem zhY (bs:List BR) (r:Int) (J:List Int):∀k,zbD bs r J k=r∨∃z∈J,zbD bs r J k=idOf bs z
 | 0=>.inl rfl
 | k+1=>by
  have ih:=zhY bs r J k;rw [zbD]
  split
  ·next y hy =>
   by_cases hl:zbD bs r J k≤idOf bs y
   ·rw [Int.min_eq_left hl];exact ih
   ·rw [Int.min_eq_right (by omega)];exact .inr ⟨y,List.mem_of_getElem? hy,rfl⟩
  ·exact ih

theorem zfu {nb:Nat} {ls:List LK} {b:Int} {l:List Int} {z:Int} (h:z∈joined nb ls b l):0≤z∧z < (nb:Int):=by
 unfold joined at h
 split at h
 ·exact (zdj.1 h).2
 ·simp at h

theorem zj0 (nb:Nat) (ls:List LK) (b:Int) (l:List Int):(joined nb ls b l).length≤nb:=by
 unfold joined
 split
 ·exact zjl _ _
 ·simp

theorem zku {N:NV} {k:Nat} {y:BV} (h:N.bs[k]? = some y):idOf N.brs (k:Int)=y.B.id:=by
 have h2:N.brs[k]? = some y.B:=by
  unfold NV.brs;rw [List.getElem?_map,h]
  rfl
 unfold idOf;rw [Int.toNat_natCast,h2]

theorem zfp (N:NV) (u:Nat) (w:World) (h:zaa w N) (hu:u < N.bn) (hbn:N.bn≤1048576) (h20:N.ln≤1048576) :
  Calls Tryz.prog 13 #[.agg #[.slice N.ba N.bn N.bc,.slice N.la N.ln N.lc,.slice N.sa N.sn N.sc],.int .i64 (u:Int)] w fun e w'=>e=.returned (.int .i64 (zbI N.brs N.ls N.bn (u:Int)))∧Below w.heap.size w w':=by
 have hle:=Nat.le_trans h.b.le h.b.top;unfold maxLen at hle;have HLN:=hide h.l.size;generalize hw1:w.alloc (Obj.cells #[.slice N.ba N.bn N.bc,.slice N.la N.ln N.lc,.slice N.sa N.sn N.sc] 28)=w1;have b01:=zb hw1;have k1:=zk hw1;obtain ⟨x0,x1,x2⟩:=zd k1;obtain ⟨y,bb,off,hy,hba,-⟩:=br_at h.b u hu;have HID:=hide (zku hy);have HBA:=hide hba;clear hba;go_enter Tryz.func13,Tryz.ntmps13;go_wp2_with fail
 refine (zbm N u bb off _ hle hu HBA.out).mono ?_;rintro e w2 ⟨rfl,hb2⟩;have b02:=zc b01 hb2;have k2:=za k1 hb2;clear x0 x1 x2 hw1 k1 b01 hb2;obtain ⟨x0,x1,x2⟩:=zd k2;have y0:w2.cell? ⟨bb,off+u*11,none⟩=some (.int .i64 y.B.id):=by
  obtain ⟨y',bb',off',hy',hba',c0,-⟩:=br_at (h.below b02).b u hu;rw [hy] at hy';cases hy';rw [HBA.out] at hba';cases hba';exact c0
 clear x0 x1 x2;have vv:Below w2.heap.size w2 w2.drew:=zq (Below.refl _ _);obtain ⟨x0,x1,x2⟩:=zd k2;go_upto_region 5 with fail
 clear x0 x1 x2 y0;refine wp_region_held_drew (S:=(fun W=>(zcc W w.heap.size 0 (.slice N.ba N.bn N.bc)∧zcc W w.heap.size 1 (.slice N.la N.ln N.lc)∧zcc W w.heap.size 2 (.slice N.sa N.sn N.sc)))) (by kernel_rfl) ((by first | exact HS4.out | exact HS3.out | exact zd (za k2 vv))) (fun hHeld => ?_);refine kK 0 ?_;refine kK 1 ?_;refine kK 2 ?_;refine kK 6 ?_;refine kR 3 fun K hK => ?_
 go_simp;clear hHeld;refine (zcR N _ (h.below (zc b02 vv)) h20).mono ?_;rintro e w3 ⟨ua,uc,rfl,ow,hb3⟩;have b03:=zc (zc b02 vv) hb3;have k3:=za (za k2 vv) hb3;have hUL:(upTo N.brs N.ls N.ln).length≤1048576:=Nat.le_trans (ze0 N.brs N.ls N.ln) h20;have hGU:=zC (F:=intF) ow;have HS3:=hide (zd k3);clear hb3 ow;go_wp2_with fail
 refine kO hK ((by first | exact HS4.out | exact HS3.out | exact zd (za k2 vv))) fun hHeld => ?_
 clear hK K;refine kR 4 fun K hK => ?_
 go_simp;clear hHeld;refine (za0 N (u:Int) ua _ uc (upTo N.brs N.ls N.ln) _ (h.below b03) hGU hUL hbn).mono ?_;rintro e w4 ⟨ja,jc,rfl,ow,hb4⟩;have b04:=zc b03 hb4;have k4:=za k3 hb4;have hGJ:=zC (F:=intF) ow;have HS4:=hide (zd k4);have HJI:Hid (∀z∈joined N.bn N.ls (u:Int) (upTo N.brs N.ls N.ln),0≤z∧z < (N.bn:Int)):=hide (fun z=>zfu);have HJL:Hid ((joined N.bn N.ls (u:Int) (upTo N.brs N.ls N.ln)).length≤N.bn):=hide (zj0 _ _ _ _);have HR:Hid (zbI N.brs N.ls N.bn (u:Int)=zbD N.brs (idOf N.brs (u:Int)) (joined N.bn N.ls (u:Int) (upTo N.brs N.ls N.ln)) (joined N.bn N.ls (u:Int) (upTo N.brs N.ls N.ln)).length):=hide (by unfold zbI; rw [HLN.out]);clear hb4 ow hGU hUL;generalize joined N.bn N.ls (u:Int) (upTo N.brs N.ls N.ln)=J at *;go_wp2_with fail
 refine kO hK ((by first | exact HS4.out | exact HS3.out | exact zd (za k2 vv))) fun hHeld => ?_
 clear hK K;refine kK 5 ?_;refine wpAnyH_done (by kernel_rfl) ?_ _;clear hHeld vv k2 k3 b02 b03 HS3 HS4;rw [HID.out] at HR;generalize hr0:y.B.id=r0 at *;clear hr0;generalize w4=w5 at *;go_wp2_with fail
 go_loopw [6,8,24] (fun r p i wr=>∃k:Nat,k≤J.length∧i=.int .i64 k∧r=.int .i64 (zbD N.brs r0 J k)∧wr.heap[w.heap.size]? = some (.cells #[.slice N.ba N.bn N.bc,.slice N.la N.ln N.lc,.slice N.sa N.sn N.sc] 28)∧Below w5.heap.size w5 wr) (fun _ _ i _=>J.length - (intOf i).toNat)
 case atStart=>exact ⟨0,Nat.zero_le _,rfl,rfl,k4,Below.refl _ _⟩
 case round =>
  obtain ⟨k,hk,rfl,rfl,kP,hb⟩:=hrel;have hjl:=HJL.out;obtain ⟨x0,x1,x2⟩:=zd kP;by_cases hlt:k < J.length
  ·have i1:(0:Int)≤(k:Int):=by omega
   have i2:(k:Int) < (J.length:Int):=by omega
   obtain ⟨z,b,o,hz,rfl,c0⟩:=zkT (hGJ.below hb) k hlt;obtain ⟨j1,j2⟩:=HJI.out z (List.mem_of_getElem? hz);obtain ⟨m,rfl⟩:∃m:Nat,z=(m:Int):=⟨z.toNat,by omega⟩;have hm:m < N.bn:=by omega
   obtain ⟨y',bb',off',hy',hba',d0,-⟩:=br_at (h.below (zc b04 hb)).b m hm;rw [hba'] at x0;have HN:Hid (zbD N.brs r0 J (k+1)=min (zbD N.brs r0 J k) y'.B.id):=hide (by rw [ziO hz,zku hy']);have HP:=hide kP;have HB:=hide hb;clear hz hy' kP hb;go_wp2
   go_roundw
   case rel=>exact ⟨k+1,by omega,by go_num,by rw [HN.out],HP.out,HB.out⟩
   case measure=>simp [intOf]; omega
  ·have e:k=J.length:=by omega
   subst e;have HB:=hide (zc b04 hb);have HR2:=HR;clear HR hb;go_wp2;go_ret;exact ⟨by rw [HR2.out]; rfl,HB.out⟩

end Go.Proofs.YtkaefmfopejbaaaGreat
