/-
  Packed: NetOkS NetOkT NetUpI.
-/
import Derived.Test.YtkcoehmpnkdinaaGreatPNK18
namespace Go.Proofs.YtkcoehmpnkdinaaGreat
set_option maxRecDepth 100000
set_option maxHeartbeats 16000000
open Go.RowKit

theorem bs_at {N:NV} {i:Nat} {y:BR} (hy:N.brs[i]? = some y):∃x,N.bs[i]? = some x∧x.B=y:=by
 unfold NV.brs at hy;rw [List.getElem?_map] at hy;cases hx:N.bs[i]? with
 | none=>rw [hx] at hy; cases hy
 | some x=>rw [hx] at hy; exact ⟨x,rfl,Option.some.inj hy⟩

theorem zaC {P:Prop} (h:¬P):(false=true)↔P:=⟨fun e=>(by cases e),fun p=>absurd p h⟩
theorem zd3 {P:Prop} (h:P):(true=true)↔P:=⟨fun _=>h,fun _=>rfl⟩

theorem zeY (N:NV) (w:World) (h:zas w N) (hsm:N.ln≤16777216) :
  Calls Tryz.prog 38 #[.agg #[.slice N.ba N.bn N.bc,.slice N.la N.ln N.lc,.slice N.sa N.sn N.sc]] w fun e w'=>∃q:Bool,e=.returned (.bool q)∧(q=true↔zaD N.brs∧Quiet N.brs N.ls)∧Below w.heap.size w w':=by
 have hle:=Nat.le_trans h.b.le h.b.top;unfold maxLen at hle;have hsz:=hide h.b.size;go_enter Tryz.func38,Tryz.ntmps38;go_wp2_with fail
 generalize hw1:w.alloc (Obj.cells #[.slice N.ba N.bn N.bc,.slice N.la N.ln N.lc,.slice N.sa N.sn N.sc] 31)=w1;have b01:=zb hw1;have k1:=zk hw1;clear hw1
 go_loopw [3] (fun i wr=>∃k:Nat,k≤N.bn∧i=.int .i64 k∧(∀y∈N.brs.take k,zz y=true)∧(∀(i j:Nat) (x y:BR),i < j→j < k→N.brs[i]? = some x→N.brs[j]? = some y→x.id≠y.id)∧(∀(i:Nat) (B:BR),i < k→N.brs[i]? = some B→zen N.ls i B)∧wr.heap[w.heap.size]? = some (.cells #[.slice N.ba N.bn N.bc,.slice N.la N.ln N.lc,.slice N.sa N.sn N.sc] 31)∧Below w.heap.size w wr) (fun i _=>N.bn - (intOf i).toNat)
 case atStart=>exact ⟨0,Nat.zero_le _,rfl,by intro y hy; simp at hy,by intro i j x y _ hj; omega,by intro i B hi; omega,k1,b01⟩
 case round =>
  obtain ⟨k,hk,rfl,hok,hid,hqt,hbox,hb⟩:=hrel;clear k1 b01;obtain ⟨x0,x1,x2⟩:=zd hbox;by_cases hlt:k < N.bn
  ·obtain ⟨x,bb,off,hx,hba,c0,c1,c2,c3,c4,c5,c6,c7,c8,c9,c10⟩:=br_at (h.b.below hb) k hlt;have hG:GRow brF w (some ⟨bb,off,none⟩) N.bn N.bc N.bs:=by rw [← hba]; exact h.b
   have hrow:=h.item x (List.mem_of_getElem? hx);rw [hba] at x0;have HBA:=hide hba;clear hba;have i1:(0:Int)≤(k:Int):=by omega
   have i2:(k:Int) < (N.bn:Int):=by omega
   have HBX:=hide (zd7 hx);have HX:=hide hx;have HOK:=hide hok;have HID:=hide hid;have HQT:=hide hqt;have HBOX:=hide hbox;have HB:=hide hb;clear hx hok hid hqt hbox;(go_wp2_with fail);refine (zba x.a x.n x.c x.fa x.fn x.fc x.ra x.rn x.rc x.oa x.on x.oc x.B _ (hrow.below hb)).mono ?_;rintro e w2 ⟨rfl,hb2⟩;have hb3:=zc HB.out hb2;have hbox3:=za HBOX.out hb2;clear c0 c1 c2 c3 c4 c5 c6 c7 c8 c9 c10 x0 x1 x2 hb hb2 HB HBOX;cases hB:zz x.B
   ·have HNO:Hid ((false=true)↔zaD N.brs∧Quiet N.brs N.ls):=hide (zaC fun hp=>by have:=hp.1.1 x.B (List.mem_of_getElem? HBX.out); rw [hB] at this; cases this);go_wp2;go_ret;exact ⟨false,rfl,HNO.out,hb3⟩
   ·have HOK':=hide (zbK HBX.out HOK.out hB);(go_wp2_with fail)
    go_loopw [4] (fun i wr=>∃m:Nat,m≤k∧i=.int .i64 m∧(∀(i:Nat) (y:BR),i < m→N.brs[i]? = some y→y.id≠x.B.id)∧wr.heap[w.heap.size]? = some (.cells #[.slice N.ba N.bn N.bc,.slice N.la N.ln N.lc,.slice N.sa N.sn N.sc] 31)∧Below w.heap.size w wr) (fun i _=>k - (intOf i).toNat)
    case atStart=>exact ⟨0,Nat.zero_le _,rfl,by intro i y hi; omega,hbox3,hb3⟩
    case round =>
     obtain ⟨m,hm,rfl,hne,hbox4,hb4⟩:=hrel;clear hbox3 hb3;obtain ⟨x0,x1,x2⟩:=zd hbox4;rw [HBA.out] at x0;by_cases hmk:m < k
     ·obtain ⟨y,hy⟩:∃y,N.bs[m]? = some y:=⟨N.bs[m]'(by have:=hsz.out; omega),List.getElem?_eq_getElem (by have:=hsz.out; omega)⟩;have cx:=(zao hG hb4 HX.out).1;have cy:=(zao hG hb4 hy).1;have i3:(0:Int)≤(m:Int):=by omega
      have i4:(m:Int) < (N.bn:Int):=by omega
      have i5:(m:Int) < (k:Int):=by omega
      have HY:=hide (zd7 hy);have HB4:=hide (zr hb4);have HBOX4:Hid (wr.drew.heap[w.heap.size]? = some (.cells #[.slice N.ba N.bn N.bc,.slice N.la N.ln N.lc,.slice N.sa N.sn N.sc] 31)):=hide hbox4;have HNE:=hide hne;clear hy hne hb4 hbox4;by_cases he:y.B.id=x.B.id
      ·have HNO:Hid ((false=true)↔zaD N.brs∧Quiet N.brs N.ls):=hide (zaC fun hp=>absurd he (hp.1.2.1 m k _ _ hmk HY.out HBX.out));(go_wp2_with fail)
       go_region
       go_wp2;go_ret;exact ⟨false,rfl,HNO.out,HB4.out⟩
      ·have HNX:Hid (∀(i:Nat) (z:BR),i < m+1→N.brs[i]? = some z→z.id≠x.B.id):=hide (fun i z hi hz=>by
        by_cases him:i=m
        ·subst him; rw [HY.out] at hz; cases hz; exact he
        ·exact HNE.out i z (by omega) hz)
       (go_wp2_with fail)
       go_region
       go_wp2
       go_roundw
       case rel=>exact ⟨m+1,by omega,by go_num,HNX.out,HBOX4.out,HB4.out⟩
       case measure=>simp [intOf]; omega
     ·have hmk':m=k:=by omega
      subst hmk';have HID':Hid (∀(i j:Nat) (u v:BR),i < j→j < m+1→N.brs[i]? = some u→N.brs[j]? = some v→u.id≠v.id):=hide (fun i j u v hij hj hu hv=>by
       by_cases hjm:j=m
       ·subst hjm; rw [HBX.out] at hv; cases hv; exact hne i u hij hu
       ·exact HID.out i j u v hij (by omega) hu hv)
      have hpl:=Nat.le_trans hrow.ports.le hrow.ports.top;unfold maxLen at hpl;clear hne;(go_wp2_with fail)
      go_loopw [5] (fun i wr=>∃p:Nat,p≤x.n∧i=.int .i64 p∧(∀(i:Nat) (y:PT),i < p→x.B.ports[i]? = some y→y.has=true→usedL N.ls (m:Int) (i:Int)≠0)∧wr.heap[w.heap.size]? = some (.cells #[.slice N.ba N.bn N.bc,.slice N.la N.ln N.lc,.slice N.sa N.sn N.sc] 31)∧Below w.heap.size w wr) (fun i _=>x.n - (intOf i).toNat)
      case atStart=>exact ⟨0,Nat.zero_le _,rfl,by intro i y hi; omega,hbox4,hb4⟩
      case round =>
       obtain ⟨p,hp,rfl,hq,hbox5,hb5⟩:=hrel;clear hbox4 hb4 x0 x1 x2;obtain ⟨x0,x1,x2⟩:=zd hbox5;rw [HBA.out] at x0;have cx:=(zao hG hb5 HX.out).2.2.1;by_cases hpn:p < x.n
       ·obtain ⟨y,pb,po,hy,hpa,-,-,d2,-⟩:=pt_at (hrow.ports.below hb5) p hpn;rw [hpa] at cx;clear hpa;have i3:(0:Int)≤(p:Int):=by omega
        have i4:(p:Int) < (x.n:Int):=by omega
        have HQ:=hide hq;have HBOX5:=hide hbox5;have HY:=hide hy;have HB5:=hide hb5;clear hq hbox5 hy;cases hh:y.has
        ·rw [hh] at d2;have HNX:Hid (∀(i:Nat) (z:PT),i < p+1→x.B.ports[i]? = some z→z.has=true→usedL N.ls (m:Int) (i:Int)≠0):=hide (fun i z hi hz hzh=>by
          by_cases hip:i=p
          ·subst hip; rw [HY.out] at hz; cases hz; rw [hh] at hzh; cases hzh
          ·exact HQ.out i z (by omega) hz hzh)
         clear hb5;go_wp2
         go_roundw
         case rel=>exact ⟨p+1,by omega,by go_num,HNX.out,HBOX5.out,HB5.out⟩
         case measure=>simp [intOf]; omega
        ·rw [hh] at d2;have hN:=h.below hb5;(go_wp2_with fail);refine (zbg ⟨some ⟨bb,off,none⟩,N.bn,N.bc,N.bs,N.la,N.ln,N.lc,N.ls,N.sa,N.sn,N.sc,N.ss⟩ (m:Int) (p:Int) _ ⟨hG.below hb5,hN.item,hN.l,hN.s⟩ hsm).mono ?_;rintro e w6 ⟨rfl,hb6⟩;have hbox6:=za HBOX5.out hb6;have hb7:=zc HB5.out hb6;have hul:=zj5 N.ls (m:Int) (p:Int);rw [h.l.size] at hul;clear x0 x1 x2 d2 cx hb5 hb6 HBOX5 HB5 hN;dsimp only;by_cases hu:usedL N.ls (m:Int) (p:Int)=0
         ·have HNO:Hid ((false=true)↔zaD N.brs∧Quiet N.brs N.ls):=hide (zaC fun hp=>hp.2 m x.B HBX.out p y HY.out hh hu);go_wp2;go_ret;exact ⟨false,rfl,HNO.out,hb7⟩
         ·have hu':¬((usedL N.ls (m:Int) (p:Int):Int)=0):=by omega
          have HNX:Hid (∀(i:Nat) (z:PT),i < p+1→x.B.ports[i]? = some z→z.has=true→usedL N.ls (m:Int) (i:Int)≠0):=hide (fun i z hi hz hzh=>by
           by_cases hip:i=p
           ·subst hip; exact hu
           ·exact HQ.out i z (by omega) hz hzh)
          generalize hU:usedL N.ls (m:Int) (p:Int)=U at *;go_wp2
          go_roundw
          case rel=>exact ⟨p+1,by omega,by go_num,HNX.out,hbox6,hb7⟩
          case measure=>simp [intOf]; omega
       ·have hpx:p=x.n:=by omega
        have HQT':Hid (∀(i:Nat) (B:BR),i < m+1→N.brs[i]? = some B→zen N.ls i B):=hide (fun i B hi hB=>by
         by_cases him:i=m
         ·subst him;rw [HBX.out] at hB;cases hB;intro q y hy hyh;exact hq q y (by have:=(List.getElem?_eq_some_iff.1 hy).1; have:=hrow.ports.size; omega) hy hyh
         ·exact HQT.out i B (by omega) hB)
        have HBOX5:=hide hbox5;have HB5:=hide hb5;clear hq hbox5 hb5;go_wp2
        go_roundw
        case rel=>exact ⟨m+1,by omega,by go_num,HOK'.out,HID'.out,HQT'.out,HBOX5.out,HB5.out⟩
        case measure=>simp [intOf]; omega
  ·have hkn:k=N.bn:=by omega
   have hlen:N.brs.length=N.bn:=by rw [zdS]; exact hsz.out
   rw [List.take_of_length_le (by omega)] at hok;have lt_of:∀{i:Nat} {y:BR},N.brs[i]? = some y→i < k:=fun hy=>by have:=(List.getElem?_eq_some_iff.1 hy).1; omega
   have HP:Hid (((decide (1≤(N.bn:Int)) && decide ((N.bn:Int)≤6))=true)↔zaD N.brs∧Quiet N.brs N.ls):=hide (by
    constructor
    ·intro hq
     simp at hq
     exact ⟨⟨hok,fun i j x y hij hx hy=>hid i j x y hij (lt_of hy) hx hy,by omega,by omega⟩,fun i B hB=>hqt i B (lt_of hB) hB⟩
    ·rintro ⟨⟨-,-,h1,h2⟩,-⟩
     simp
     omega)
   clear hok hid hqt lt_of;subst hkn;(go_wp2_with fail);refine (zh (N.bn:Int) 1 6 _).mono ?_;rintro e w2 ⟨rfl,ew⟩;obtain rfl:=ew.symm;generalize hQ:(decide (1≤(N.bn:Int)) && decide ((N.bn:Int)≤6))=Q at *;go_wp2;go_ret;exact ⟨Q,rfl,HP.out,hb⟩

theorem zid {N:NV} {w:World} (h:zas w N) {b p:Int} {u:PT} (hp:zak N.brs b p=some u):∃(k j bb off pb po n c:Nat),b=(k:Int)∧p=(j:Int)∧k < N.bn∧j < n∧N.ba=some ⟨bb,off,none⟩∧w.cell? ⟨bb,off+k*11+2,none⟩=some (.slice (some ⟨pb,po,none⟩) n c)∧w.cell? ⟨pb,po+j*8,none⟩=some (.bool u.up):=by
 unfold zak at hp
 split at hp
 ·rename_i hc
  obtain ⟨k,rfl⟩:∃k:Nat,b=(k:Int):=⟨b.toNat,by omega⟩;obtain ⟨j,rfl⟩:∃j:Nat,p=(j:Int):=⟨p.toNat,by omega⟩;rw [Int.toNat_natCast,Int.toNat_natCast] at hp;cases hB:N.brs[k]? with
  | none=>rw [hB] at hp; cases hp
  | some B =>
   rw [hB] at hp;have hp:B.ports[j]? = some u:=hp;obtain ⟨x,hx,rfl⟩:=bs_at hB;have hk:k < N.bn:=by have:=(List.getElem?_eq_some_iff.1 hx).1; have:=h.b.size; omega
   obtain ⟨x',bb,off,hx',hba,-,-,c2,-⟩:=br_at h.b k hk;rw [hx] at hx';cases hx';have hr:=h.item x (List.mem_of_getElem? hx);have hj:j < x.n:=by have:=(List.getElem?_eq_some_iff.1 hp).1; have:=hr.ports.size; omega
   obtain ⟨y,pb,po,hy,hpa,d0,-⟩:=pt_at hr.ports j hj;rw [hp] at hy;cases hy;rw [hpa] at c2;exact ⟨k,j,bb,off,pb,po,x.n,x.c,rfl,rfl,hk,hj,hba,c2,d0⟩
 ·cases hp

def Says (P:Prop) (w:World) (e:Ending) (w':World):Prop:=∃q:Bool,e=.returned (.bool q)∧(q=true↔P)∧Below w.heap.size w w'

theorem zjk {bs:List BR} {ls:List LK} {b p:Int} (h:endOk bs ls b p=true):(∃u,zak bs b p=some u)∧usedL ls b p=1:=by
 unfold endOk at h;simp only [Bool.and_eq_true,decide_eq_true_eq] at h;exact ⟨Option.isSome_iff_exists.1 h.1,h.2⟩
theorem zk1 {bs:List BR} {ls:List LK} {b p:Int} (h:endOk bs ls b p=false):¬((∃u,zak bs b p=some u)∧usedL ls b p=1):=by
 rintro ⟨⟨u,hu⟩,h2⟩;unfold endOk at h;rw [hu,h2] at h
 simp at h

theorem zcy (N:NV) (w:World) (h:zas w N) (hsm:N.ln≤16777216) :
  Calls Tryz.prog 15 #[.agg #[.slice N.ba N.bn N.bc,.slice N.la N.ln N.lc,.slice N.sa N.sn N.sc]] w fun e w'=>Says (NetOk N.brs N.ls N.ss) w e w':=by
 have hle:=Nat.le_trans h.s.le h.s.top;unfold maxLen at hle;have hlsz:=hide h.l.size;have hssz:=hide h.s.size;generalize hw1:w.alloc (Obj.cells #[.slice N.ba N.bn N.bc,.slice N.la N.ln N.lc,.slice N.sa N.sn N.sc] 31)=w1;have b01:=zb hw1;have k1:=zk hw1;obtain ⟨x0,x1,x2⟩:=zd k1;go_enter Tryz.func15,Tryz.ntmps15;go_wp2_with fail
 refine (zeY N _ (h.below b01) hsm).mono ?_;rintro e w2 ⟨q,rfl,hq,hb2⟩;have kNe:=za k1 hb2;have b02:=zc b01 hb2;clear x0 x1 x2 k1 b01 hb2 hw1;obtain ⟨x0,x1,x2⟩:=zd kNe;cases q
 ·have HNO:Hid ((false=true)↔NetOk N.brs N.ls N.ss):=hide (zaC fun hp=>by have:=hq.2 ⟨hp.1,hp.2.2.1⟩; cases this);go_wp2;go_ret;exact ⟨false,rfl,HNO.out,b02⟩
 ·have HBR:=hide (hq.1 rfl);clear hq;by_cases l9:(N.ln:Int) > 9
  ·have HNO:Hid ((false=true)↔NetOk N.brs N.ls N.ss):=hide (zaC fun hp=>by have:=hp.2.1.1; have:=hlsz.out; omega);go_wp2;go_ret;exact ⟨false,rfl,HNO.out,b02⟩
  by_cases s40:(N.sn:Int) > 40
  ·have HNO:Hid ((false=true)↔NetOk N.brs N.ls N.ss):=hide (zaC fun hp=>by have:=hp.2.2.2.1; have:=hssz.out; omega);go_wp2;go_ret;exact ⟨false,rfl,HNO.out,b02⟩
  (go_wp2_with fail);clear x0 x1 x2
  go_loopw [3] (fun i wr=>∃k:Nat,k≤N.ln∧i=.int .i64 k∧(∀y∈N.ls.take k,zgm N.brs N.ls y)∧wr.heap[w.heap.size]? = some (.cells #[.slice N.ba N.bn N.bc,.slice N.la N.ln N.lc,.slice N.sa N.sn N.sc] 31)∧Below w.heap.size w wr) (fun i _=>N.ln - (intOf i).toNat)
  case atStart=>exact ⟨0,Nat.zero_le _,rfl,by intro y hy; simp at hy,kNe,b02⟩
  case round =>
   obtain ⟨k,hk,rfl,hlk,hbox,hb⟩:=hrel;clear kNe b02;obtain ⟨x0,x1,x2⟩:=zd hbox;by_cases hlt:k < N.ln
   ·obtain ⟨x,lb,lo,hx,hla,a0,a1,a2,a3⟩:=zaX (h.l.below hb) k hlt;rw [hla] at x1;clear hla;have i1:(0:Int)≤(k:Int):=by omega
    have i2:(k:Int) < (N.ln:Int):=by omega
    have hmem:=List.mem_of_getElem? hx;have HX:=hide hx;have HLK:=hide hlk;generalize hwa:wr.alloc (Obj.cells #[.int .i64 x.a,.int .i64 x.p,.int .i64 x.b,.int .i64 x.q] 44)=wa;have ba:=zb hwa;have kL:=zk hwa;have kNe:=za hbox ba;have ba:=zc hb ba;have vv:Below wa.heap.size wa wa.drew:=zr (Below.refl _ _);clear hx hlk hb hbox;by_cases hab:x.a=x.b
    ·have HNO:Hid ((false=true)↔NetOk N.brs N.ls N.ss):=hide (zaC fun hp=>(hp.2.1.2 x hmem).1.1 hab);have HAB:=hide hab;clear hab;(go_wp2_with fail);have hab:=HAB.out;refine wp_region_held_drew (S:=(fun W=>(zcc W w.heap.size 0 (.slice N.ba N.bn N.bc)∧zcc W w.heap.size 1 (.slice N.la N.ln N.lc)∧zcc W w.heap.size 2 (.slice N.sa N.sn N.sc))∧(zcc W wr.heap.size 0 (.int .i64 x.a)∧zcc W wr.heap.size 1 (.int .i64 x.p)∧zcc W wr.heap.size 2 (.int .i64 x.b)∧zcc W wr.heap.size 3 (.int .i64 x.q)))) (by kernel_rfl) (⟨zd (za kNe vv),zO (za kL vv)⟩) (fun hHeld => ?_);refine kK 0 ?_;refine kK 1 ?_;refine kK 2 ?_;refine kK 3 ?_;refine kV 4 (.bool true) ?_;refine kK 5 ?_;refine kN 6 ?_;refine kN 7 ?_;refine kN 8 ?_;refine kN 9 ?_;refine kN 10 ?_;refine kN 11 ?_;refine kN 12 ?_;refine kK 13 ?_;refine kK 14 ?_;refine kN 15 ?_;refine kN 16 ?_;refine kN 17 ?_;refine kN 18 ?_;refine kN 19 ?_;refine kN 20 ?_;refine kN 21 ?_;refine kK 22 ?_;refine kK 23 ?_;refine kN 24 ?_;refine kN 25 ?_;refine kN 26 ?_;refine kN 27 ?_;refine kN 28 ?_;refine kN 29 ?_;refine kN 30 ?_;refine kN 31 ?_;refine kN 32 ?_;refine kN 33 ?_;refine kN 34 ?_;refine kN 35 ?_;refine kN 36 ?_;refine kN 37 ?_;refine kN 38 ?_;refine kN 39 ?_;refine kN 40 ?_;refine kN 41 ?_;refine kN 42 ?_;refine kN 43 ?_;refine kN 44 ?_;refine kN 45 ?_;refine kN 46 ?_;refine kN 47 ?_;refine kN 48 ?_;refine kK 49 ?_;refine wpAnyH_done (by kernel_rfl) ?_ _;have HB:=hide (zc ba vv);clear hHeld vv kNe kL;go_wp2;go_ret;exact ⟨false,rfl,HNO.out,HB.out⟩
    ·cases h1:endOk N.brs N.ls x.a x.p
     ·have HNO:Hid ((false=true)↔NetOk N.brs N.ls N.ss):=hide (zaC fun hp=>by
       have hl:=hp.2.1.2 x hmem;obtain ⟨u,v,hu,-⟩:=hl.1.2;exact zk1 h1 ⟨⟨u,hu⟩,hl.2.1⟩)
      (go_wp2_with fail);refine wp_region_held_drew (S:=(fun W=>(zcc W w.heap.size 0 (.slice N.ba N.bn N.bc)∧zcc W w.heap.size 1 (.slice N.la N.ln N.lc)∧zcc W w.heap.size 2 (.slice N.sa N.sn N.sc))∧(zcc W wr.heap.size 0 (.int .i64 x.a)∧zcc W wr.heap.size 1 (.int .i64 x.p)∧zcc W wr.heap.size 2 (.int .i64 x.b)∧zcc W wr.heap.size 3 (.int .i64 x.q)))) (by kernel_rfl) (⟨zd (za kNe vv),zO (za kL vv)⟩) (fun hHeld => ?_);refine kK 0 ?_;refine kK 1 ?_;refine kK 2 ?_;refine kK 3 ?_;refine kV 4 (.bool false) ?_;refine kK 5 ?_;refine kK 6 ?_;refine kK 7 ?_;refine kK 8 ?_;refine kK 9 ?_;refine kK 10 ?_;refine kR 11 fun K hK => ?_
      go_simp;refine (zb0 N x.a x.p _ (h.below (zc ba vv)) hsm).mono ?_;rintro r wz ⟨rfl,hbz⟩;rw [h1];have vv:=zc vv hbz;(go_wp2_with fail);refine kO hK (⟨zd (za kNe vv),zO (za kL vv)⟩) fun hHeld => ?_
      clear hK K;refine kK 12 ?_;refine kK 13 ?_;refine kK 14 ?_;refine kN 15 ?_;refine kN 16 ?_;refine kN 17 ?_;refine kN 18 ?_;refine kN 19 ?_;refine kN 20 ?_;refine kN 21 ?_;refine kK 22 ?_;refine kK 23 ?_;refine kN 24 ?_;refine kN 25 ?_;refine kN 26 ?_;refine kN 27 ?_;refine kN 28 ?_;refine kN 29 ?_;refine kN 30 ?_;refine kN 31 ?_;refine kN 32 ?_;refine kN 33 ?_;refine kN 34 ?_;refine kN 35 ?_;refine kN 36 ?_;refine kN 37 ?_;refine kN 38 ?_;refine kN 39 ?_;refine kN 40 ?_;refine kN 41 ?_;refine kN 42 ?_;refine kN 43 ?_;refine kN 44 ?_;refine kN 45 ?_;refine kN 46 ?_;refine kN 47 ?_;refine kN 48 ?_;refine kK 49 ?_;refine wpAnyH_done (by kernel_rfl) ?_ _;have HB:=hide (zc ba vv);clear hHeld vv kNe kL;go_wp2;go_ret;exact ⟨false,rfl,HNO.out,HB.out⟩
     ·cases h2:endOk N.brs N.ls x.b x.q
      ·have HNO:Hid ((false=true)↔NetOk N.brs N.ls N.ss):=hide (zaC fun hp=>by
        have hl:=hp.2.1.2 x hmem;obtain ⟨u,v,-,hv,-⟩:=hl.1.2;exact zk1 h2 ⟨⟨v,hv⟩,hl.2.2⟩)
       (go_wp2_with fail);refine wp_region_held_drew (S:=(fun W=>(zcc W w.heap.size 0 (.slice N.ba N.bn N.bc)∧zcc W w.heap.size 1 (.slice N.la N.ln N.lc)∧zcc W w.heap.size 2 (.slice N.sa N.sn N.sc))∧(zcc W wr.heap.size 0 (.int .i64 x.a)∧zcc W wr.heap.size 1 (.int .i64 x.p)∧zcc W wr.heap.size 2 (.int .i64 x.b)∧zcc W wr.heap.size 3 (.int .i64 x.q)))) (by kernel_rfl) (⟨zd (za kNe vv),zO (za kL vv)⟩) (fun hHeld => ?_);refine kK 0 ?_;refine kK 1 ?_;refine kK 2 ?_;refine kK 3 ?_;refine kV 4 (.bool false) ?_;refine kK 5 ?_;refine kK 6 ?_;refine kK 7 ?_;refine kK 8 ?_;refine kK 9 ?_;refine kK 10 ?_;refine kR 11 fun K hK => ?_
       go_simp;refine (zb0 N x.a x.p _ (h.below (zc ba vv)) hsm).mono ?_;rintro r wz ⟨rfl,hbz⟩;rw [h1];have vv:=zc vv hbz;(go_wp2_with fail);refine kO hK (⟨zd (za kNe vv),zO (za kL vv)⟩) fun hHeld => ?_
       clear hK K;refine kK 12 ?_;refine kK 13 ?_;refine kK 14 ?_;refine kK 15 ?_;refine kK 16 ?_;refine kK 17 ?_;refine kK 18 ?_;refine kK 19 ?_;refine kR 20 fun K hK => ?_
       go_simp;refine (zb0 N x.b x.q _ (h.below (zc ba vv)) hsm).mono ?_;rintro r wz ⟨rfl,hbz⟩;rw [h2];have vv:=zc vv hbz;(go_wp2_with fail);refine kO hK (⟨zd (za kNe vv),zO (za kL vv)⟩) fun hHeld => ?_
       clear hK K;refine kK 21 ?_;refine kK 22 ?_;refine kK 23 ?_;refine kN 24 ?_;refine kN 25 ?_;refine kN 26 ?_;refine kN 27 ?_;refine kN 28 ?_;refine kN 29 ?_;refine kN 30 ?_;refine kN 31 ?_;refine kN 32 ?_;refine kN 33 ?_;refine kN 34 ?_;refine kN 35 ?_;refine kN 36 ?_;refine kN 37 ?_;refine kN 38 ?_;refine kN 39 ?_;refine kN 40 ?_;refine kN 41 ?_;refine kN 42 ?_;refine kN 43 ?_;refine kN 44 ?_;refine kN 45 ?_;refine kN 46 ?_;refine kN 47 ?_;refine kN 48 ?_;refine kK 49 ?_;refine wpAnyH_done (by kernel_rfl) ?_ _;have HB:=hide (zc ba vv);clear hHeld vv kNe kL;go_wp2;go_ret;exact ⟨false,rfl,HNO.out,HB.out⟩
      ·obtain ⟨⟨u,hu⟩,u1⟩:=zjk h1;obtain ⟨⟨v,hv⟩,v1⟩:=zjk h2;have HNO:Hid (u.up≠v.up→((false=true)↔NetOk N.brs N.ls N.ss)):=hide (fun hne=>zaC fun hp=>by
        obtain ⟨u',v',hu',hv',he⟩:=(hp.2.1.2 x hmem).1.2;rw [hu] at hu';rw [hv] at hv';cases hu';cases hv';exact hne he)
       have HYES:Hid (u.up=v.up→∀y∈N.ls.take (k+1),zgm N.brs N.ls y):=hide (fun he=>zbK HX.out HLK.out ⟨⟨hab,u,v,hu,hv,he⟩,u1,v1⟩);obtain ⟨ka,ja,bb,off,pa,oa,na,ca,ea,ep,ia1,ia2,hba,m1,m2⟩:=zid (h.below ba) hu;obtain ⟨kb,jb,bb',off',pb,ob,nb,cb,eb,eq,ib1,ib2,hba',m3,m4⟩:=zid (h.below ba) hv;rw [hba] at hba';cases hba';have hG:GRow brF w (some ⟨bb,off,none⟩) N.bn N.bc N.bs:=by rw [← hba]; exact h.b
       have hM:zas w ⟨some ⟨bb,off,none⟩,N.bn,N.bc,N.bs,N.la,N.ln,N.lc,N.ls,N.sa,N.sn,N.sc,N.ss⟩:=⟨hG,h.item,h.l,h.s⟩;rw [ea,ep] at h1;rw [eb,eq] at h2;rw [hba] at kNe;rw [ea,ep,eb,eq] at kL;have hab:¬((ka:Int)=(kb:Int)):=by rw [← ea,← eb]; exact hab
       have HBA:=hide hba;rw [ea] at a0;rw [ep] at a1;rw [eb] at a2;rw [eq] at a3;rw [ea,ep,eb,eq] at hwa;have j1:(0:Int)≤(ka:Int):=by omega
       have j2:(ka:Int) < (N.bn:Int):=by omega
       have j3:(0:Int)≤(ja:Int):=by omega
       have j4:(ja:Int) < (na:Int):=by omega
       have j5:(0:Int)≤(kb:Int):=by omega
       have j6:(kb:Int) < (N.bn:Int):=by omega
       have j7:(0:Int)≤(jb:Int):=by omega
       have j8:(jb:Int) < (nb:Int):=by omega
       clear ea ep eb eq hba hu hv u1 v1 hmem HX HLK;(go_wp2_with fail);refine wp_region_held_drew (S:=(fun W=>(zcc W w.heap.size 0 (.slice (some ⟨bb,off,none⟩) N.bn N.bc)∧zcc W w.heap.size 1 (.slice N.la N.ln N.lc)∧zcc W w.heap.size 2 (.slice N.sa N.sn N.sc))∧(zcc W wr.heap.size 0 (.int .i64 (ka:Int))∧zcc W wr.heap.size 1 (.int .i64 (ja:Int))∧zcc W wr.heap.size 2 (.int .i64 (kb:Int))∧zcc W wr.heap.size 3 (.int .i64 (jb:Int)))∧(zcc W bb (off+ka*11+2) (.slice (some ⟨pa,oa,none⟩) na ca)∧zcc W pa (oa+ja*8) (.bool u.up))∧(zcc W bb (off+kb*11+2) (.slice (some ⟨pb,ob,none⟩) nb cb)∧zcc W pb (ob+jb*8) (.bool v.up)))) (by kernel_rfl) (⟨zd (za kNe vv),zO (za kL vv),⟨(vv.cell (zo m1)).trans m1,(vv.cell (zo m2)).trans m2⟩,⟨(vv.cell (zo m3)).trans m3,(vv.cell (zo m4)).trans m4⟩⟩) (fun hHeld => ?_);refine kK 0 ?_;refine kK 1 ?_;refine kK 2 ?_;refine kK 3 ?_;refine kV 4 (.bool false) ?_;refine kK 5 ?_;refine kK 6 ?_;refine kK 7 ?_;refine kK 8 ?_;refine kK 9 ?_;refine kK 10 ?_;refine kR 11 fun K hK => ?_
       go_simp;refine (zb0 ⟨some ⟨bb,off,none⟩,N.bn,N.bc,N.bs,N.la,N.ln,N.lc,N.ls,N.sa,N.sn,N.sc,N.ss⟩ (ka:Int) (ja:Int) _ (hM.below (zc ba vv)) hsm).mono ?_;rintro r wz ⟨rfl,hbz⟩;rw [show endOk (NV.brs ⟨some ⟨bb,off,none⟩,N.bn,N.bc,N.bs,N.la,N.ln,N.lc,N.ls,N.sa,N.sn,N.sc,N.ss⟩) (NV.ls ⟨some ⟨bb,off,none⟩,N.bn,N.bc,N.bs,N.la,N.ln,N.lc,N.ls,N.sa,N.sn,N.sc,N.ss⟩) (ka:Int) (ja:Int)=true from h1];have vv:=zc vv hbz;(go_wp2_with fail);refine kO hK (⟨zd (za kNe vv),zO (za kL vv),⟨(vv.cell (zo m1)).trans m1,(vv.cell (zo m2)).trans m2⟩,⟨(vv.cell (zo m3)).trans m3,(vv.cell (zo m4)).trans m4⟩⟩) fun hHeld => ?_
       clear hK K;refine kK 12 ?_;refine kK 13 ?_;refine kK 14 ?_;refine kK 15 ?_;refine kK 16 ?_;refine kK 17 ?_;refine kK 18 ?_;refine kK 19 ?_;refine kR 20 fun K hK => ?_
       go_simp;refine (zb0 ⟨some ⟨bb,off,none⟩,N.bn,N.bc,N.bs,N.la,N.ln,N.lc,N.ls,N.sa,N.sn,N.sc,N.ss⟩ (kb:Int) (jb:Int) _ (hM.below (zc ba vv)) hsm).mono ?_;rintro r wz ⟨rfl,hbz⟩;rw [show endOk (NV.brs ⟨some ⟨bb,off,none⟩,N.bn,N.bc,N.bs,N.la,N.ln,N.lc,N.ls,N.sa,N.sn,N.sc,N.ss⟩) (NV.ls ⟨some ⟨bb,off,none⟩,N.bn,N.bc,N.bs,N.la,N.ln,N.lc,N.ls,N.sa,N.sn,N.sc,N.ss⟩) (kb:Int) (jb:Int)=true from h2];have vv:=zc vv hbz;(go_wp2_with fail);refine kO hK (⟨zd (za kNe vv),zO (za kL vv),⟨(vv.cell (zo m1)).trans m1,(vv.cell (zo m2)).trans m2⟩,⟨(vv.cell (zo m3)).trans m3,(vv.cell (zo m4)).trans m4⟩⟩) fun hHeld => ?_
       clear hK K;refine kK 21 ?_;refine kK 22 ?_;refine kK 23 ?_;refine kK 24 ?_;refine kK 25 ?_;refine kK 26 ?_;refine kK 27 ?_;refine kK 28 ?_;refine kK 29 ?_;refine kK 30 ?_;refine kK 31 ?_;refine kK 32 ?_;refine kK 33 ?_;refine kK 34 ?_;refine kK 35 ?_;refine kK 36 ?_;refine kK 37 ?_;refine kK 38 ?_;refine kK 39 ?_;refine kK 40 ?_;refine kK 41 ?_;refine kK 42 ?_;refine kK 43 ?_;refine kK 44 ?_;refine kK 45 ?_;refine kK 46 ?_;refine kK 47 ?_;refine kK 48 ?_;refine kK 49 ?_;refine wpAnyH_done (by kernel_rfl) ?_ _;have HB:=hide (zc ba vv);have HK:=hide (za kNe vv);clear hHeld vv kNe kL m1 m2 m3 m4;cases hu:u.up <;> cases hv:v.up
       ·go_wp2
        go_roundw
        case rel=>exact ⟨k+1,by omega,by go_num,(HYES.out (by rw [hu,hv])),by rw [HBA.out]; exact HK.out,HB.out⟩
        case measure=>simp [intOf]; omega
       ·go_wp2;go_ret;exact ⟨false,rfl,HNO.out (by rw [hu,hv]; simp),HB.out⟩
       ·go_wp2;go_ret;exact ⟨false,rfl,HNO.out (by rw [hu,hv]; simp),HB.out⟩
       ·go_wp2
        go_roundw
        case rel=>exact ⟨k+1,by omega,by go_num,(HYES.out (by rw [hu,hv])),by rw [HBA.out]; exact HK.out,HB.out⟩
        case measure=>simp [intOf]; omega
   ·have hkn:k=N.ln:=by omega
    rw [List.take_of_length_le (by have:=hlsz.out; omega)] at hlk;have HLK:=hide hlk;clear hlk hlt;(go_wp2_with fail);clear x0 x1 x2
    go_loopw [5] (fun i wr=>∃k:Nat,k≤N.sn∧i=.int .i64 k∧(∀y∈N.ss.take k,SayOk N.ls y)∧wr.heap[w.heap.size]? = some (.cells #[.slice N.ba N.bn N.bc,.slice N.la N.ln N.lc,.slice N.sa N.sn N.sc] 31)∧Below w.heap.size w wr) (fun i _=>N.sn - (intOf i).toNat)
    case atStart=>exact ⟨0,Nat.zero_le _,rfl,by intro y hy; simp at hy,hbox,hb⟩
    case round =>
     clear hbox hb hkn hk;obtain ⟨k,hk,rfl,hss,kNe,hb⟩:=hrel;obtain ⟨x0,x1,x2⟩:=zd kNe;by_cases hlt:k < N.sn
     ·obtain ⟨y,sb,so,hy,hsa,-⟩:=zg6 (h.s.below hb) k hlt;have HS:Hid (GRow sayF wr (some ⟨sb,so,none⟩) N.sn N.sc N.ss):=hide (by rw [← hsa]; exact h.s.below hb);have HSA:=hide hsa;have i1:(0:Int)≤(k:Int):=by omega
      have i2:(k:Int) < (N.sn:Int):=by omega
      have hmem:=List.mem_of_getElem? hy;have HY:=hide hy;have HSS:=hide hss;have vv:Below wr.heap.size wr wr.drew:=zr (Below.refl _ _);have hls:=hlsz.out;have hwl:IntKind.i64.wrap ((N.ln:Int) - 1)=(N.ln:Int) - 1:=by rw [IntKind.wrap_i64]; omega
      clear hy hss hsa;cases h1:(decide (0≤y.l) && decide (y.l≤(N.ln:Int) - 1))
      ·have HNO:Hid ((false=true)↔NetOk N.brs N.ls N.ss):=hide (zaC fun hp=>by
        have:=(hp.2.2.2.2 y hmem).1
        rw [hls,h1] at this;cases this)
       (go_wp2_with fail);refine wp_region_held_drew (S:=(fun W=>(zcc W w.heap.size 0 (.slice N.ba N.bn N.bc)∧zcc W w.heap.size 1 (.slice N.la N.ln N.lc)∧zcc W w.heap.size 2 (.slice (some ⟨sb,so,none⟩) N.sn N.sc))∧(zcc W sb (so+k*7) (.int .i64 y.l)∧zcc W sb (so+k*7+1) (.bool y.back)∧zcc W sb (so+k*7+2) (.int .i64 y.v.r)∧zcc W sb (so+k*7+3) (.int .i64 y.v.c)∧zcc W sb (so+k*7+4) (.int .i64 y.v.h)∧zcc W sb (so+k*7+5) (.int .i64 y.v.b)∧zcc W sb (so+k*7+6) (.int .i64 y.v.p)))) (by kernel_rfl) (⟨by have:=zd (za kNe vv); rw [HSA.out] at this; exact this,zbn HS.out vv HY.out⟩) (fun hHeld => ?_);refine kK 0 ?_;refine kK 1 ?_;refine kK 2 ?_;refine kK 3 ?_;refine kK 4 ?_;refine kK 5 ?_;refine kK 6 ?_;refine kK 7 ?_;refine kK 8 ?_;refine kK 9 ?_;refine kR 10 fun K hK => ?_
       go_simp;refine (zh y.l 0 ((N.ln:Int) - 1) _).mono ?_;rintro r wz ⟨rfl,ew⟩;obtain rfl:=ew.symm;rw [h1];(go_wp2_with fail);refine kO hK (⟨by have:=zd (za kNe vv); rw [HSA.out] at this; exact this,zbn HS.out vv HY.out⟩) fun hHeld => ?_
       clear hK K;refine kK 11 ?_;refine kK 12 ?_;refine kN 13 ?_;refine kN 14 ?_;refine kN 15 ?_;refine kN 16 ?_;refine kN 17 ?_;refine kN 18 ?_;refine kN 19 ?_;refine kN 20 ?_;refine kK 21 ?_;refine wpAnyH_done (by kernel_rfl) ?_ _;have HB:=hide (zc hb vv);clear hHeld vv kNe;go_wp2;go_ret;exact ⟨false,rfl,HNO.out,HB.out⟩
      ·cases h2:okVc y.v.r y.v.c y.v.h y.v.b y.v.p
       ·have HNO:Hid ((false=true)↔NetOk N.brs N.ls N.ss):=hide (zaC fun hp=>by
         have:=(hp.2.2.2.2 y hmem).2
         unfold okVd at this;rw [h2] at this;cases this)
        (go_wp2_with fail);refine wp_region_held_drew (S:=(fun W=>(zcc W w.heap.size 0 (.slice N.ba N.bn N.bc)∧zcc W w.heap.size 1 (.slice N.la N.ln N.lc)∧zcc W w.heap.size 2 (.slice (some ⟨sb,so,none⟩) N.sn N.sc))∧(zcc W sb (so+k*7) (.int .i64 y.l)∧zcc W sb (so+k*7+1) (.bool y.back)∧zcc W sb (so+k*7+2) (.int .i64 y.v.r)∧zcc W sb (so+k*7+3) (.int .i64 y.v.c)∧zcc W sb (so+k*7+4) (.int .i64 y.v.h)∧zcc W sb (so+k*7+5) (.int .i64 y.v.b)∧zcc W sb (so+k*7+6) (.int .i64 y.v.p)))) (by kernel_rfl) (⟨by have:=zd (za kNe vv); rw [HSA.out] at this; exact this,zbn HS.out vv HY.out⟩) (fun hHeld => ?_);refine kK 0 ?_;refine kK 1 ?_;refine kK 2 ?_;refine kK 3 ?_;refine kK 4 ?_;refine kK 5 ?_;refine kK 6 ?_;refine kK 7 ?_;refine kK 8 ?_;refine kK 9 ?_;refine kR 10 fun K hK => ?_
        go_simp;refine (zh y.l 0 ((N.ln:Int) - 1) _).mono ?_;rintro r wz ⟨rfl,ew⟩;obtain rfl:=ew.symm;rw [h1];(go_wp2_with fail);refine kO hK (⟨by have:=zd (za kNe vv); rw [HSA.out] at this; exact this,zbn HS.out vv HY.out⟩) fun hHeld => ?_
        clear hK K;refine kK 11 ?_;refine kK 12 ?_;refine kK 13 ?_;refine kK 14 ?_;refine kK 15 ?_;refine kK 16 ?_;refine kK 17 ?_;refine kK 18 ?_;refine kR 19 fun K hK => ?_
        go_simp;refine (zau y.v.r y.v.c y.v.h y.v.b y.v.p _).mono ?_;rintro r wz ⟨rfl,hbz⟩;rw [h2];have vv:=zc vv hbz;(go_wp2_with fail);refine kO hK (⟨by have:=zd (za kNe vv); rw [HSA.out] at this; exact this,zbn HS.out vv HY.out⟩) fun hHeld => ?_
        clear hK K;refine kK 20 ?_;refine kK 21 ?_;refine wpAnyH_done (by kernel_rfl) ?_ _;have HB:=hide (zc hb vv);clear hHeld vv kNe;go_wp2;go_ret;exact ⟨false,rfl,HNO.out,HB.out⟩
       ·have HYES:=hide (zbK HY.out HSS.out (P:=SayOk N.ls) ⟨by rw [hls]; exact h1,h2⟩);(go_wp2_with fail);refine wp_region_held_drew (S:=(fun W=>(zcc W w.heap.size 0 (.slice N.ba N.bn N.bc)∧zcc W w.heap.size 1 (.slice N.la N.ln N.lc)∧zcc W w.heap.size 2 (.slice (some ⟨sb,so,none⟩) N.sn N.sc))∧(zcc W sb (so+k*7) (.int .i64 y.l)∧zcc W sb (so+k*7+1) (.bool y.back)∧zcc W sb (so+k*7+2) (.int .i64 y.v.r)∧zcc W sb (so+k*7+3) (.int .i64 y.v.c)∧zcc W sb (so+k*7+4) (.int .i64 y.v.h)∧zcc W sb (so+k*7+5) (.int .i64 y.v.b)∧zcc W sb (so+k*7+6) (.int .i64 y.v.p)))) (by kernel_rfl) (⟨by have:=zd (za kNe vv); rw [HSA.out] at this; exact this,zbn HS.out vv HY.out⟩) (fun hHeld => ?_);refine kK 0 ?_;refine kK 1 ?_;refine kK 2 ?_;refine kK 3 ?_;refine kK 4 ?_;refine kK 5 ?_;refine kK 6 ?_;refine kK 7 ?_;refine kK 8 ?_;refine kK 9 ?_;refine kR 10 fun K hK => ?_
        go_simp;refine (zh y.l 0 ((N.ln:Int) - 1) _).mono ?_;rintro r wz ⟨rfl,ew⟩;obtain rfl:=ew.symm;rw [h1];(go_wp2_with fail);refine kO hK (⟨by have:=zd (za kNe vv); rw [HSA.out] at this; exact this,zbn HS.out vv HY.out⟩) fun hHeld => ?_
        clear hK K;refine kK 11 ?_;refine kK 12 ?_;refine kK 13 ?_;refine kK 14 ?_;refine kK 15 ?_;refine kK 16 ?_;refine kK 17 ?_;refine kK 18 ?_;refine kR 19 fun K hK => ?_
        go_simp;refine (zau y.v.r y.v.c y.v.h y.v.b y.v.p _).mono ?_;rintro r wz ⟨rfl,hbz⟩;rw [h2];have vv:=zc vv hbz;(go_wp2_with fail);refine kO hK (⟨by have:=zd (za kNe vv); rw [HSA.out] at this; exact this,zbn HS.out vv HY.out⟩) fun hHeld => ?_
        clear hK K;refine kK 20 ?_;refine kK 21 ?_;refine wpAnyH_done (by kernel_rfl) ?_ _;have HB:=hide (zc hb vv);have HK:=hide (za kNe vv);clear hHeld vv kNe;go_wp2
        go_roundw
        case rel=>exact ⟨k+1,by omega,by go_num,HYES.out,HK.out,HB.out⟩
        case measure=>simp [intOf]; omega
     ·have hkn:k=N.sn:=by omega
      rw [List.take_of_length_le (by have:=hssz.out; omega)] at hss;have HP:Hid (NetOk N.brs N.ls N.ss):=hide (⟨HBR.out.1,⟨by have:=hlsz.out; omega,HLK.out⟩,HBR.out.2,by have:=hssz.out; omega,hss⟩);clear hss;go_wp2;go_ret;exact ⟨true,rfl,zd3 HP.out,hb⟩

theorem PtAt.later {w w':World} {v:Option Addr} {o:Option PT} (h:PtAt w v o) (hb:Below w.heap.size w w'):PtAt w' v o:=by
 cases o with
 | none=>exact h
 | some y =>
  obtain ⟨g,j,e,c⟩:=h;exact ⟨g,j,e,(hb.cell (zo c)).trans c⟩

theorem zdb (N:NV) (k:Int) (w:World) (h:zas w N) :
  Calls Tryz.prog 16 #[.agg #[.slice N.ba N.bn N.bc,.slice N.la N.ln N.lc,.slice N.sa N.sn N.sc],.int .i64 k] w fun e w'=>e=.returned (.bool (zaw N.brs N.ls k))∧Below w.heap.size w w':=by
 have hle:=Nat.le_trans h.l.le h.l.top;unfold maxLen at hle;have hsz:=h.l.size;generalize hG:zaw N.brs N.ls k=U;have HG:=hide hG;clear hG;generalize hw1:w.alloc (Obj.cells #[.slice N.ba N.bn N.bc,.slice N.la N.ln N.lc,.slice N.sa N.sn N.sc] 31)=w1;have b01:=zb hw1;have k1:=zk hw1;obtain ⟨x0,x1,x2⟩:=zd k1;cases hA:(decide (0≤k) && decide (k≤(N.ln:Int) - 1))
 ·have HF:Hid (U=false):=hide (by
   rw [← HG.out];unfold zaw
   split
   ·rw [List.getElem?_eq_none (by simp at hA; omega)]
   ·rfl)
  go_enter Tryz.func16,Tryz.ntmps16;(go_wp2_with fail);refine (zF k 0 ((N.ln:Int) - 1) _).mono ?_;rintro e w2 ⟨rfl,ew⟩;obtain rfl:=ew.symm;rw [hA];clear hA;go_wp2;go_ret;exact ⟨by rw [HF.out]; rfl,b01⟩
 ·obtain ⟨j,rfl⟩:∃j:Nat,k=(j:Int):=⟨k.toNat,by simp at hA; omega⟩;have hj:j < N.ln:=by simp at hA; omega
  obtain ⟨x,lb,off,hx,hla,a0,a1,a2,a3⟩:=zaX (h.l.below b01) j hj;have HG:Hid ((upAt N.brs x.a x.p && upAt N.brs x.b x.q)=U):=hide (by rw [← HG.out]; unfold zaw; rw [if_pos (by omega),Int.toNat_natCast,hx]);have i1:(0:Int)≤(j:Int):=by omega
  have i2:(j:Int) < (N.ln:Int):=by omega
  rw [hla] at x1;clear hx hla;go_enter Tryz.func16,Tryz.ntmps16;(go_wp2_with fail);refine (zF (j:Int) 0 ((N.ln:Int) - 1) _).mono ?_;rintro e w2 ⟨rfl,ew⟩;obtain rfl:=ew.symm;rw [hA];clear hA;(go_wp2_with fail);refine (zdU x _).mono ?_;rintro e we ⟨rfl,hbe⟩;have kNe:=za k1 hbe;have b0e:=zc b01 hbe;clear x0 x1 x2 a0 a1 a2 a3 k1 hbe;generalize hwq:we.alloc (Obj.cells #[.int .i64 x.a,.int .i64 x.p,.int .i64 x.b,.int .i64 x.q] 68)=wq;have bq:=zb hwq;have kE:=zk hwq;have kNe:=za kNe bq;have bq:=zc b0e bq;clear b0e;have vv:Below wq.heap.size wq wq.drew:=zr (Below.refl _ _);(go_wp2_with fail);refine wp_region_held_drew (S:=(fun W=>(zcc W w.heap.size 0 (.slice N.ba N.bn N.bc)∧zcc W w.heap.size 1 (.slice N.la N.ln N.lc)∧zcc W w.heap.size 2 (.slice N.sa N.sn N.sc))∧(zcc W we.heap.size 0 (.int .i64 x.a)∧zcc W we.heap.size 1 (.int .i64 x.p)∧zcc W we.heap.size 2 (.int .i64 x.b)∧zcc W we.heap.size 3 (.int .i64 x.q)))) (by kernel_rfl) (⟨zd (za kNe vv),zO (za kE vv)⟩) (fun hHeld => ?_);refine kK 0 ?_;refine kK 1 ?_;refine kK 2 ?_;refine kK 4 ?_;refine kK 5 ?_;refine kK 6 ?_;refine kR 3 fun K hK => ?_
  go_simp;refine (zc5 N x.a x.p _ (h.below (zc bq vv))).mono ?_;rintro r wz ⟨v1,rfl,v1P,hbz⟩;have v1P:=PtAt.later v1P hbz;(try have v2P:=PtAt.later v2P hbz);have vv:=zc vv hbz;(go_wp2_with fail);refine kO hK (⟨zd (za kNe vv),zO (za kE vv)⟩) fun hHeld => ?_
  clear hK K;refine kR 7 fun K hK => ?_
  go_simp;refine (zc5 N x.b x.q _ (h.below (zc bq vv))).mono ?_;rintro r wz ⟨v2,rfl,v2P,hbz⟩;have v2P:=PtAt.later v2P hbz;(try have v1P:=PtAt.later v1P hbz);have vv:=zc vv hbz;(go_wp2_with fail);refine kO hK (⟨zd (za kNe vv),zO (za kE vv)⟩) fun hHeld => ?_
  clear hK K;refine kK 8 ?_;refine kK 9 ?_;refine wpAnyH_done (by kernel_rfl) ?_ _;have HB:=hide (zc bq vv);have bz:=zc bq vv;clear hHeld kNe kE vv;cases hP:zak N.brs x.a x.p with
  | none =>
   rw [hP] at v1P;have e1:v1=none:=v1P;subst e1;have HF:Hid (U=false):=hide (by rw [← HG.out]; unfold upAt; rw [hP]; rfl);clear bz v2P v1P;go_wp2;go_ret;exact ⟨by rw [HF.out]; rfl,HB.out⟩
  | some y1 =>
   rw [hP] at v1P;obtain ⟨p1,o1,rfl,q1⟩:=v1P;cases hQ:zak N.brs x.b x.q with
   | none =>
    rw [hQ] at v2P;have e2:v2=none:=v2P;subst e2;have HF:Hid (U=false):=hide (by rw [← HG.out]; unfold upAt; rw [hQ]; simp);clear bz v2P q1;go_wp2;go_ret;exact ⟨by rw [HF.out]; rfl,HB.out⟩
   | some y2 =>
    rw [hQ] at v2P;obtain ⟨p2,o2,rfl,q2⟩:=v2P;have HF:Hid (U=(y1.up && y2.up)):=hide (by rw [← HG.out]; unfold upAt; rw [hP,hQ]);clear bz hP hQ;cases h1:y1.up
    ·rw [h1] at q1;have HF:Hid (U=false):=hide (by rw [HF.out,h1]; rfl);go_wp2;go_ret;exact ⟨by rw [HF.out]; rfl,HB.out⟩
    ·rw [h1] at q1;have HF:Hid (U=y2.up):=hide (by rw [HF.out,h1]; rfl);go_wp2;go_ret;exact ⟨by rw [HF.out]; rfl,HB.out⟩

end Go.Proofs.YtkcoehmpnkdinaaGreat
