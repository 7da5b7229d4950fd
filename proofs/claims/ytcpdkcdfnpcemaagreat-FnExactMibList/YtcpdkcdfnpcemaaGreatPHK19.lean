/-
  Packed: MibRow MibEnt MibIn FdbLearnS FdbSetS VlanTab BrNewS.
-/
import Derived.Test.YtcpdkcdfnpcemaaGreatPHFdbPutT
import Derived.Test.YtcpdkcdfnpcemaaGreatPHK12
import Derived.Test.YtcpdkcdfnpcemaaGreatPHK18
import Derived.Test.YtcpdkcdfnpcemaaGreatPHVlanOk
namespace Go.Proofs.YtcpdkcdfnpcemaaGreat
set_option maxRecDepth 100000
set_option maxHeartbeats 16000000
open Go.RowKit

theorem zee (a:Option Addr) (n c:Nat) (fa:Option Addr) (fn fc:Nat) (ra:Option Addr) (rn rc:Nat) (oa:Option Addr) (on oc:Nat) (B:BR) (w:World) (h:BrRow w a n c fa fn fc ra rn rc oa on oc B) (ok:MbOk B) :
  Calls Tryz.prog 194 #[.agg #[.int .i64 B.id,.string B.name,.slice a n c,.slice fa fn fc,.slice ra rn rc,.slice oa on oc,.int .i64 B.ticks,.int .i64 B.parse,.int .i64 B.word,.int .i64 B.drops,.int .i64 B.vers]] w fun e w'=>∃(ao:Option Addr) (cap:Nat) (l:List TH),e=.returned (.slice ao l.length cap)∧l.map TH.d=zY (zaC B) 3∧Things w' w.heap.size ao cap l∧Below w.heap.size w w':=by
 generalize hw1:w.alloc (Obj.cells #[.int .i64 B.id,.string B.name,.slice a n c,.slice fa fn fc,.slice ra rn rc,.slice oa on oc,.int .i64 B.ticks,.int .i64 B.parse,.int .i64 B.word,.int .i64 B.drops,.int .i64 B.vers] 31)=w1;have b1:=zb hw1;have k1:=zk hw1;have HH:=hide h;have hle:=h.v.rows.le;have htop:=h.v.rows.top;unfold maxLen at htop;have HLN:Hid (rn=B.v.rows.length):=hide h.v.rows.size.symm;have hn12:rn≤12:=by have:=h.v.rows.size; have:=ok.p; have:=ok.r; have:=ok.f; omega
 obtain ⟨x0,x1,x2,x3,x4,x5,x6,x7,x8,x9,x10⟩:=zj k1;go_enter Tryz.func194,Tryz.ntmps194;go_wp2_with fail
 clear x0 x1 x2 x3 x4 x5 x6 x7 x8 x9 x10 hw1
 go_loopw [3,5,10] (fun v3 u5 vj wr=>∃(j:Nat) (ao:Option Addr) (cap:Nat) (l:List TL),v3=.slice ao l.length cap∧vj=.int .i64 (j:Int)∧j≤rn∧l.length=j∧(∀(i:Nat) (t:TL) x,l[i]? = some t→B.v.rows[i]? = some x→t.z=[x.i])∧Tails wr w1.heap.size ao cap l∧Below w1.heap.size w1 wr) (fun _ _ vj _=>14 - (intOf vj).toNat)
 case atStart=>exact ⟨0,none,0,[],rfl,rfl,Nat.zero_le _,rfl,(by intro i t x hi; simp at hi),zdE _ _,Below.refl _ _⟩
 case round =>
  obtain ⟨j,ao,cap,l,rfl,rfl,hj,hlj,hz,tls,hb⟩:=hrel;have k2:=ze k1 hb;have hbw:=b1.size;by_cases hjn:j < rn
  ·have hjn':(j:Int) < (rn:Int):=by omega
   have hj12:(j:Int)≤12:=by omega
   obtain ⟨x,hx⟩:∃x,B.v.rows[j]? = some x:=⟨_,List.getElem?_eq_getElem (by have:=HLN.out; omega)⟩;have HX:=hide hx;have HZ:=hide hz;have HTL:=hide tls;have HB:=hide hb;have HLJ:=hide hlj;have HBW:Hid (w1.heap.size≤wr.heap.size):=hide hb.size;obtain ⟨x',rb,off,hx',hra,c0,c1,c2⟩:=zaD (HH.out.v.rows.below (zd b1 hb)) j hjn;rw [hx] at hx';cases hx';subst hra;generalize hwz:wr.alloc (Obj.cells #[.int .i64 0,.int .i64 0,.int .i64 0] 119)=wz;have bz:=zb hwz;have kz:=zk hwz;obtain ⟨⟨p0,p1,p2⟩,f0,f1,f2⟩:=zcJ kz;have d0:=(bz.cell (zp c0)).trans c0;have d1:=(bz.cell (zp c1)).trans c1;have d2:=(bz.cell (zp c2)).trans c2;clear k2 tls hb hz hlj;(go_upto_region 5 with fail);clear p0 f0 c0 d0 p1 f1 c1 d1 p2 f2 c2 d2 hwz;refine zgv kz _ _ _ (fun ws ks gs => ?_);have HBR:Hid (Below wr.heap.size wr ws):=hide (bz.grown gs bz.size (fun b hb2=>by cases hb2; exact Nat.le_refl _));obtain ⟨⟨p0,p1,p2⟩,-⟩:=zcJ ks;clear bz kz gs;have hxi:=ok.ri x (List.mem_of_getElem? HX.out);generalize hwa:ws.alloc (Obj.cells #[.int .i64 x.i] 3)=wa;have ba:=zb hwa;have ka:=zk hwa;generalize hwb:wa.alloc (Obj.cells #[.slice (some ⟨ws.heap.size,0,none⟩) 1 1] 27)=wb;have bb:=zb hwb;obtain ⟨y,hy⟩:∃y:TL,y=⟨some ⟨ws.heap.size,0,none⟩,1,1,[x.i]⟩:=⟨_,rfl⟩;have gone:GRow tlF wb (some ⟨wa.heap.size,0,none⟩) 1 1 [y]:=by rw [← hwb]; exact zau tlF wa y _ _ (by rw [hy]; rfl)
   have HBY:Hid (Below wr.heap.size wr wb):=hide (zd (zd HBR.out ba) bb);have HOY:Hid (wb.ownsRow wr.heap.size 3 1 (.slice y.a y.n y.c) y.n (cI y.z)):=hide (by
    rw [hy]
    have:=zS intF (base:=wr.heap.size) (l:=[x.i]) ka rfl HBR.out.size (by simp)
    rw [← zE];exact zm this bb)
   have HIY:Hid (I64s y.z):=hide (by rw [hy]; intro z hz2; simp at hz2; omega);have HNY:Hid (y.n≤2):=hide (by rw [hy]; show 1≤2; omega);have HYZ:Hid (y.z=[x.i]):=hide (by rw [hy]);have hrow:=(HTL.out.below HBY.out).row;have hl12:l.length≤12:=by have:=HLJ.out; omega
   have HBK:Hid (∀k,(Value.slice ao l.length cap).ownBlock=some k→w1.heap.size≤k):=hide (fun k hk=>(HTL.out.row.lt k hk).1);have hbw2:w1.heap.size≤wb.heap.size:=Nat.le_trans HBW.out HBY.out.size;clear ka hy ba bb;go_wp2_with (at_builtin; refine zx (F:=tlF) _ rfl _ _ 283 27 rfl w1.heap.size Tryz.underlying283 zhy rfl (by decide) _ l.length l rfl hrow (some ⟨wa.heap.size,0,none⟩) 1 1 [y] rfl gone (by omega) hbw2 ?_)
   intro ao2 cap2 we how2 _ hgr2 hb2;have HLN2:Hid ((l++[y]).length=l.length+1):=hide (by simp);have HT2:=hide (HTL.out.push (y:=y) HBY.out HOY.out HIY.out HNY.out HBW.out hgr2 (by rw [HLN2.out]; exact how2));have HB2:=hide ((zd HB.out HBY.out).grown hgr2 (Nat.le_trans HB.out.size HBY.out.size) (fun k hk=>HBK.out k hk));clear hrow gone hbw2 how2 hgr2 hb2 hwa hwb;have HZ2:Hid (∀(i:Nat) (t:TL) u,(l++[y])[i]? = some t→B.v.rows[i]? = some u→t.z=[u.i]):=hide (by
    intro i t u hi hu;by_cases hil:i < l.length
    ·rw [List.getElem?_append_left hil] at hi;exact HZ.out i t u hi hu
    ·have hil2:=(List.getElem?_eq_some_iff.1 hi).1;rw [HLN2.out] at hil2;have hij:i=l.length:=by omega
     subst hij
     have:t=y:=by simpa using hi.symm
     rw [this,HYZ.out];rw [← HLJ.out] at HX
     have:=HX.out.symm.trans hu
     cases this
     rfl)
   go_wp2
   go_roundw
   case rel=>exact ⟨j+1,ao2,cap2,l++[y],by rw [HLN2.out],by go_num,by omega,by rw [HLN2.out,HLJ.out],HZ2.out,HT2.out,HB2.out⟩
   case measure=>simp [intOf]; omega
  ·have hjn':¬(j:Int) < (rn:Int):=by omega
   have hje:l.length=rn:=by omega
   have hbs:=Nat.le_trans hbw hb.size;generalize hwc:wr.alloc (Obj.cells #[.func (.func 249) #[] #[],.func (.func 250) #[] #[.pointer (some ⟨w.heap.size,0,none⟩)],.func (.func 251) #[] #[.pointer (some ⟨w.heap.size,0,none⟩)]] 61)=wc;have bc:=zb hwc;have kc:=zk hwc;have hcl:=zab (F:=clF) (zS clF (base:=0) (l:=[⟨249,#[]⟩,⟨250,#[.pointer (some ⟨w.heap.size,0,none⟩)]⟩,⟨251,#[.pointer (some ⟨w.heap.size,0,none⟩)]⟩]) kc rfl (Nat.zero_le _) (by simp));have HBS:Hid (w.heap.size≤wc.heap.size):=hide (Nat.le_trans hbs bc.size);have HBC:=hide (zd (zd b1 hb) bc);have HKC:=hide (ze k2 bc);have tlr:=(tls.below bc).reads;have HZ:=hide hz;have hlen:=HLN.out;have HJE:=hide hje;clear k1 k2 kc b1 hb tls bc hz hlj hje;(go_wp2_with fail);refine (zaN 3 _ l.length _ l _ 3 [⟨249,#[]⟩,⟨250,#[.pointer (some ⟨w.heap.size,0,none⟩)]⟩,⟨251,#[.pointer (some ⟨w.heap.size,0,none⟩)]⟩] (rowG B) _ tlr.1 tlr.2 (by have:=HJE.out; omega) hcl (by omega) (by omega) ?_).mono ?_
   ·intro i j t ht;obtain ⟨x,hx⟩:∃x,B.v.rows[j]? = some x:=⟨_,List.getElem?_eq_getElem (by have:=(List.getElem?_eq_some_iff.1 ht).1; have:=HJE.out; omega)⟩;rw [HZ.out j t x ht hx];unfold rowG;rw [hx]
    rfl
   rw [HJE.out];rintro e w3 ⟨ao,cap,l,rfl,hd,st⟩;have HB:=hide (zd HBC.out st.below);have KB:=hide (ze HKC.out st.below);have HT:Hid (Things w3 w.heap.size ao cap l):=hide (by
    refine zbI st (fun i cf hi => ?_) (fun i j => ?_) HBS.out
    ·have him:i < 3:=(List.getElem?_eq_some_iff.1 hi).1;rcases (show i=0∨i=1∨i=2 by omega) with rfl | rfl | rfl
     ·cases hi;refine ⟨enters_of Tryz.func249 (by kernel_rfl) rfl,fun j hj w2 hw2 => ?_⟩;obtain ⟨x,hx⟩:∃x,B.v.rows[j]? = some x:=⟨_,List.getElem?_eq_getElem (by have:=HLN.out; omega)⟩;have hg:rowG B 0 j=rowB 1 j x:=by unfold rowG; rw [hx]; rfl
      rw [hg];exact zig (j:Int) w2
     ·cases hi;refine ⟨enters_of Tryz.func250 (by kernel_rfl) rfl,fun j hj w2 hw2 => ?_⟩;obtain ⟨x,hx⟩:∃x,B.v.rows[j]? = some x:=⟨_,List.getElem?_eq_getElem (by have:=HLN.out; omega)⟩;have hg:rowG B 1 j=rowB 2 j x:=by unfold rowG; rw [hx]; rfl
      rw [hg];exact zih a n c fa fn fc ra rn rc oa on oc B j w.heap.size w2 (ze KB.out hw2) (HH.out.v.rows.below (zd HB.out hw2)) x hx
     ·cases hi;refine ⟨enters_of Tryz.func251 (by kernel_rfl) rfl,fun j hj w2 hw2 => ?_⟩;obtain ⟨x,hx⟩:∃x,B.v.rows[j]? = some x:=⟨_,List.getElem?_eq_getElem (by have:=HLN.out; omega)⟩;have hg:rowG B 2 j=rowB 3 j x:=by unfold rowG; rw [hx]; rfl
      rw [hg];exact zii a n c fa fn fc ra rn rc oa on oc B j w.heap.size w2 (ze KB.out hw2) (HH.out.v.rows.below (zd HB.out hw2)) x hx
    ·unfold rowG
     split
     all_goals exact ⟨rfl,Nat.zero_le _⟩
    )
   have HD:=hide hd;clear hd st;go_wp2;go_ret;exact ⟨ao,cap,l,rfl,(by rw [HD.out,HLN.out]; exact zik B),HT.out,HB.out⟩
   

theorem zec (a:Option Addr) (n c:Nat) (fa:Option Addr) (fn fc:Nat) (ra:Option Addr) (rn rc:Nat) (oa:Option Addr) (on oc:Nat) (B:BR) (w:World) (h:BrRow w a n c fa fn fc ra rn rc oa on oc B) (ok:MbOk B) :
  Calls Tryz.prog 195 #[.agg #[.int .i64 B.id,.string B.name,.slice a n c,.slice fa fn fc,.slice ra rn rc,.slice oa on oc,.int .i64 B.ticks,.int .i64 B.parse,.int .i64 B.word,.int .i64 B.drops,.int .i64 B.vers]] w fun e w'=>∃(ao:Option Addr) (cap:Nat) (l:List TH),e=.returned (.slice ao l.length cap)∧l.map TH.d=zdt B∧Things w' w.heap.size ao cap l∧Below w.heap.size w w':=by
 generalize hw1:w.alloc (Obj.cells #[.int .i64 B.id,.string B.name,.slice a n c,.slice fa fn fc,.slice ra rn rc,.slice oa on oc,.int .i64 B.ticks,.int .i64 B.parse,.int .i64 B.word,.int .i64 B.drops,.int .i64 B.vers] 31)=w1;have b1:=zb hw1;have k1:=zk hw1;have HH:=hide h;have hle:=h.f.le;have htop:=h.f.top;unfold maxLen at htop;have HLN:Hid (fn=B.f.length):=hide h.f.size.symm;have hn12:fn≤12:=by have:=h.f.size; have:=ok.p; have:=ok.r; have:=ok.f; omega
 obtain ⟨x0,x1,x2,x3,x4,x5,x6,x7,x8,x9,x10⟩:=zj k1;go_enter Tryz.func195,Tryz.ntmps195;go_wp2_with fail
 clear x0 x1 x2 x3 x4 x5 x6 x7 x8 x9 x10 hw1
 go_loopw [3,5,9] (fun v3 u5 vj wr=>∃(j:Nat) (ao:Option Addr) (cap:Nat) (l:List TL),v3=.slice ao l.length cap∧vj=.int .i64 (j:Int)∧j≤fn∧l.length=j∧(∀(i:Nat) (t:TL) x,l[i]? = some t→B.f[i]? = some x→t.z=[x.t,x.m])∧Tails wr w1.heap.size ao cap l∧Below w1.heap.size w1 wr) (fun _ _ vj _=>14 - (intOf vj).toNat)
 case atStart=>exact ⟨0,none,0,[],rfl,rfl,Nat.zero_le _,rfl,(by intro i t x hi; simp at hi),zdE _ _,Below.refl _ _⟩
 case round =>
  obtain ⟨j,ao,cap,l,rfl,rfl,hj,hlj,hz,tls,hb⟩:=hrel;have k2:=ze k1 hb;have hbw:=b1.size;by_cases hjn:j < fn
  ·have hjn':(j:Int) < (fn:Int):=by omega
   have hj12:(j:Int)≤12:=by omega
   obtain ⟨x,hx⟩:∃x,B.f[j]? = some x:=⟨_,List.getElem?_eq_getElem (by have:=HLN.out; omega)⟩;have HX:=hide hx;have HZ:=hide hz;have HTL:=hide tls;have HB:=hide hb;have HLJ:=hide hlj;have HBW:Hid (w1.heap.size≤wr.heap.size):=hide hb.size;obtain ⟨x',rb,off,hx',hra,c0,c1,c2,c3,c4⟩:=zaP (HH.out.f.below (zd b1 hb)) j hjn;rw [hx] at hx';cases hx';subst hra;generalize hwz:wr.alloc (Obj.cells #[.int .i64 0,.int .i64 0,.int .i64 0,.int .i64 0,.bool false] 116)=wz;have bz:=zb hwz;have kz:=zk hwz;obtain ⟨⟨p0,p1,p2,p3,p4⟩,f0,f1,f2,f3,f4⟩:=zo kz;have d0:=(bz.cell (zp c0)).trans c0;have d1:=(bz.cell (zp c1)).trans c1;have d2:=(bz.cell (zp c2)).trans c2;have d3:=(bz.cell (zp c3)).trans c3;have d4:=(bz.cell (zp c4)).trans c4;clear k2 tls hb hz hlj;(go_upto_region 5 with fail);clear p0 f0 c0 d0 p1 f1 c1 d1 p2 f2 c2 d2 p3 f3 c3 d3 p4 f4 c4 d4 hwz;refine zeQ kz _ _ _ _ _ (fun ws ks gs => ?_);have HBR:Hid (Below wr.heap.size wr ws):=hide (bz.grown gs bz.size (fun b hb2=>by cases hb2; exact Nat.le_refl _));obtain ⟨⟨p0,p1,p2,p3,p4⟩,-⟩:=zo ks;clear bz kz gs;have hxi:=ok.fi x (List.mem_of_getElem? HX.out);generalize hwa:ws.alloc (Obj.cells #[.int .i64 x.t,.int .i64 x.m] 3)=wa;have ba:=zb hwa;have ka:=zk hwa;generalize hwb:wa.alloc (Obj.cells #[.slice (some ⟨ws.heap.size,0,none⟩) 2 2] 27)=wb;have bb:=zb hwb;obtain ⟨y,hy⟩:∃y:TL,y=⟨some ⟨ws.heap.size,0,none⟩,2,2,[x.t,x.m]⟩:=⟨_,rfl⟩;have gone:GRow tlF wb (some ⟨wa.heap.size,0,none⟩) 1 1 [y]:=by rw [← hwb]; exact zau tlF wa y _ _ (by rw [hy]; rfl)
   have HBY:Hid (Below wr.heap.size wr wb):=hide (zd (zd HBR.out ba) bb);have HOY:Hid (wb.ownsRow wr.heap.size 3 1 (.slice y.a y.n y.c) y.n (cI y.z)):=hide (by
    rw [hy]
    have:=zS intF (base:=wr.heap.size) (l:=[x.t,x.m]) ka rfl HBR.out.size (by simp)
    rw [← zE];exact zm this bb)
   have HIY:Hid (I64s y.z):=hide (by rw [hy]; intro z hz2; simp at hz2; omega);have HNY:Hid (y.n≤2):=hide (by rw [hy]; show 2≤2; omega);have HYZ:Hid (y.z=[x.t,x.m]):=hide (by rw [hy]);have hrow:=(HTL.out.below HBY.out).row;have hl12:l.length≤12:=by have:=HLJ.out; omega
   have HBK:Hid (∀k,(Value.slice ao l.length cap).ownBlock=some k→w1.heap.size≤k):=hide (fun k hk=>(HTL.out.row.lt k hk).1);have hbw2:w1.heap.size≤wb.heap.size:=Nat.le_trans HBW.out HBY.out.size;clear ka hy ba bb;go_wp2_with (at_builtin; refine zx (F:=tlF) _ rfl _ _ 283 27 rfl w1.heap.size Tryz.underlying283 zhy rfl (by decide) _ l.length l rfl hrow (some ⟨wa.heap.size,0,none⟩) 1 1 [y] rfl gone (by omega) hbw2 ?_)
   intro ao2 cap2 we how2 _ hgr2 hb2;have HLN2:Hid ((l++[y]).length=l.length+1):=hide (by simp);have HT2:=hide (HTL.out.push (y:=y) HBY.out HOY.out HIY.out HNY.out HBW.out hgr2 (by rw [HLN2.out]; exact how2));have HB2:=hide ((zd HB.out HBY.out).grown hgr2 (Nat.le_trans HB.out.size HBY.out.size) (fun k hk=>HBK.out k hk));clear hrow gone hbw2 how2 hgr2 hb2 hwa hwb;have HZ2:Hid (∀(i:Nat) (t:TL) u,(l++[y])[i]? = some t→B.f[i]? = some u→t.z=[u.t,u.m]):=hide (by
    intro i t u hi hu;by_cases hil:i < l.length
    ·rw [List.getElem?_append_left hil] at hi;exact HZ.out i t u hi hu
    ·have hil2:=(List.getElem?_eq_some_iff.1 hi).1;rw [HLN2.out] at hil2;have hij:i=l.length:=by omega
     subst hij
     have:t=y:=by simpa using hi.symm
     rw [this,HYZ.out];rw [← HLJ.out] at HX
     have:=HX.out.symm.trans hu
     cases this
     rfl)
   go_wp2
   go_roundw
   case rel=>exact ⟨j+1,ao2,cap2,l++[y],by rw [HLN2.out],by go_num,by omega,by rw [HLN2.out,HLJ.out],HZ2.out,HT2.out,HB2.out⟩
   case measure=>simp [intOf]; omega
  ·have hjn':¬(j:Int) < (fn:Int):=by omega
   have hje:l.length=fn:=by omega
   have hbs:=Nat.le_trans hbw hb.size;generalize hwc:wr.alloc (Obj.cells #[.func (.func 252) #[] #[.pointer (some ⟨w.heap.size,0,none⟩)]] 61)=wc;have bc:=zb hwc;have kc:=zk hwc;have hcl:=zab (F:=clF) (zS clF (base:=0) (l:=[⟨252,#[.pointer (some ⟨w.heap.size,0,none⟩)]⟩]) kc rfl (Nat.zero_le _) (by simp));have HBS:Hid (w.heap.size≤wc.heap.size):=hide (Nat.le_trans hbs bc.size);have HBC:=hide (zd (zd b1 hb) bc);have HKC:=hide (ze k2 bc);have tlr:=(tls.below bc).reads;have HZ:=hide hz;have hlen:=HLN.out;have HJE:=hide hje;clear k1 k2 kc b1 hb tls bc hz hlj hje;(go_wp2_with fail);refine (zaN 4 _ l.length _ l _ 1 [⟨252,#[.pointer (some ⟨w.heap.size,0,none⟩)]⟩] (entG B) _ tlr.1 tlr.2 (by have:=HJE.out; omega) hcl (by omega) (by omega) ?_).mono ?_
   ·intro i j t ht;obtain ⟨x,hx⟩:∃x,B.f[j]? = some x:=⟨_,List.getElem?_eq_getElem (by have:=(List.getElem?_eq_some_iff.1 ht).1; have:=HJE.out; omega)⟩;rw [HZ.out j t x ht hx];unfold entG;rw [hx]
   rw [HJE.out];rintro e w3 ⟨ao,cap,l,rfl,hd,st⟩;have HB:=hide (zd HBC.out st.below);have KB:=hide (ze HKC.out st.below);have HT:Hid (Things w3 w.heap.size ao cap l):=hide (by
    refine zbI st (fun i cf hi => ?_) (fun i j => ?_) HBS.out
    ·have him:i < 1:=(List.getElem?_eq_some_iff.1 hi).1;rcases (show i=0 by omega) with rfl
     ·cases hi;refine ⟨enters_of Tryz.func252 (by kernel_rfl) rfl,fun j hj w2 hw2 => ?_⟩;obtain ⟨x,hx⟩:∃x,B.f[j]? = some x:=⟨_,List.getElem?_eq_getElem (by have:=HLN.out; omega)⟩;have hg:entG B 0 j=entB j x:=by unfold entG; rw [hx]; rfl
      rw [hg];exact zhP a n c fa fn fc ra rn rc oa on oc B j w.heap.size w2 (ze KB.out hw2) (HH.out.f.below (zd HB.out hw2)) x hx (ok.fi x (List.mem_of_getElem? hx)).2.2
    ·unfold entG
     split
     all_goals exact ⟨rfl,Nat.zero_le _⟩
    )
   have HD:=hide hd;clear hd st;go_wp2;go_ret;exact ⟨ao,cap,l,rfl,(by rw [HD.out,HLN.out]; exact zhQ B),HT.out,HB.out⟩
   

theorem zbG {α:Type} {f:Nat→α→BD} {l:List α} {d:BD}:∀{k:Nat},d∈zao f l k→∃(i:Nat) (x:α),i < k∧l[i]? = some x∧d=f i x
 | 0,h=>by simp [zao] at h
 | k+1,h=>by
  rw [zao] at h
  split at h
  ·next x hx =>
   rcases List.mem_append.1 h with h | h
   ·obtain ⟨i,y,hi,hy,e⟩:=zbG h;exact ⟨i,y,by omega,hy,e⟩
   ·rw [List.mem_singleton] at h;exact ⟨k,x,by omega,hx,h⟩
  ·obtain ⟨i,y,hi,hy,e⟩:=zbG h;exact ⟨i,y,by omega,hy,e⟩

theorem zcE {g:Int→List BD} {d:BD}:∀{k:Nat},d∈zY g k→∃c:Nat,c < k∧d∈g ((c:Int)+1)
 | 0,h=>by simp [zY] at h
 | k+1,h=>by
  rw [zY] at h;rcases List.mem_append.1 h with h | h
  ·obtain ⟨c,hc,hd⟩:=zcE h;exact ⟨c,by omega,hd⟩
  ·exact ⟨k,by omega,h⟩

structure LitB (d:BD):Prop where
 o:d.o.length≤7
 i:∀z∈d.o,0≤z∧z≤9999
 s:d.S.size≤10
 z:d.z=[]
 k:d.K=2∨d.K=4

theorem zeg {l:List Int} {n:Int} (h:l.length≤4) (hz:∀z∈l,0≤z∧z≤9999):LitB (numD l n):=by
 refine ⟨?_, ?_,by show (0:Nat)≤10; omega,rfl,.inl rfl⟩
 ·show (nmI l).length≤7
  unfold nmI;simp only [List.length_cons];omega
 ·intro z hzz;have hzz:z∈nmI l:=hzz;unfold nmI at hzz;simp only [List.mem_cons] at hzz;rcases hzz with rfl | rfl | rfl | h
  ·omega
  ·omega
  ·omega
  ·exact hz z h

theorem ziH {B:BR} (h:zH B=true):∀d∈zbS B,LitB d:=by
 have ok:=mb_ok h;intro d hd;unfold zbS at hd;simp only [List.mem_append] at hd;rcases hd with ((hd | hd) | hd) | hd
 ·unfold zam at hd;simp only [List.mem_cons,List.not_mem_nil,or_false] at hd;rcases hd with rfl | rfl | rfl | rfl | rfl
  ·refine ⟨by show (nmI [1,1]).length≤7; simp [nmI], ?_, ?_,rfl,.inr rfl⟩
   ·intro z hz;have hz:z∈nmI [1,1]:=hz
    simp [nmI] at hz
    omega
   ·have:=(za6 h).2.2.1
    show B.name.size≤10
    omega
  all_goals exact zeg (by simp) (by intro z hz; simp at hz; omega)
 ·obtain ⟨c,hc,hd⟩:=zcE hd;obtain ⟨p,x,hp,hx,rfl⟩:=zbG hd
  have:=ok.p
  exact zeg (by simp) (by intro z hz; simp at hz; omega)
 ·obtain ⟨c,hc,hd⟩:=zcE hd;obtain ⟨i,r,hi,hr,rfl⟩:=zbG hd
  have:=ok.ri r (List.mem_of_getElem? hr)
  exact zeg (by simp) (by intro z hz; simp at hz; omega)
 ·obtain ⟨i,e,hi,he,rfl⟩:=zbG hd
  have:=ok.fi e (List.mem_of_getElem? he)
  exact zeg (by simp) (by intro z hz; simp at hz; omega)

theorem zh4 {B:BR}:∀d∈zaf B,LitB d:=by
 unfold zaf
 split
 ·next h=>exact ziH h
 ·intro d hd; cases hd

theorem zf6 {B:BR} (ok:MbOk B):(zbS B).length≤100:=by
 have h1:=zaQ (g:=zZ B) (m:=6) (fun c=>Nat.le_trans (zap _ _ _) ok.p) 4;have h2:=zaQ (g:=zaC B) (m:=6) (fun c=>Nat.le_trans (zap _ _ _) ok.r) 3;have h3:(zdt B).length≤B.f.length:=zap entB B.f B.f.length;have h4:(zam B).length=5:=rfl;have h5:=ok.f;unfold zbS;simp only [List.length_append];omega

theorem zdv (B:BR):(zaf B).length≤100:=by
 unfold zaf
 split
 ·next h=>exact zf6 (mb_ok h)
 ·simp

theorem zc7 {B:BR} {l:List BI} (h:l.map BI.d=zaf B) {x:BI} (hx:x∈l):LitB x.d:=zh4 x.d (by rw [← h]; exact List.mem_map_of_mem hx)

theorem zgO (l:List FE) (t m:Int):(∃(i:Nat) (x:FE),atF l t m=i∧i < l.length∧l[i]? = some x∧lookE l t m=some x)∨(atF l t m = -1∧lookE l t m=none):=by
 cases hf:l.findIdx? (fun e=>both e t m) with
 | none =>
  refine .inr ⟨by unfold atF; rw [hf], ?_⟩;rw [List.findIdx?_eq_none_iff] at hf;exact zeO.2 (fun e he hb=>by have:=hf e he; rw [zbr.2 hb] at this; cases this)
 | some i =>
  obtain ⟨hi,hp,hno⟩:=List.findIdx?_eq_some_iff_getElem.1 hf;refine .inl ⟨i,l[i],by unfold atF; rw [hf],hi,List.getElem?_eq_getElem hi, ?_⟩;unfold lookE;rw [List.find?_eq_some_iff_getElem];exact ⟨hp,i,hi,rfl,fun j hj=>by simpa using hno j hj⟩

theorem zes (ao:Option Addr) (n cap:Nat) (l:List FE) (t m p:Int) (w:World) (h:GRow fentF w ao n cap l) (hn:n≤16777216) :
  Calls Tryz.prog 109 #[.slice ao n cap,.int .i64 t,.int .i64 m,.int .i64 p] w fun r w'=>∃ao' cap',r=.returned (.slice ao' (za9 l t m p).length cap')∧w'.ownsRow w.heap.size 116 5 (.slice ao' (za9 l t m p).length cap') (za9 l t m p).length (fentF.all (za9 l t m p))∧GRow fentF w' ao' (za9 l t m p).length cap' (za9 l t m p)∧Below w.heap.size w w':=by
 have q0:=zh w (.cells #[.int .i64 t,.int .i64 m,.int .i64 p,.int .i64 0,.bool false] 116);have k0:=zy w (.cells #[.int .i64 t,.int .i64 m,.int .i64 p,.int .i64 0,.bool false] 116);obtain rfl:=h.size;have hla:=zgO l t m;cases hc:zcl l t m p
 ·rw [show za9 l t m p=l by unfold za9; rw [hc]; rfl];unfold zcl at hc;cases h1:fdbOk l
  ·have H1:=hide h1;clear hc h1;go_enter Tryz.func109,Tryz.ntmps109;(go_wp2_with fail);generalize w.alloc (.cells #[.int .i64 t,.int .i64 m,.int .i64 p,.int .i64 0,.bool false] 116)=wb at *;refine (zaK _ _ _ l t m _ (h.below q0)).mono ?_;rintro r w1 ⟨rfl,rfl⟩;(go_wp2_with fail);refine (zN _ _ _ l _ (h.below q0)).mono ?_;rintro r wx ⟨rfl,hbx⟩;rw [H1.out];have bx:=zd q0 hbx;clear hbx;(go_wp2_with fail);refine (zaz _ _ _ l _ (h.below bx) hn).mono ?_;rintro r w9 ⟨ao9,cap9,rfl,ho9,hr9,hb9⟩;have HO:=hide (zae ho9 (base':=w.heap.size) bx.size);have HR:=hide hr9;have HB:=hide (zd bx hb9);clear ho9 hr9 hb9 bx;go_wp2;go_ret;exact ⟨_,_,rfl,HO.out,HR.out,HB.out⟩
  ·cases h2:entOk (⟨t,m,p,0,false⟩:FE)
   ·have H1:=hide h1;have H2:=hide h2;clear hc h1 h2;go_enter Tryz.func109,Tryz.ntmps109;(go_wp2_with fail);generalize w.alloc (.cells #[.int .i64 t,.int .i64 m,.int .i64 p,.int .i64 0,.bool false] 116)=wb at *;refine (zaK _ _ _ l t m _ (h.below q0)).mono ?_;rintro r w1 ⟨rfl,rfl⟩;(go_wp2_with fail);refine (zN _ _ _ l _ (h.below q0)).mono ?_;rintro r wy ⟨rfl,hby⟩;rw [H1.out];obtain ⟨⟨x0,x1,x2,x3,x4⟩,-⟩:=zo (ze k0 hby);(go_wp2_with fail);refine (zag (⟨t,m,p,0,false⟩:FE) _).mono ?_;rintro r wx ⟨rfl,hbx⟩;rw [H2.out];have bx:=zd q0 (zd hby hbx);clear hby hbx x0 x1 x2 x3 x4;(go_wp2_with fail);refine (zaz _ _ _ l _ (h.below bx) hn).mono ?_;rintro r w9 ⟨ao9,cap9,rfl,ho9,hr9,hb9⟩;have HO:=hide (zae ho9 (base':=w.heap.size) bx.size);have HR:=hide hr9;have HB:=hide (zd bx hb9);clear ho9 hr9 hb9 bx;go_wp2;go_ret;exact ⟨_,_,rfl,HO.out,HR.out,HB.out⟩
   ·rw [h1,h2,Bool.true_and,Bool.true_and] at hc;have H1:=hide h1;have H2:=hide h2;clear h1 h2;rcases hla with ⟨i,x,hat,hi,hx,hlk⟩ | ⟨hat,hlk⟩
    ·rw [hlk] at hc;have hs:x.s=true:=by simpa using hc
     have HAT:=hide hat;have hat1:(i:Int)≥0:=by omega
     have hat2:¬(i:Int) < 0:=by omega
     clear hc hat;go_enter Tryz.func109,Tryz.ntmps109;(go_wp2_with fail);generalize w.alloc (.cells #[.int .i64 t,.int .i64 m,.int .i64 p,.int .i64 0,.bool false] 116)=wb at *;refine (zaK _ _ _ l t m _ (h.below q0)).mono ?_;rintro r w1 ⟨rfl,rfl⟩;rw [HAT.out];(go_wp2_with fail);refine (zN _ _ _ l _ (h.below q0)).mono ?_;rintro r wy ⟨rfl,hby⟩;rw [H1.out];obtain ⟨⟨x0,x1,x2,x3,x4⟩,-⟩:=zo (ze k0 hby);(go_wp2_with fail);refine (zag (⟨t,m,p,0,false⟩:FE) _).mono ?_;rintro r wx ⟨rfl,hbx⟩;rw [H2.out];have bx:=zd q0 (zd hby hbx);obtain ⟨x',b,off,hx',rfl,-,-,-,-,c4⟩:=zaP (h.below bx) i hi;rw [hx] at hx';cases hx';rw [hs] at c4;clear hby hbx x0 x1 x2 x3 x4;(go_wp2_with fail);refine (zaz _ _ _ l _ (h.below bx) hn).mono ?_;rintro r w9 ⟨ao9,cap9,rfl,ho9,hr9,hb9⟩;have HO:=hide (zae ho9 (base':=w.heap.size) bx.size);have HR:=hide hr9;have HB:=hide (zd bx hb9);clear ho9 hr9 hb9 bx;go_wp2;go_ret;exact ⟨_,_,rfl,HO.out,HR.out,HB.out⟩
    ·rw [hlk] at hc;have hlen:¬l.length < 12:=by simpa using hc
     have HAT:=hide hat;clear hc hat;go_enter Tryz.func109,Tryz.ntmps109;(go_wp2_with fail);generalize w.alloc (.cells #[.int .i64 t,.int .i64 m,.int .i64 p,.int .i64 0,.bool false] 116)=wb at *;refine (zaK _ _ _ l t m _ (h.below q0)).mono ?_;rintro r w1 ⟨rfl,rfl⟩;rw [HAT.out];(go_wp2_with fail);refine (zN _ _ _ l _ (h.below q0)).mono ?_;rintro r wy ⟨rfl,hby⟩;rw [H1.out];obtain ⟨⟨x0,x1,x2,x3,x4⟩,-⟩:=zo (ze k0 hby);(go_wp2_with fail);refine (zag (⟨t,m,p,0,false⟩:FE) _).mono ?_;rintro r wx ⟨rfl,hbx⟩;rw [H2.out];have bx:=zd q0 (zd hby hbx);have i5:(12:Int)≤(l.length:Int):=by omega
     clear hby hbx x0 x1 x2 x3 x4;(go_wp2_with fail);refine (zaz _ _ _ l _ (h.below bx) hn).mono ?_;rintro r w9 ⟨ao9,cap9,rfl,ho9,hr9,hb9⟩;have HO:=hide (zae ho9 (base':=w.heap.size) bx.size);have HR:=hide hr9;have HB:=hide (zd bx hb9);clear ho9 hr9 hb9 bx;go_wp2;go_ret;exact ⟨_,_,rfl,HO.out,HR.out,HB.out⟩
 ·rw [show za9 l t m p=putF8 (⟨t,m,p,0,false⟩:FE) l by unfold za9; rw [hc]; rfl];unfold zcl at hc;simp only [Bool.and_eq_true] at hc;obtain ⟨h1,h2,h3⟩:=hc;have H1:=hide h1;have H2:=hide h2;clear h1 h2;rcases hla with ⟨i,x,hat,hi,hx,hlk⟩ | ⟨hat,hlk⟩
  ·rw [hlk] at h3;have hs:x.s=false:=by simpa using h3
   have HAT:=hide hat;have hat1:(i:Int)≥0:=by omega
   have hat2:¬(i:Int) < 0:=by omega
   clear h3 hat;go_enter Tryz.func109,Tryz.ntmps109;(go_wp2_with fail);generalize w.alloc (.cells #[.int .i64 t,.int .i64 m,.int .i64 p,.int .i64 0,.bool false] 116)=wb at *;refine (zaK _ _ _ l t m _ (h.below q0)).mono ?_;rintro r w1 ⟨rfl,rfl⟩;rw [HAT.out];(go_wp2_with fail);refine (zN _ _ _ l _ (h.below q0)).mono ?_;rintro r wy ⟨rfl,hby⟩;rw [H1.out];obtain ⟨⟨x0,x1,x2,x3,x4⟩,-⟩:=zo (ze k0 hby);(go_wp2_with fail);refine (zag (⟨t,m,p,0,false⟩:FE) _).mono ?_;rintro r wx ⟨rfl,hbx⟩;rw [H2.out];have bx:=zd q0 (zd hby hbx);have kx:=ze k0 (zd hby hbx);obtain ⟨x',b,off,hx',rfl,-,-,-,-,c4⟩:=zaP (h.below bx) i hi;rw [hx] at hx';cases hx';rw [hs] at c4;clear hby hbx x0 x1 x2 x3 x4;obtain ⟨⟨x0,x1,x2,x3,x4⟩,-⟩:=zo kx;(go_wp2_with fail);refine (zbx _ _ _ l (⟨t,m,p,0,false⟩:FE) _ (h.below bx) hn).mono ?_;rintro r w9 ⟨ao9,cap9,rfl,ho9,hr9,hb9⟩;have HO:=hide (zae ho9 (base':=w.heap.size) bx.size);have HR:=hide hr9;have HB:=hide (zd bx hb9);clear ho9 hr9 hb9 bx x0 x1 x2 x3 x4;go_wp2;go_ret;exact ⟨_,_,rfl,HO.out,HR.out,HB.out⟩
  ·rw [hlk] at h3;have hlen:l.length < 12:=by simpa using h3
   have HAT:=hide hat;clear h3 hat;go_enter Tryz.func109,Tryz.ntmps109;(go_wp2_with fail);generalize w.alloc (.cells #[.int .i64 t,.int .i64 m,.int .i64 p,.int .i64 0,.bool false] 116)=wb at *;refine (zaK _ _ _ l t m _ (h.below q0)).mono ?_;rintro r w1 ⟨rfl,rfl⟩;rw [HAT.out];(go_wp2_with fail);refine (zN _ _ _ l _ (h.below q0)).mono ?_;rintro r wy ⟨rfl,hby⟩;rw [H1.out];obtain ⟨⟨x0,x1,x2,x3,x4⟩,-⟩:=zo (ze k0 hby);(go_wp2_with fail);refine (zag (⟨t,m,p,0,false⟩:FE) _).mono ?_;rintro r wx ⟨rfl,hbx⟩;rw [H2.out];have bx:=zd q0 (zd hby hbx);have kx:=ze k0 (zd hby hbx);have i5:¬(12:Int)≤(l.length:Int):=by omega
   clear hby hbx x0 x1 x2 x3 x4;obtain ⟨⟨x0,x1,x2,x3,x4⟩,-⟩:=zo kx;(go_wp2_with fail);refine (zbx _ _ _ l (⟨t,m,p,0,false⟩:FE) _ (h.below bx) hn).mono ?_;rintro r w9 ⟨ao9,cap9,rfl,ho9,hr9,hb9⟩;have HO:=hide (zae ho9 (base':=w.heap.size) bx.size);have HR:=hide hr9;have HB:=hide (zd bx hb9);clear ho9 hr9 hb9 bx x0 x1 x2 x3 x4;go_wp2;go_ret;exact ⟨_,_,rfl,HO.out,HR.out,HB.out⟩

theorem zfJ (ao:Option Addr) (n cap:Nat) (l:List FE) (t m p:Int) (w:World) (h:GRow fentF w ao n cap l) (hn:n≤16777216) :
  Calls Tryz.prog 111 #[.slice ao n cap,.int .i64 t,.int .i64 m,.int .i64 p] w fun r w'=>∃ao' cap',r=.returned (.tuple #[.slice ao' (setF l t m p).length cap',.bool (zdP l t m p)])∧w'.ownsRow w.heap.size 116 5 (.slice ao' (setF l t m p).length cap') (setF l t m p).length (fentF.all (setF l t m p))∧GRow fentF w' ao' (setF l t m p).length cap' (setF l t m p)∧Below w.heap.size w w':=by
 have q0:=zh w (.cells #[.int .i64 t,.int .i64 m,.int .i64 p,.int .i64 0,.bool true] 116);have k0:=zy w (.cells #[.int .i64 t,.int .i64 m,.int .i64 p,.int .i64 0,.bool true] 116);obtain rfl:=h.size;have hla:=zgO l t m;cases hc:zdP l t m p
 ·rw [show setF l t m p=l by unfold setF; rw [hc]; rfl];unfold zdP at hc;cases h1:fdbOk l
  ·have H1:=hide h1;clear hc h1;go_enter Tryz.func111,Tryz.ntmps111;(go_wp2_with fail);generalize w.alloc (.cells #[.int .i64 t,.int .i64 m,.int .i64 p,.int .i64 0,.bool true] 116)=wb at *;refine (zN _ _ _ l _ (h.below q0)).mono ?_;rintro r wy ⟨rfl,hby⟩;rw [H1.out];have bx:=zd q0 hby;have kx:=ze k0 hby;clear hby;(go_wp2_with fail);refine (zaz _ _ _ l _ (h.below bx) hn).mono ?_;rintro r w9 ⟨ao9,cap9,rfl,ho9,hr9,hb9⟩;have HO:=hide (zae ho9 (base':=w.heap.size) bx.size);have HR:=hide hr9;have HB:=hide (zd bx hb9);clear ho9 hr9 hb9 bx;go_wp2;exact bodyPost_ret (v:=.tuple #[.slice ao9 l.length cap9,.bool false]) (by simp [results,Tryz.results111,go_sem, *]) rfl ⟨_,_,rfl,HO.out,HR.out,HB.out⟩
  ·cases h2:entOk (⟨t,m,p,0,true⟩:FE)
   ·have H1:=hide h1;have H2:=hide h2;clear hc h1 h2;go_enter Tryz.func111,Tryz.ntmps111;(go_wp2_with fail);generalize w.alloc (.cells #[.int .i64 t,.int .i64 m,.int .i64 p,.int .i64 0,.bool true] 116)=wb at *;refine (zN _ _ _ l _ (h.below q0)).mono ?_;rintro r wy ⟨rfl,hby⟩;rw [H1.out];obtain ⟨⟨x0,x1,x2,x3,x4⟩,-⟩:=zo (ze k0 hby);(go_wp2_with fail);refine (zag (⟨t,m,p,0,true⟩:FE) _).mono ?_;rintro r wx ⟨rfl,hbx⟩;rw [H2.out];have bx:=zd q0 (zd hby hbx);have kx:=ze k0 (zd hby hbx);clear hby hbx x0 x1 x2 x3 x4;(go_wp2_with fail);refine (zaz _ _ _ l _ (h.below bx) hn).mono ?_;rintro r w9 ⟨ao9,cap9,rfl,ho9,hr9,hb9⟩;have HO:=hide (zae ho9 (base':=w.heap.size) bx.size);have HR:=hide hr9;have HB:=hide (zd bx hb9);clear ho9 hr9 hb9 bx;go_wp2;exact bodyPost_ret (v:=.tuple #[.slice ao9 l.length cap9,.bool false]) (by simp [results,Tryz.results111,go_sem, *]) rfl ⟨_,_,rfl,HO.out,HR.out,HB.out⟩
   ·rw [h1,h2,Bool.true_and,Bool.true_and] at hc;have H1:=hide h1;have H2:=hide h2;clear h1 h2;rcases hla with ⟨i,x,hat,hi,hx,hlk⟩ | ⟨hat,hlk⟩
    ·rw [hlk] at hc
     simp at hc
    ·rw [hlk] at hc;have hlen:¬l.length < 12:=by simpa using hc
     have i5:(12:Int)≤(l.length:Int):=by omega
     have HAT:=hide hat;clear hc hat;go_enter Tryz.func111,Tryz.ntmps111;(go_wp2_with fail);generalize w.alloc (.cells #[.int .i64 t,.int .i64 m,.int .i64 p,.int .i64 0,.bool true] 116)=wb at *;refine (zN _ _ _ l _ (h.below q0)).mono ?_;rintro r wy ⟨rfl,hby⟩;rw [H1.out];obtain ⟨⟨x0,x1,x2,x3,x4⟩,-⟩:=zo (ze k0 hby);(go_wp2_with fail);refine (zag (⟨t,m,p,0,true⟩:FE) _).mono ?_;rintro r wx ⟨rfl,hbx⟩;rw [H2.out];have bx:=zd q0 (zd hby hbx);have kx:=ze k0 (zd hby hbx);clear hby hbx x0 x1 x2 x3 x4;(go_wp2_with fail);refine (zaK _ _ _ l t m _ (h.below bx)).mono ?_;rintro r w1 ⟨rfl,rfl⟩;rw [HAT.out];(go_wp2_with fail);refine (zaz _ _ _ l _ (h.below bx) hn).mono ?_;rintro r w9 ⟨ao9,cap9,rfl,ho9,hr9,hb9⟩;have HO:=hide (zae ho9 (base':=w.heap.size) bx.size);have HR:=hide hr9;have HB:=hide (zd bx hb9);clear ho9 hr9 hb9 bx;go_wp2;exact bodyPost_ret (v:=.tuple #[.slice ao9 l.length cap9,.bool false]) (by simp [results,Tryz.results111,go_sem, *]) rfl ⟨_,_,rfl,HO.out,HR.out,HB.out⟩
 ·rw [show setF l t m p=putF8 (⟨t,m,p,0,true⟩:FE) l by unfold setF; rw [hc]; rfl];unfold zdP at hc;simp only [Bool.and_eq_true] at hc;obtain ⟨h1,h2,h3⟩:=hc;have H1:=hide h1;have H2:=hide h2;clear h1 h2;rcases hla with ⟨i,x,hat,hi,hx,hlk⟩ | ⟨hat,hlk⟩
  ·have HAT:=hide hat;have hat2:¬(i:Int) < 0:=by omega
   clear h3 hat;go_enter Tryz.func111,Tryz.ntmps111;(go_wp2_with fail);generalize w.alloc (.cells #[.int .i64 t,.int .i64 m,.int .i64 p,.int .i64 0,.bool true] 116)=wb at *;refine (zN _ _ _ l _ (h.below q0)).mono ?_;rintro r wy ⟨rfl,hby⟩;rw [H1.out];obtain ⟨⟨x0,x1,x2,x3,x4⟩,-⟩:=zo (ze k0 hby);(go_wp2_with fail);refine (zag (⟨t,m,p,0,true⟩:FE) _).mono ?_;rintro r wx ⟨rfl,hbx⟩;rw [H2.out];have bx:=zd q0 (zd hby hbx);have kx:=ze k0 (zd hby hbx);clear hby hbx x0 x1 x2 x3 x4;(go_wp2_with fail);refine (zaK _ _ _ l t m _ (h.below bx)).mono ?_;rintro r w1 ⟨rfl,rfl⟩;rw [HAT.out];obtain ⟨⟨x0,x1,x2,x3,x4⟩,-⟩:=zo kx;(go_wp2_with fail);refine (zbx _ _ _ l (⟨t,m,p,0,true⟩:FE) _ (h.below bx) hn).mono ?_;rintro r w9 ⟨ao9,cap9,rfl,ho9,hr9,hb9⟩;have HO:=hide (zae ho9 (base':=w.heap.size) bx.size);have HR:=hide hr9;have HB:=hide (zd bx hb9);clear ho9 hr9 hb9 bx x0 x1 x2 x3 x4;go_wp2;exact bodyPost_ret (v:=.tuple #[.slice ao9 (putF8 (⟨t,m,p,0,true⟩:FE) l).length cap9,.bool true]) (by simp [results,Tryz.results111,go_sem, *]) rfl ⟨_,_,rfl,HO.out,HR.out,HB.out⟩
  ·rw [hlk] at h3;have hlen:l.length < 12:=by simpa using h3
   have i5:¬(12:Int)≤(l.length:Int):=by omega
   have HAT:=hide hat;clear h3 hat;go_enter Tryz.func111,Tryz.ntmps111;(go_wp2_with fail);generalize w.alloc (.cells #[.int .i64 t,.int .i64 m,.int .i64 p,.int .i64 0,.bool true] 116)=wb at *;refine (zN _ _ _ l _ (h.below q0)).mono ?_;rintro r wy ⟨rfl,hby⟩;rw [H1.out];obtain ⟨⟨x0,x1,x2,x3,x4⟩,-⟩:=zo (ze k0 hby);(go_wp2_with fail);refine (zag (⟨t,m,p,0,true⟩:FE) _).mono ?_;rintro r wx ⟨rfl,hbx⟩;rw [H2.out];have bx:=zd q0 (zd hby hbx);have kx:=ze k0 (zd hby hbx);clear hby hbx x0 x1 x2 x3 x4;(go_wp2_with fail);refine (zaK _ _ _ l t m _ (h.below bx)).mono ?_;rintro r w1 ⟨rfl,rfl⟩;rw [HAT.out];obtain ⟨⟨x0,x1,x2,x3,x4⟩,-⟩:=zo kx;(go_wp2_with fail);refine (zbx _ _ _ l (⟨t,m,p,0,true⟩:FE) _ (h.below bx) hn).mono ?_;rintro r w9 ⟨ao9,cap9,rfl,ho9,hr9,hb9⟩;have HO:=hide (zae ho9 (base':=w.heap.size) bx.size);have HR:=hide hr9;have HB:=hide (zd bx hb9);clear ho9 hr9 hb9 bx x0 x1 x2 x3 x4;go_wp2;exact bodyPost_ret (v:=.tuple #[.slice ao9 (putF8 (⟨t,m,p,0,true⟩:FE) l).length cap9,.bool true]) (by simp [results,Tryz.results111,go_sem, *]) rfl ⟨_,_,rfl,HO.out,HR.out,HB.out⟩

theorem zij {l:List VR} {id:Int} (h:zaw l id=none):rowAt l id = -1:=by unfold rowAt; rw [h]
theorem zhr {l:List VR} {id:Int} {k:Nat} (h:zaw l id=some k):rowAt l id=k:=by unfold rowAt; rw [h]

theorem zbA (a:Option Addr) (n c:Nat) (o:Option Addr) (p q:Nat) (v:VT) (ports:Int) (w:World) (h:VTab w a n c o p q v) (hR:∀r∈v.rows,r.Rng) :
  Calls Tryz.prog 67 #[.agg #[.slice a n c,.slice o p q],.int .i64 ports] w fun r w'=>r=.returned (.bool (zL v ports))∧Below w.heap.size w w':=by
 have hle:=h.rows.le;have htop:=h.rows.top;have hle2:=h.own.le;have htop2:=h.own.top;unfold maxLen at htop htop2;have hsz:=hide h.rows.size;have hsz2:=hide h.own.size;generalize hw1:w.alloc (Obj.cells #[Value.slice a n c,Value.slice o p q] 29)=w1;have hW:=zb hw1;obtain ⟨e0,e1⟩:=zD hw1 (Below.refl _ w1);have h:=h.below hW;generalize hV:zL v ports=V;have HV:=hide hV;clear hV;cases t1:(decide (1≤ports) && decide (ports≤6))
 ·have HN:=hide (ziP (v:=v) t1);have T1:=hide t1;clear t1;go_enter Tryz.func67,Tryz.ntmps67;go_wp2_with (refine (zaH ports 1 6 _).mono ?_; rintro r w2 ⟨rfl,e2⟩; obtain rfl:=e2.symm; rw [T1.out])
  go_ret;exact ⟨zw (by rw [← HV.out,HN.out]),hW⟩
 have T1:=hide t1;simp only [Bool.and_eq_true,decide_eq_true_eq] at t1;by_cases t2:(p:Int)=ports
 case neg =>
  have HN:=hide (ziu (v:=v) (ports:=ports) (by rw [hsz2.out]; exact t2));go_enter Tryz.func67,Tryz.ntmps67;go_wp2_with (refine (zaH ports 1 6 _).mono ?_; rintro r w2 ⟨rfl,e2⟩; obtain rfl:=e2.symm; rw [T1.out])
  go_ret;exact ⟨zw (by rw [← HV.out,HN.out]),hW⟩
 subst t2;by_cases t3:n≤6
 case neg =>
  have HN:=hide (zhE (v:=v) (ports:=p) (by rw [hsz.out]; exact t3));go_enter Tryz.func67,Tryz.ntmps67;go_wp2_with (refine (zaH (p:Int) 1 6 _).mono ?_; rintro r w2 ⟨rfl,e2⟩; obtain rfl:=e2.symm; rw [T1.out])
  go_ret;exact ⟨zw (by rw [← HV.out,HN.out]),hW⟩
 cases t4:vrises v.rows
 ·have HN:=hide (zhF (v:=v) (ports:=p) t4);have T4:=hide t4;clear t4;go_enter Tryz.func67,Tryz.ntmps67;go_wp2_with (refine (zaH (p:Int) 1 6 _).mono ?_; rintro r w2 ⟨rfl,e2⟩; obtain rfl:=e2.symm; rw [T1.out])
  refine (zbz a n c o p q _).mono ?_;rintro r w2 ⟨rfl,hb2⟩;(go_wp2_with fail);refine (zbY a n c v.rows _ (h.rows.below hb2)).mono ?_;rintro r w3 ⟨rfl,hb3⟩;rw [T4.out];have HB:=hide (zd hW (zd hb2 hb3));clear hb2 hb3;go_wp2;go_ret;exact ⟨zw (by rw [← HV.out,HN.out]),HB.out⟩
 have T4:=hide t4;clear t4;go_enter Tryz.func67,Tryz.ntmps67;go_wp2_with (refine (zaH (p:Int) 1 6 _).mono ?_; rintro r w2 ⟨rfl,e2⟩; obtain rfl:=e2.symm; rw [T1.out])
 refine (zbz a n c o p q _).mono ?_;rintro r w2 ⟨rfl,hb2⟩;go_wp2_with fail
 refine (zbY a n c v.rows _ (h.rows.below hb2)).mono ?_;rintro r w3 ⟨rfl,hb3⟩;rw [T4.out];have b13:=zd hb2 hb3;obtain ⟨x0,x1⟩:=zD hw1 b13;clear hb2 hb3 e0 e1;go_wp2
 go_loopw [34] (fun i wr=>∃k:Nat,k≤n∧i=.int .i64 k∧zgc (allOf p) v.rows k∧Below w1.heap.size w1 wr) (fun i _=>n - (intOf i).toNat)
 case atStart=>exact ⟨0,Nat.zero_le _,rfl,fun i x hi=>by omega,b13⟩
 case round =>
  obtain ⟨k,hk,rfl,hok,hb⟩:=hrel;by_cases hlt:k < n
  ·obtain ⟨x,b,off,hx,rfl,c0,c1,c2⟩:=zaD (h.rows.below hb) k hlt;have hxr:x.Rng:=hR x (List.mem_of_getElem? hx);cases t5:zaT (allOf p) x
   ·have HN:=hide (ziv (v:=v) (p:=p) hx t5);have T5:=hide t5;have HB:=hide hb;clear t5 hok hb hx x0 x1;(go_wp2_with fail);refine (zcb x p _ hxr (by omega) (by omega)).mono ?_;rintro r w5 ⟨rfl,hb5⟩;rw [T5.out];have HB1:=hide (zd hW (zd HB.out (zd (zh _ _) hb5)));clear hb5 c0 c1 c2;go_wp2;go_ret;exact ⟨zw (by rw [← HV.out,HN.out]),HB1.out⟩
   ·have HO:=hide (zfI hok hx t5);have T5:=hide t5;have HB:=hide hb;clear t5 hok hb hx x0 x1;(go_wp2_with fail);refine (zcb x p _ hxr (by omega) (by omega)).mono ?_;rintro r w5 ⟨rfl,hb5⟩;rw [T5.out];have HB1:=hide (zd HB.out (zd (zh _ _) hb5));clear hb5 c0 c1 c2;go_wp2
    go_roundw
    case rel=>exact ⟨k+1,by omega,by go_num,HO.out,HB1.out⟩
    case measure=>simp [intOf]; omega
  ·have HK:Hid (vokTo (allOf p) v.rows v.rows.length):=hide (zis (fun i x hi hx=>hok i x (by have:=hsz.out; omega) hx) T4.out);obtain ⟨y0,y1⟩:=zD hw1 hb;have HB:=hide hb;have hkn:k=n:=by omega
   clear hok hb x0 x1;subst hkn;go_wp2
   go_loopw [46] (fun i wr=>∃k:Nat,k≤p∧i=.int .i64 k∧ownTo v k∧Below w1.heap.size w1 wr) (fun i _=>p - (intOf i).toNat)
   case atStart=>exact ⟨0,Nat.zero_le _,rfl,fun i x hi=>by omega,HB.out⟩
   case round =>
    obtain ⟨j,hj,rfl,hto,hb⟩:=hrel;by_cases hlt:j < p
    ·obtain ⟨x,b,off,hx,rfl,c0⟩:=zfq (h.own.below hb) j hlt;obtain ⟨z0,z1⟩:=zD hw1 hb;clear y0 y1;cases hr:zaw v.rows x with
     | none =>
      have HN:=hide (zgg (p:=p) (List.mem_of_getElem? hx) hr);have HA:=hide (zij hr);have HB3:=hide hb;clear hto hb hx hr;(go_wp2_with fail);refine (zcq a k c v.rows (some ⟨b,off,none⟩) p q x _ (h.rows.below HB3.out)).mono ?_;rintro r w5 ⟨rfl,hb5⟩;rw [HA.out];have HB1:=hide (zd hW (zd HB3.out hb5));clear hb5 c0 z0 z1;go_wp2;go_ret;exact ⟨zw (by rw [← HV.out,HN.out]),HB1.out⟩
     | some i =>
      have HO:=hide (zd0 hto hx (by rw [hr]; exact fun h=>by cases h));have HA:=hide (zhr hr);have HB3:=hide hb;have hneg:¬((i:Int) < 0):=by omega
      clear hto hb hx hr;(go_wp2_with fail);refine (zcq a k c v.rows (some ⟨b,off,none⟩) p q x _ (h.rows.below HB3.out)).mono ?_;rintro r w5 ⟨rfl,hb5⟩;rw [HA.out];have HB1:=hide (zd HB3.out hb5);clear hb5 c0 z0 z1;go_wp2
      go_roundw
      case rel=>exact ⟨j+1,by omega,by go_num,HO.out,HB1.out⟩
      case measure=>simp [intOf]; omega
    ·have HN:Hid (zL v p=true):=hide (zgh t1.1 t1.2 hsz2.out (by have:=hsz.out; omega) HK.out (zeZ hto (by have:=hsz2.out; omega)));have HB3:=hide (zd hW hb);have hjn:j=p:=by omega
     clear hto hb y0 y1;subst hjn;go_wp2;go_ret;exact ⟨zw (by rw [← HV.out,HN.out]),HB3.out⟩

def newPt:PT:=⟨false,1,false,⟨0,0,0,0,0⟩⟩
def zeroBr:BR:=⟨0,ByteArray.empty,[],[],⟨[],[]⟩,0,0,0,0,0⟩
def zaG (id:Int) (m:Nat):BR:=⟨id,ByteArray.empty,List.replicate m newPt,[],zbB m,0,0,0,0,0⟩

theorem BrOwn.boxed11 {w:World} {base:Nat} {a:Option Addr} {n c:Nat} {fa:Option Addr} {fn fc:Nat} {ra:Option Addr} {rn rc:Nat} {oa:Option Addr} {on oc:Nat} {B:BR} (h:BrOwn w base a n c fa fn fc ra rn rc oa on oc B) {X:Nat} {cs:Array Value} (hX:w.heap[X]? = some (.cells cs 31)) (u0 u1 u2 u3 u4 u5 u6 u7 u8 u9 u10:Value):BrOwn (((((((((((w.setCell ⟨X,0,none⟩ u0).setCell ⟨X,1,none⟩ u1).setCell ⟨X,2,none⟩ u2).setCell ⟨X,3,none⟩ u3).setCell ⟨X,4,none⟩ u4).setCell ⟨X,5,none⟩ u5).setCell ⟨X,6,none⟩ u6).setCell ⟨X,7,none⟩ u7).setCell ⟨X,8,none⟩ u8).setCell ⟨X,9,none⟩ u9).setCell ⟨X,10,none⟩ u10) base a n c fa fn fc ra rn rc oa on oc B :=
 (BrOwn.boxed (BrOwn.boxed (BrOwn.boxed (BrOwn.boxed (BrOwn.boxed (BrOwn.boxed (BrOwn.boxed (BrOwn.boxed (BrOwn.boxed (BrOwn.boxed (BrOwn.boxed h hX 0 u0) (box11 hX 0 u0) 1 u1) (box11 (box11 hX 0 u0) 1 u1) 2 u2) (box11 (box11 (box11 hX 0 u0) 1 u1) 2 u2) 3 u3) (box11 (box11 (box11 (box11 hX 0 u0) 1 u1) 2 u2) 3 u3) 4 u4) (box11 (box11 (box11 (box11 (box11 hX 0 u0) 1 u1) 2 u2) 3 u3) 4 u4) 5 u5) (box11 (box11 (box11 (box11 (box11 (box11 hX 0 u0) 1 u1) 2 u2) 3 u3) 4 u4) 5 u5) 6 u6) (box11 (box11 (box11 (box11 (box11 (box11 (box11 hX 0 u0) 1 u1) 2 u2) 3 u3) 4 u4) 5 u5) 6 u6) 7 u7) (box11 (box11 (box11 (box11 (box11 (box11 (box11 (box11 hX 0 u0) 1 u1) 2 u2) 3 u3) 4 u4) 5 u5) 6 u6) 7 u7) 8 u8) (box11 (box11 (box11 (box11 (box11 (box11 (box11 (box11 (box11 hX 0 u0) 1 u1) 2 u2) 3 u3) 4 u4) 5 u5) 6 u6) 7 u7) 8 u8) 9 u9) (box11 (box11 (box11 (box11 (box11 (box11 (box11 (box11 (box11 (box11 hX 0 u0) 1 u1) 2 u2) 3 u3) 4 u4) 5 u5) 6 u6) 7 u7) 8 u8) 9 u9) 10 u10)

theorem zbH {K:Nat} {a w:World} (h:Below K a w) {g:Nat} (hB:K≤g) (u0 u1 u2 u3 u4 u5 u6 u7 u8 u9 u10:Value):Below K a (((((((((((w.setCell ⟨g,0,none⟩ u0).setCell ⟨g,1,none⟩ u1).setCell ⟨g,2,none⟩ u2).setCell ⟨g,3,none⟩ u3).setCell ⟨g,4,none⟩ u4).setCell ⟨g,5,none⟩ u5).setCell ⟨g,6,none⟩ u6).setCell ⟨g,7,none⟩ u7).setCell ⟨g,8,none⟩ u8).setCell ⟨g,9,none⟩ u9).setCell ⟨g,10,none⟩ u10) :=
 (zi (zi (zi (zi (zi (zi (zi (zi (zi (zi (zi h hB 0 u0) hB 1 u1) hB 2 u2) hB 3 u3) hB 4 u4) hB 5 u5) hB 6 u6) hB 7 u7) hB 8 u8) hB 9 u9) hB 10 u10)

theorem zcy (id:Int) (m:Nat) (w:World) (hid:(decide (1≤id) && decide (id≤99))=true) (hm:(decide (1≤(m:Int)) && decide ((m:Int)≤6))=true) :
  Calls Tryz.prog 105 #[.int .i64 id,.int .i64 m] w fun e w'=>∃(a:Option Addr) (c:Nat) (ra:Option Addr) (rn rc:Nat) (oa:Option Addr) (on oc:Nat),e=.returned (.agg #[.int .i64 id,.string ⟨#[]⟩,.slice a m c,.slice none 0 0,.slice ra rn rc,.slice oa on oc,.int .i64 0,.int .i64 0,.int .i64 0,.int .i64 0,.int .i64 0])∧BrOwn w' w.heap.size a m c none 0 0 ra rn rc oa on oc (zaG id m)∧Below w.heap.size w w':=by
 have h6:m≤6:=by simp at hm; omega
 have HID:=hide hid;have HM:=hide hm;clear hid hm;generalize hw1:w.alloc (Obj.cells #[.int .i64 0,.string ⟨#[]⟩,.slice none 0 0,.slice none 0 0,.slice none 0 0,.slice none 0 0,.int .i64 0,.int .i64 0,.int .i64 0,.int .i64 0,.int .i64 0] 31)=w1;have b1:=zb hw1;have kJ:=zk hw1;go_enter Tryz.func105,Tryz.ntmps105;go_wp2_with fail
 refine (zg id 1 99 _).mono ?_;rintro r wx ⟨rfl,ew⟩;obtain rfl:=ew.symm;rw [HID.out];go_wp2_with fail
 refine (zg (m:Int) 1 6 _).mono ?_;rintro r wx ⟨rfl,ew⟩;obtain rfl:=ew.symm;rw [HM.out];go_wp2_with fail
 refine (zbV (m:Int) _).mono ?_;rintro r w2 ⟨ra,rn,rc,oa,on,oc,rfl,hv,hb2⟩;have hv:=hv.lt (base':=w.heap.size) b1.size;have b2:=zd b1 hb2;have kJ:=ze kJ hb2;clear hw1 hb2 b1;go_upto_region 4 with fail
 generalize hw3:w2.alloc (Obj.cells #[.int .i64 id,.string ⟨#[]⟩,.slice none 0 0,.slice none 0 0,.slice ra rn rc,.slice oa on oc,.int .i64 0,.int .i64 0,.int .i64 0,.int .i64 0,.int .i64 0] 31)=w3;have b3:=zb hw3;have kX:=zk hw3;have kJ:=ze kJ b3;have o3:BrOwn w3 w.heap.size none 0 0 none 0 0 ra rn rc oa on oc { zaG id m with ports:=List.replicate 0 newPt }:=⟨World.ownsRow_nil _ _ _ _,World.ownsRow_nil _ _ _ _,hv.below b3⟩;have HX:Hid (w.heap.size < w2.heap.size):=hide (Array.getElem?_eq_some_iff.1 (show w2.heap[w.heap.size]? = some (.cells #[.int .i64 0,.string ⟨#[]⟩,.slice none 0 0,.slice none 0 0,.slice none 0 0,.slice none 0 0,.int .i64 0,.int .i64 0,.int .i64 0,.int .i64 0,.int .i64 0] 31) from by assumption)).1;have b3:=zd b2 b3;clear hw3 b2 hv;go_wp2_with fail
 go_loopw [6] (fun i wr=>∃(k:Nat) (a:Option Addr) (c:Nat),k≤m∧i=.int .i64 k∧wr.heap[w.heap.size]? = some (.cells #[.int .i64 0,.string ⟨#[]⟩,.slice none 0 0,.slice none 0 0,.slice none 0 0,.slice none 0 0,.int .i64 0,.int .i64 0,.int .i64 0,.int .i64 0,.int .i64 0] 31)∧wr.heap[w2.heap.size]? = some (.cells #[.int .i64 id,.string ⟨#[]⟩,.slice a k c,.slice none 0 0,.slice ra rn rc,.slice oa on oc,.int .i64 0,.int .i64 0,.int .i64 0,.int .i64 0,.int .i64 0] 31)∧BrOwn wr w.heap.size a k c none 0 0 ra rn rc oa on oc { zaG id m with ports:=List.replicate k newPt }∧Below w.heap.size w wr) (fun i _=>m - (intOf i).toNat)
 case atStart=>exact ⟨0,none,0,Nat.zero_le _,rfl,kJ,kX,o3,b3⟩
 case round =>
  obtain ⟨k,a,c,hk,rfl,kJ,kX,o,hb⟩:=hrel;clear o3 b3;obtain ⟨x0,x1,x2,x3,x4,x5,x6,x7,x8,x9,x10⟩:=zj kX;by_cases hlt:k < m
  ·have b9:=zh wr (.cells #[.bool false,.int .i64 1,.bool false,.int .i64 0,.int .i64 0,.int .i64 0,.int .i64 0,.int .i64 0] 113);have o9:=o.below b9;have p9:=o9.ports;have kX9:=ze kX b9;have kR9:=ze kJ b9;have HB9:=hide (zd hb b9);have hbase9:w.heap.size≤(wr.alloc (.cells #[.bool false,.int .i64 1,.bool false,.int .i64 0,.int .i64 0,.int .i64 0,.int .i64 0,.int .i64 0] 113)).heap.size:=HB9.out.size;have HO9:=hide o9;have KX9:=hide kX9;have KR9:=hide kR9;clear hb b9 o9 kX9 kR9 o kX kJ;go_wp2_with (at_builtin; refine zcv _ rfl _ _ rfl w.heap.size _ k (List.replicate k newPt) rfl p9 _ 1 1 [newPt] rfl (zau ptF _ newPt _ _ rfl) (by omega) hbase9 ?_)
   rintro a' c' wz oz - gz bz;have kz:=zr KX9.out gz (fun i e=>zaq HO9.out.ports KX9.out (by decide) i e);have rz:=zr KR9.out gz (fun i e=>zaq HO9.out.ports KR9.out (by decide) i e);have hrep:List.replicate k newPt++[newPt]=List.replicate (k+1) newPt:=by rw [List.replicate_succ']
   rw [hrep] at oz;have on:=HO9.out.newPorts gz oz;have HON:=hide (BrOwn.boxed on kz 2 (.slice a' (k+1) c'));have HKX:=hide (box11 kz 2 (.slice a' (k+1) c'));have HKR:Hid ((wz.setCell ⟨w2.heap.size,2,none⟩ (.slice a' (k+1) c')).heap[w.heap.size]? = some (.cells #[.int .i64 0,.string ⟨#[]⟩,.slice none 0 0,.slice none 0 0,.slice none 0 0,.slice none 0 0,.int .i64 0,.int .i64 0,.int .i64 0,.int .i64 0,.int .i64 0] 31)):=hide (zan rz (Nat.ne_of_lt HX.out));have HBZ:=hide (zi (g:=w2.heap.size) (HB9.out.trans bz) (Nat.le_of_lt HX.out) 2 (.slice a' (k+1) c'));have fz:=zad kz 2;obtain ⟨-,-,y2,-⟩:=zj kz;clear x0 x1 x2 x3 x4 x5 x6 x7 x8 x9 x10 kz rz gz bz oz on p9 hbase9;go_wp2
   go_roundw
   case rel=>exact ⟨k+1,a',c',by omega,by go_num,HKR.out,HKX.out,HON.out,HBZ.out⟩
   case measure=>simp [intOf]; omega
  ·have hkm:k=m:=by omega
   subst hkm;obtain ⟨z0,z1,z2,z3,z4,z5,z6,z7,z8,z9,z10⟩:=zj kJ;have f0:=zad kJ;have ne1:¬w2.heap.size=w.heap.size:=by have:=HX.out; omega
   have ne2:¬w.heap.size=w2.heap.size:=by have:=HX.out; omega
   have HO:=hide (o.boxed11 kJ (.int .i64 id) (.string ⟨#[]⟩) (.slice a k c) (.slice none 0 0) (.slice ra rn rc) (.slice oa on oc) (.int .i64 0) (.int .i64 0) (.int .i64 0) (.int .i64 0) (.int .i64 0));have HB:=hide (zbH hb (Nat.le_refl w.heap.size) (.int .i64 id) (.string ⟨#[]⟩) (.slice a k c) (.slice none 0 0) (.slice ra rn rc) (.slice oa on oc) (.int .i64 0) (.int .i64 0) (.int .i64 0) (.int .i64 0) (.int .i64 0));clear o hb kX kJ;go_wp2;exact bodyPost_ret (v:=.agg #[.int .i64 id,.string ⟨#[]⟩,.slice a k c,.slice none 0 0,.slice ra rn rc,.slice oa on oc,.int .i64 0,.int .i64 0,.int .i64 0,.int .i64 0,.int .i64 0]) (by simp [results,Tryz.results105,go_sem, *]) rfl ⟨a,c,ra,rn,rc,oa,on,oc,rfl,HO.out,HB.out⟩

end Go.Proofs.YtcpdkcdfnpcemaaGreat
