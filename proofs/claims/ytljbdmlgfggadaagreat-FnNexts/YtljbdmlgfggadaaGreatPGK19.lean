/-
  Packed: MibPort MibRow MibEnt MibIn FdbLearnS FdbSetS VlanTab.
-/
import Derived.Test.YtljbdmlgfggadaaGreatPGFdbPutT
import Derived.Test.YtljbdmlgfggadaaGreatPGK18
import Derived.Test.YtljbdmlgfggadaaGreatPGVlanOk
namespace Go.Proofs.YtljbdmlgfggadaaGreat
set_option maxRecDepth 100000
set_option maxHeartbeats 16000000
open Go.RowKit

theorem zeh (a:Option Addr) (n c:Nat) (fa:Option Addr) (fn fc:Nat) (ra:Option Addr) (rn rc:Nat) (oa:Option Addr) (on oc:Nat) (B:BR) (w:World) (h:BrRow w a n c fa fn fc ra rn rc oa on oc B) (ok:MbOk B) :
  Calls Tryz.prog 77 #[.agg #[.int .i64 B.id,.string B.name,.slice a n c,.slice fa fn fc,.slice ra rn rc,.slice oa on oc,.int .i64 B.ticks,.int .i64 B.parse,.int .i64 B.word,.int .i64 B.drops,.int .i64 B.vers]] w fun e w'=>∃(ao:Option Addr) (cap:Nat) (l:List TH),e=.returned (.slice ao l.length cap)∧l.map TH.d=zaa (zaf B) 4∧Things w' w.heap.size ao cap l∧Below w.heap.size w w':=by
 generalize hw1:w.alloc (Obj.cells #[.int .i64 B.id,.string B.name,.slice a n c,.slice fa fn fc,.slice ra rn rc,.slice oa on oc,.int .i64 B.ticks,.int .i64 B.parse,.int .i64 B.word,.int .i64 B.drops,.int .i64 B.vers] 31)=w1;have b1:=zb hw1;have k1:=zk hw1;have HH:=hide h;have hle:=h.ports.le;have htop:=h.ports.top;unfold maxLen at htop;have HLN:Hid (n=B.ports.length):=hide h.ports.size.symm;have hn12:n≤12:=by have:=h.ports.size; have:=ok.p; have:=ok.r; have:=ok.f; omega
 obtain ⟨x0,x1,x2,x3,x4,x5,x6,x7,x8,x9,x10⟩:=zi k1;go_enter Tryz.func77,Tryz.ntmps77;go_wp2_with fail
 clear x0 x1 x2 x3 x4 x5 x6 x7 x8 x9 x10 hw1
 go_loopw [3,4,8] (fun v3 u4 vj wr=>∃(j:Nat) (ao:Option Addr) (cap:Nat) (l:List TL),v3=.slice ao l.length cap∧vj=.int .i64 (j:Int)∧j≤n∧l.length=j∧(∀(i:Nat) (t:TL) x,l[i]?=some t→B.ports[i]?=some x→t.z=[(i:Int)+1])∧Tails wr w1.heap.size ao cap l∧Below w1.heap.size w1 wr) (fun _ _ vj _=>14 - (intOf vj).toNat)
 case atStart=>exact ⟨0,none,0,[],rfl,rfl,Nat.zero_le _,rfl,(by intro i t x hi; simp at hi),zeb _ _,Below.refl _ _⟩
 case round =>
  obtain ⟨j,ao,cap,l,rfl,rfl,hj,hlj,hz,tls,hb⟩:=hrel;have k2:=ze k1 hb;have hbw:=b1.size;by_cases hjn:j < n
  ·have hjn':(j:Int) < (n:Int):=by omega
   have hj12:(j:Int)≤12:=by omega
   obtain ⟨x,hx⟩:∃x,B.ports[j]?=some x:=⟨_,List.getElem?_eq_getElem (by have:=HLN.out; omega)⟩;have HX:=hide hx;have HZ:=hide hz;have HTL:=hide tls;have HB:=hide hb;have HLJ:=hide hlj;have HBW:Hid (w1.heap.size≤wr.heap.size):=hide hb.size;clear k2 tls hb hz hlj;(go_wp2_with fail);refine (zcf (j:Int) (by omega) _).mono ?_;rintro e w5 ⟨rfl,ew⟩;obtain rfl:=ew.symm;have HBR:Hid (Below wr.heap.size wr wr):=hide (Below.refl _ _);generalize hwa:wr.alloc (Obj.cells #[.int .i64 ((j:Int)+1)] 3)=wa;have ba:=zb hwa;have ka:=zk hwa;generalize hwb:wa.alloc (Obj.cells #[.slice (some ⟨wr.heap.size,0,none⟩) 1 1] 27)=wb;have bb:=zb hwb;obtain ⟨y,hy⟩:∃y:TL,y=⟨some ⟨wr.heap.size,0,none⟩,1,1,[((j:Int)+1)]⟩:=⟨_,rfl⟩;have gone:GRow tlF wb (some ⟨wa.heap.size,0,none⟩) 1 1 [y]:=by rw [← hwb]; exact zaA tlF wa y _ _ (by rw [hy]; rfl)
   have HBY:Hid (Below wr.heap.size wr wb):=hide (zd (zd HBR.out ba) bb);have HOY:Hid (wb.ownsRow wr.heap.size 3 1 (.slice y.a y.n y.c) y.n (cI y.z)):=hide (by
    rw [hy]
    have:=zY intF (base:=wr.heap.size) (l:=[((j:Int)+1)]) ka rfl HBR.out.size (by simp)
    rw [← zG];exact zm this bb)
   have HIY:Hid (I64s y.z):=hide (by rw [hy]; intro z hz2; simp at hz2; omega);have HNY:Hid (y.n≤2):=hide (by rw [hy]; show 1≤2; omega);have HYZ:Hid (y.z=[(j:Int)+1]):=hide (by rw [hy]);have hrow:=(HTL.out.below HBY.out).row;have hl12:l.length≤12:=by have:=HLJ.out; omega
   have HBK:Hid (∀k,(Value.slice ao l.length cap).ownBlock=some k→w1.heap.size≤k):=hide (fun k hk=>(HTL.out.row.lt k hk).1);have hbw2:w1.heap.size≤wb.heap.size:=Nat.le_trans HBW.out HBY.out.size;clear ka hy ba bb;go_wp2_with (at_builtin; refine zx (F:=tlF) _ rfl _ _ 151 27 rfl w1.heap.size Tryz.underlying151 zhL rfl (by decide) _ l.length l rfl hrow (some ⟨wa.heap.size,0,none⟩) 1 1 [y] rfl gone (by omega) hbw2 ?_)
   intro ao2 cap2 we how2 _ hgr2 hb2;have HLN2:Hid ((l++[y]).length=l.length+1):=hide (by simp);have HT2:=hide (HTL.out.push (y:=y) HBY.out HOY.out HIY.out HNY.out HBW.out hgr2 (by rw [HLN2.out]; exact how2));have HB2:=hide ((zd HB.out HBY.out).grown hgr2 (Nat.le_trans HB.out.size HBY.out.size) (fun k hk=>HBK.out k hk));clear hrow gone hbw2 how2 hgr2 hb2 hwa hwb;have HZ2:Hid (∀(i:Nat) (t:TL) u,(l++[y])[i]?=some t→B.ports[i]?=some u→t.z=[(i:Int)+1]):=hide (by
    intro i t u hi hu;by_cases hil:i < l.length
    ·rw [List.getElem?_append_left hil] at hi;exact HZ.out i t u hi hu
    ·have hil2:=(List.getElem?_eq_some_iff.1 hi).1;rw [HLN2.out] at hil2;have hij:i=l.length:=by omega
     subst hij
     have:t=y:=by simpa using hi.symm
     rw [this,HYZ.out];rw [← HLJ.out] at HX
     have:=HX.out.symm.trans hu
     cases this;rw [HLJ.out])
   go_wp2
   go_roundw
   case rel=>exact ⟨j+1,ao2,cap2,l++[y],by rw [HLN2.out],by go_num,by omega,by rw [HLN2.out,HLJ.out],HZ2.out,HT2.out,HB2.out⟩
   case measure=>simp [intOf]; omega
  ·have hjn':¬(j:Int) < (n:Int):=by omega
   have hje:l.length=n:=by omega
   have hbs:=Nat.le_trans hbw hb.size;generalize hwc:wr.alloc (Obj.cells #[.func (.func 122) #[] #[.pointer (some ⟨w.heap.size,0,none⟩)],.func (.func 124) #[] #[.pointer (some ⟨w.heap.size,0,none⟩)],.func (.func 125) #[] #[.pointer (some ⟨w.heap.size,0,none⟩)],.func (.func 127) #[] #[.pointer (some ⟨w.heap.size,0,none⟩)]] 122)=wc;have bc:=zb hwc;have kc:=zk hwc;have hcl:=zan (F:=clF) (zY clF (base:=0) (l:=[⟨122,#[.pointer (some ⟨w.heap.size,0,none⟩)]⟩,⟨124,#[.pointer (some ⟨w.heap.size,0,none⟩)]⟩,⟨125,#[.pointer (some ⟨w.heap.size,0,none⟩)]⟩,⟨127,#[.pointer (some ⟨w.heap.size,0,none⟩)]⟩]) kc rfl (Nat.zero_le _) (by simp));have HBS:Hid (w.heap.size≤wc.heap.size):=hide (Nat.le_trans hbs bc.size);have HBC:=hide (zd (zd b1 hb) bc);have HKC:=hide (ze k2 bc);have tlr:=(tls.below bc).reads;have HZ:=hide hz;have hlen:=HLN.out;have HJE:=hide hje;clear k1 k2 kc b1 hb tls bc hz hlj hje;(go_wp2_with fail);refine (zaX 2 _ l.length _ l _ 4 [⟨122,#[.pointer (some ⟨w.heap.size,0,none⟩)]⟩,⟨124,#[.pointer (some ⟨w.heap.size,0,none⟩)]⟩,⟨125,#[.pointer (some ⟨w.heap.size,0,none⟩)]⟩,⟨127,#[.pointer (some ⟨w.heap.size,0,none⟩)]⟩] (portG B) _ tlr.1 tlr.2 (by have:=HJE.out; omega) hcl (by omega) (by omega) ?_).mono ?_
   ·intro i j t ht;obtain ⟨x,hx⟩:∃x,B.ports[j]?=some x:=⟨_,List.getElem?_eq_getElem (by have:=(List.getElem?_eq_some_iff.1 ht).1; have:=HJE.out; omega)⟩;rw [HZ.out j t x ht hx];unfold portG;rw [hx]
    rfl
   rw [HJE.out];rintro e w3 ⟨ao,cap,l,rfl,hd,st⟩;have HB:=hide (zd HBC.out st.below);have KB:=hide (ze HKC.out st.below);have HT:Hid (Things w3 w.heap.size ao cap l):=hide (by
    refine zb0 st (fun i cf hi => ?_) (fun i j => ?_) HBS.out
    ·have him:i < 4:=(List.getElem?_eq_some_iff.1 hi).1;rcases (show i=0∨i=1∨i=2∨i=3 by omega) with rfl | rfl | rfl | rfl
     ·cases hi;refine ⟨enters_of Tryz.func122 (by kernel_rfl) rfl,fun j hj w2 hw2 => ?_⟩;obtain ⟨x,hx⟩:∃x,B.ports[j]?=some x:=⟨_,List.getElem?_eq_getElem (by have:=HLN.out; omega)⟩;have hg:portG B 0 j=portB B 1 j x:=by unfold portG; rw [hx]; rfl
      rw [hg];exact zhy a n c fa fn fc ra rn rc oa on oc B j w.heap.size w2 (ze KB.out hw2) (HH.out.ports.below (zd HB.out hw2)) x hx
     ·cases hi;refine ⟨enters_of Tryz.func124 (by kernel_rfl) rfl,fun j hj w2 hw2 => ?_⟩;obtain ⟨x,hx⟩:∃x,B.ports[j]?=some x:=⟨_,List.getElem?_eq_getElem (by have:=HLN.out; omega)⟩;have hg:portG B 1 j=portB B 2 j x:=by unfold portG; rw [hx]; rfl
      rw [hg];exact zhz a n c fa fn fc ra rn rc oa on oc B j w.heap.size w2 (ze KB.out hw2) (HH.out.ports.below (zd HB.out hw2)) x hx
     ·cases hi;refine ⟨enters_of Tryz.func125 (by kernel_rfl) rfl,fun j hj w2 hw2 => ?_⟩;obtain ⟨x,hx⟩:∃x,B.ports[j]?=some x:=⟨_,List.getElem?_eq_getElem (by have:=HLN.out; omega)⟩;have hg:portG B 2 j=portB B 3 j x:=by unfold portG; rw [hx]; rfl
      rw [hg];exact zhA a n c fa fn fc ra rn rc oa on oc B j w.heap.size w2 (ze KB.out hw2) (HH.out.ports.below (zd HB.out hw2)) x
     ·cases hi;refine ⟨enters_of Tryz.func127 (by kernel_rfl) rfl,fun j hj w2 hw2 => ?_⟩;obtain ⟨x,hx⟩:∃x,B.ports[j]?=some x:=⟨_,List.getElem?_eq_getElem (by have:=HLN.out; omega)⟩;have hg:portG B 3 j=portB B 4 j x:=by unfold portG; rw [hx]; rfl
      rw [hg];exact zhB a n c fa fn fc ra rn rc oa on oc B j w.heap.size w2 (ze KB.out hw2) (HH.out.v.own.below (zd HB.out hw2)) (by have:=HLN.out; have:=HH.out.v.own.size; have:=ok.o; omega) x
    ·unfold portG
     split
     all_goals exact ⟨rfl,Nat.zero_le _⟩
    )
   have HD:=hide hd;clear hd st;go_wp2;go_ret;exact ⟨ao,cap,l,rfl,(by rw [HD.out,HLN.out]; exact zhC B),HT.out,HB.out⟩
   

theorem zeJ (a:Option Addr) (n c:Nat) (fa:Option Addr) (fn fc:Nat) (ra:Option Addr) (rn rc:Nat) (oa:Option Addr) (on oc:Nat) (B:BR) (w:World) (h:BrRow w a n c fa fn fc ra rn rc oa on oc B) (ok:MbOk B) :
  Calls Tryz.prog 78 #[.agg #[.int .i64 B.id,.string B.name,.slice a n c,.slice fa fn fc,.slice ra rn rc,.slice oa on oc,.int .i64 B.ticks,.int .i64 B.parse,.int .i64 B.word,.int .i64 B.drops,.int .i64 B.vers]] w fun e w'=>∃(ao:Option Addr) (cap:Nat) (l:List TH),e=.returned (.slice ao l.length cap)∧l.map TH.d=zaa (zaG B) 3∧Things w' w.heap.size ao cap l∧Below w.heap.size w w':=by
 generalize hw1:w.alloc (Obj.cells #[.int .i64 B.id,.string B.name,.slice a n c,.slice fa fn fc,.slice ra rn rc,.slice oa on oc,.int .i64 B.ticks,.int .i64 B.parse,.int .i64 B.word,.int .i64 B.drops,.int .i64 B.vers] 31)=w1;have b1:=zb hw1;have k1:=zk hw1;have HH:=hide h;have hle:=h.v.rows.le;have htop:=h.v.rows.top;unfold maxLen at htop;have HLN:Hid (rn=B.v.rows.length):=hide h.v.rows.size.symm;have hn12:rn≤12:=by have:=h.v.rows.size; have:=ok.p; have:=ok.r; have:=ok.f; omega
 obtain ⟨x0,x1,x2,x3,x4,x5,x6,x7,x8,x9,x10⟩:=zi k1;go_enter Tryz.func78,Tryz.ntmps78;go_wp2_with fail
 clear x0 x1 x2 x3 x4 x5 x6 x7 x8 x9 x10 hw1
 go_loopw [3,5,10] (fun v3 u5 vj wr=>∃(j:Nat) (ao:Option Addr) (cap:Nat) (l:List TL),v3=.slice ao l.length cap∧vj=.int .i64 (j:Int)∧j≤rn∧l.length=j∧(∀(i:Nat) (t:TL) x,l[i]?=some t→B.v.rows[i]?=some x→t.z=[x.i])∧Tails wr w1.heap.size ao cap l∧Below w1.heap.size w1 wr) (fun _ _ vj _=>14 - (intOf vj).toNat)
 case atStart=>exact ⟨0,none,0,[],rfl,rfl,Nat.zero_le _,rfl,(by intro i t x hi; simp at hi),zeb _ _,Below.refl _ _⟩
 case round =>
  obtain ⟨j,ao,cap,l,rfl,rfl,hj,hlj,hz,tls,hb⟩:=hrel;have k2:=ze k1 hb;have hbw:=b1.size;by_cases hjn:j < rn
  ·have hjn':(j:Int) < (rn:Int):=by omega
   have hj12:(j:Int)≤12:=by omega
   obtain ⟨x,hx⟩:∃x,B.v.rows[j]?=some x:=⟨_,List.getElem?_eq_getElem (by have:=HLN.out; omega)⟩;have HX:=hide hx;have HZ:=hide hz;have HTL:=hide tls;have HB:=hide hb;have HLJ:=hide hlj;have HBW:Hid (w1.heap.size≤wr.heap.size):=hide hb.size;obtain ⟨x',rb,off,hx',hra,c0,c1,c2⟩:=zaJ (HH.out.v.rows.below (zd b1 hb)) j hjn;rw [hx] at hx';cases hx';subst hra;generalize hwz:wr.alloc (Obj.cells #[.int .i64 0,.int .i64 0,.int .i64 0] 82)=wz;have bz:=zb hwz;have kz:=zk hwz;obtain ⟨⟨p0,p1,p2⟩,f0,f1,f2⟩:=zdh kz;have d0:=(bz.cell (zp c0)).trans c0;have d1:=(bz.cell (zp c1)).trans c1;have d2:=(bz.cell (zp c2)).trans c2;clear k2 tls hb hz hlj;(go_upto_region 5 with fail);clear p0 f0 c0 d0 p1 f1 c1 d1 p2 f2 c2 d2 hwz;refine zgN kz _ _ _ (fun ws ks gs => ?_);have HBR:Hid (Below wr.heap.size wr ws):=hide (bz.grown gs bz.size (fun b hb2=>by cases hb2; exact Nat.le_refl _));obtain ⟨⟨p0,p1,p2⟩,-⟩:=zdh ks;clear bz kz gs;have hxi:=ok.ri x (List.mem_of_getElem? HX.out);generalize hwa:ws.alloc (Obj.cells #[.int .i64 x.i] 3)=wa;have ba:=zb hwa;have ka:=zk hwa;generalize hwb:wa.alloc (Obj.cells #[.slice (some ⟨ws.heap.size,0,none⟩) 1 1] 27)=wb;have bb:=zb hwb;obtain ⟨y,hy⟩:∃y:TL,y=⟨some ⟨ws.heap.size,0,none⟩,1,1,[x.i]⟩:=⟨_,rfl⟩;have gone:GRow tlF wb (some ⟨wa.heap.size,0,none⟩) 1 1 [y]:=by rw [← hwb]; exact zaA tlF wa y _ _ (by rw [hy]; rfl)
   have HBY:Hid (Below wr.heap.size wr wb):=hide (zd (zd HBR.out ba) bb);have HOY:Hid (wb.ownsRow wr.heap.size 3 1 (.slice y.a y.n y.c) y.n (cI y.z)):=hide (by
    rw [hy]
    have:=zY intF (base:=wr.heap.size) (l:=[x.i]) ka rfl HBR.out.size (by simp)
    rw [← zG];exact zm this bb)
   have HIY:Hid (I64s y.z):=hide (by rw [hy]; intro z hz2; simp at hz2; omega);have HNY:Hid (y.n≤2):=hide (by rw [hy]; show 1≤2; omega);have HYZ:Hid (y.z=[x.i]):=hide (by rw [hy]);have hrow:=(HTL.out.below HBY.out).row;have hl12:l.length≤12:=by have:=HLJ.out; omega
   have HBK:Hid (∀k,(Value.slice ao l.length cap).ownBlock=some k→w1.heap.size≤k):=hide (fun k hk=>(HTL.out.row.lt k hk).1);have hbw2:w1.heap.size≤wb.heap.size:=Nat.le_trans HBW.out HBY.out.size;clear ka hy ba bb;go_wp2_with (at_builtin; refine zx (F:=tlF) _ rfl _ _ 151 27 rfl w1.heap.size Tryz.underlying151 zhL rfl (by decide) _ l.length l rfl hrow (some ⟨wa.heap.size,0,none⟩) 1 1 [y] rfl gone (by omega) hbw2 ?_)
   intro ao2 cap2 we how2 _ hgr2 hb2;have HLN2:Hid ((l++[y]).length=l.length+1):=hide (by simp);have HT2:=hide (HTL.out.push (y:=y) HBY.out HOY.out HIY.out HNY.out HBW.out hgr2 (by rw [HLN2.out]; exact how2));have HB2:=hide ((zd HB.out HBY.out).grown hgr2 (Nat.le_trans HB.out.size HBY.out.size) (fun k hk=>HBK.out k hk));clear hrow gone hbw2 how2 hgr2 hb2 hwa hwb;have HZ2:Hid (∀(i:Nat) (t:TL) u,(l++[y])[i]?=some t→B.v.rows[i]?=some u→t.z=[u.i]):=hide (by
    intro i t u hi hu;by_cases hil:i < l.length
    ·rw [List.getElem?_append_left hil] at hi;exact HZ.out i t u hi hu
    ·have hil2:=(List.getElem?_eq_some_iff.1 hi).1;rw [HLN2.out] at hil2;have hij:i=l.length:=by omega
     subst hij
     have:t=y:=by simpa using hi.symm
     rw [this,HYZ.out];rw [← HLJ.out] at HX
     have:=HX.out.symm.trans hu
     cases this
     rfl)
   go_wp2
   go_roundw
   case rel=>exact ⟨j+1,ao2,cap2,l++[y],by rw [HLN2.out],by go_num,by omega,by rw [HLN2.out,HLJ.out],HZ2.out,HT2.out,HB2.out⟩
   case measure=>simp [intOf]; omega
  ·have hjn':¬(j:Int) < (rn:Int):=by omega
   have hje:l.length=rn:=by omega
   have hbs:=Nat.le_trans hbw hb.size;generalize hwc:wr.alloc (Obj.cells #[.func (.func 128) #[] #[],.func (.func 129) #[] #[.pointer (some ⟨w.heap.size,0,none⟩)],.func (.func 130) #[] #[.pointer (some ⟨w.heap.size,0,none⟩)]] 122)=wc;have bc:=zb hwc;have kc:=zk hwc;have hcl:=zan (F:=clF) (zY clF (base:=0) (l:=[⟨128,#[]⟩,⟨129,#[.pointer (some ⟨w.heap.size,0,none⟩)]⟩,⟨130,#[.pointer (some ⟨w.heap.size,0,none⟩)]⟩]) kc rfl (Nat.zero_le _) (by simp));have HBS:Hid (w.heap.size≤wc.heap.size):=hide (Nat.le_trans hbs bc.size);have HBC:=hide (zd (zd b1 hb) bc);have HKC:=hide (ze k2 bc);have tlr:=(tls.below bc).reads;have HZ:=hide hz;have hlen:=HLN.out;have HJE:=hide hje;clear k1 k2 kc b1 hb tls bc hz hlj hje;(go_wp2_with fail);refine (zaX 3 _ l.length _ l _ 3 [⟨128,#[]⟩,⟨129,#[.pointer (some ⟨w.heap.size,0,none⟩)]⟩,⟨130,#[.pointer (some ⟨w.heap.size,0,none⟩)]⟩] (rowG B) _ tlr.1 tlr.2 (by have:=HJE.out; omega) hcl (by omega) (by omega) ?_).mono ?_
   ·intro i j t ht;obtain ⟨x,hx⟩:∃x,B.v.rows[j]?=some x:=⟨_,List.getElem?_eq_getElem (by have:=(List.getElem?_eq_some_iff.1 ht).1; have:=HJE.out; omega)⟩;rw [HZ.out j t x ht hx];unfold rowG;rw [hx]
    rfl
   rw [HJE.out];rintro e w3 ⟨ao,cap,l,rfl,hd,st⟩;have HB:=hide (zd HBC.out st.below);have KB:=hide (ze HKC.out st.below);have HT:Hid (Things w3 w.heap.size ao cap l):=hide (by
    refine zb0 st (fun i cf hi => ?_) (fun i j => ?_) HBS.out
    ·have him:i < 3:=(List.getElem?_eq_some_iff.1 hi).1;rcases (show i=0∨i=1∨i=2 by omega) with rfl | rfl | rfl
     ·cases hi;refine ⟨enters_of Tryz.func128 (by kernel_rfl) rfl,fun j hj w2 hw2 => ?_⟩;obtain ⟨x,hx⟩:∃x,B.v.rows[j]?=some x:=⟨_,List.getElem?_eq_getElem (by have:=HLN.out; omega)⟩;have hg:rowG B 0 j=rowB 1 j x:=by unfold rowG; rw [hx]; rfl
      rw [hg];exact zit (j:Int) w2
     ·cases hi;refine ⟨enters_of Tryz.func129 (by kernel_rfl) rfl,fun j hj w2 hw2 => ?_⟩;obtain ⟨x,hx⟩:∃x,B.v.rows[j]?=some x:=⟨_,List.getElem?_eq_getElem (by have:=HLN.out; omega)⟩;have hg:rowG B 1 j=rowB 2 j x:=by unfold rowG; rw [hx]; rfl
      rw [hg];exact ziu a n c fa fn fc ra rn rc oa on oc B j w.heap.size w2 (ze KB.out hw2) (HH.out.v.rows.below (zd HB.out hw2)) x hx
     ·cases hi;refine ⟨enters_of Tryz.func130 (by kernel_rfl) rfl,fun j hj w2 hw2 => ?_⟩;obtain ⟨x,hx⟩:∃x,B.v.rows[j]?=some x:=⟨_,List.getElem?_eq_getElem (by have:=HLN.out; omega)⟩;have hg:rowG B 2 j=rowB 3 j x:=by unfold rowG; rw [hx]; rfl
      rw [hg];exact ziv a n c fa fn fc ra rn rc oa on oc B j w.heap.size w2 (ze KB.out hw2) (HH.out.v.rows.below (zd HB.out hw2)) x hx
    ·unfold rowG
     split
     all_goals exact ⟨rfl,Nat.zero_le _⟩
    )
   have HD:=hide hd;clear hd st;go_wp2;go_ret;exact ⟨ao,cap,l,rfl,(by rw [HD.out,HLN.out]; exact zix B),HT.out,HB.out⟩
   

theorem zeH (a:Option Addr) (n c:Nat) (fa:Option Addr) (fn fc:Nat) (ra:Option Addr) (rn rc:Nat) (oa:Option Addr) (on oc:Nat) (B:BR) (w:World) (h:BrRow w a n c fa fn fc ra rn rc oa on oc B) (ok:MbOk B) :
  Calls Tryz.prog 79 #[.agg #[.int .i64 B.id,.string B.name,.slice a n c,.slice fa fn fc,.slice ra rn rc,.slice oa on oc,.int .i64 B.ticks,.int .i64 B.parse,.int .i64 B.word,.int .i64 B.drops,.int .i64 B.vers]] w fun e w'=>∃(ao:Option Addr) (cap:Nat) (l:List TH),e=.returned (.slice ao l.length cap)∧l.map TH.d=zd0 B∧Things w' w.heap.size ao cap l∧Below w.heap.size w w':=by
 generalize hw1:w.alloc (Obj.cells #[.int .i64 B.id,.string B.name,.slice a n c,.slice fa fn fc,.slice ra rn rc,.slice oa on oc,.int .i64 B.ticks,.int .i64 B.parse,.int .i64 B.word,.int .i64 B.drops,.int .i64 B.vers] 31)=w1;have b1:=zb hw1;have k1:=zk hw1;have HH:=hide h;have hle:=h.f.le;have htop:=h.f.top;unfold maxLen at htop;have HLN:Hid (fn=B.f.length):=hide h.f.size.symm;have hn12:fn≤12:=by have:=h.f.size; have:=ok.p; have:=ok.r; have:=ok.f; omega
 obtain ⟨x0,x1,x2,x3,x4,x5,x6,x7,x8,x9,x10⟩:=zi k1;go_enter Tryz.func79,Tryz.ntmps79;go_wp2_with fail
 clear x0 x1 x2 x3 x4 x5 x6 x7 x8 x9 x10 hw1
 go_loopw [3,5,9] (fun v3 u5 vj wr=>∃(j:Nat) (ao:Option Addr) (cap:Nat) (l:List TL),v3=.slice ao l.length cap∧vj=.int .i64 (j:Int)∧j≤fn∧l.length=j∧(∀(i:Nat) (t:TL) x,l[i]?=some t→B.f[i]?=some x→t.z=[x.t,x.m])∧Tails wr w1.heap.size ao cap l∧Below w1.heap.size w1 wr) (fun _ _ vj _=>14 - (intOf vj).toNat)
 case atStart=>exact ⟨0,none,0,[],rfl,rfl,Nat.zero_le _,rfl,(by intro i t x hi; simp at hi),zeb _ _,Below.refl _ _⟩
 case round =>
  obtain ⟨j,ao,cap,l,rfl,rfl,hj,hlj,hz,tls,hb⟩:=hrel;have k2:=ze k1 hb;have hbw:=b1.size;by_cases hjn:j < fn
  ·have hjn':(j:Int) < (fn:Int):=by omega
   have hj12:(j:Int)≤12:=by omega
   obtain ⟨x,hx⟩:∃x,B.f[j]?=some x:=⟨_,List.getElem?_eq_getElem (by have:=HLN.out; omega)⟩;have HX:=hide hx;have HZ:=hide hz;have HTL:=hide tls;have HB:=hide hb;have HLJ:=hide hlj;have HBW:Hid (w1.heap.size≤wr.heap.size):=hide hb.size;obtain ⟨x',rb,off,hx',hra,c0,c1,c2,c3,c4⟩:=zaZ (HH.out.f.below (zd b1 hb)) j hjn;rw [hx] at hx';cases hx';subst hra;generalize hwz:wr.alloc (Obj.cells #[.int .i64 0,.int .i64 0,.int .i64 0,.int .i64 0,.bool false] 85)=wz;have bz:=zb hwz;have kz:=zk hwz;obtain ⟨⟨p0,p1,p2,p3,p4⟩,f0,f1,f2,f3,f4⟩:=zo kz;have d0:=(bz.cell (zp c0)).trans c0;have d1:=(bz.cell (zp c1)).trans c1;have d2:=(bz.cell (zp c2)).trans c2;have d3:=(bz.cell (zp c3)).trans c3;have d4:=(bz.cell (zp c4)).trans c4;clear k2 tls hb hz hlj;(go_upto_region 5 with fail);clear p0 f0 c0 d0 p1 f1 c1 d1 p2 f2 c2 d2 p3 f3 c3 d3 p4 f4 c4 d4 hwz;refine zff kz _ _ _ _ _ (fun ws ks gs => ?_);have HBR:Hid (Below wr.heap.size wr ws):=hide (bz.grown gs bz.size (fun b hb2=>by cases hb2; exact Nat.le_refl _));obtain ⟨⟨p0,p1,p2,p3,p4⟩,-⟩:=zo ks;clear bz kz gs;have hxi:=ok.fi x (List.mem_of_getElem? HX.out);generalize hwa:ws.alloc (Obj.cells #[.int .i64 x.t,.int .i64 x.m] 3)=wa;have ba:=zb hwa;have ka:=zk hwa;generalize hwb:wa.alloc (Obj.cells #[.slice (some ⟨ws.heap.size,0,none⟩) 2 2] 27)=wb;have bb:=zb hwb;obtain ⟨y,hy⟩:∃y:TL,y=⟨some ⟨ws.heap.size,0,none⟩,2,2,[x.t,x.m]⟩:=⟨_,rfl⟩;have gone:GRow tlF wb (some ⟨wa.heap.size,0,none⟩) 1 1 [y]:=by rw [← hwb]; exact zaA tlF wa y _ _ (by rw [hy]; rfl)
   have HBY:Hid (Below wr.heap.size wr wb):=hide (zd (zd HBR.out ba) bb);have HOY:Hid (wb.ownsRow wr.heap.size 3 1 (.slice y.a y.n y.c) y.n (cI y.z)):=hide (by
    rw [hy]
    have:=zY intF (base:=wr.heap.size) (l:=[x.t,x.m]) ka rfl HBR.out.size (by simp)
    rw [← zG];exact zm this bb)
   have HIY:Hid (I64s y.z):=hide (by rw [hy]; intro z hz2; simp at hz2; omega);have HNY:Hid (y.n≤2):=hide (by rw [hy]; show 2≤2; omega);have HYZ:Hid (y.z=[x.t,x.m]):=hide (by rw [hy]);have hrow:=(HTL.out.below HBY.out).row;have hl12:l.length≤12:=by have:=HLJ.out; omega
   have HBK:Hid (∀k,(Value.slice ao l.length cap).ownBlock=some k→w1.heap.size≤k):=hide (fun k hk=>(HTL.out.row.lt k hk).1);have hbw2:w1.heap.size≤wb.heap.size:=Nat.le_trans HBW.out HBY.out.size;clear ka hy ba bb;go_wp2_with (at_builtin; refine zx (F:=tlF) _ rfl _ _ 151 27 rfl w1.heap.size Tryz.underlying151 zhL rfl (by decide) _ l.length l rfl hrow (some ⟨wa.heap.size,0,none⟩) 1 1 [y] rfl gone (by omega) hbw2 ?_)
   intro ao2 cap2 we how2 _ hgr2 hb2;have HLN2:Hid ((l++[y]).length=l.length+1):=hide (by simp);have HT2:=hide (HTL.out.push (y:=y) HBY.out HOY.out HIY.out HNY.out HBW.out hgr2 (by rw [HLN2.out]; exact how2));have HB2:=hide ((zd HB.out HBY.out).grown hgr2 (Nat.le_trans HB.out.size HBY.out.size) (fun k hk=>HBK.out k hk));clear hrow gone hbw2 how2 hgr2 hb2 hwa hwb;have HZ2:Hid (∀(i:Nat) (t:TL) u,(l++[y])[i]?=some t→B.f[i]?=some u→t.z=[u.t,u.m]):=hide (by
    intro i t u hi hu;by_cases hil:i < l.length
    ·rw [List.getElem?_append_left hil] at hi;exact HZ.out i t u hi hu
    ·have hil2:=(List.getElem?_eq_some_iff.1 hi).1;rw [HLN2.out] at hil2;have hij:i=l.length:=by omega
     subst hij
     have:t=y:=by simpa using hi.symm
     rw [this,HYZ.out];rw [← HLJ.out] at HX
     have:=HX.out.symm.trans hu
     cases this
     rfl)
   go_wp2
   go_roundw
   case rel=>exact ⟨j+1,ao2,cap2,l++[y],by rw [HLN2.out],by go_num,by omega,by rw [HLN2.out,HLJ.out],HZ2.out,HT2.out,HB2.out⟩
   case measure=>simp [intOf]; omega
  ·have hjn':¬(j:Int) < (fn:Int):=by omega
   have hje:l.length=fn:=by omega
   have hbs:=Nat.le_trans hbw hb.size;generalize hwc:wr.alloc (Obj.cells #[.func (.func 131) #[] #[.pointer (some ⟨w.heap.size,0,none⟩)]] 122)=wc;have bc:=zb hwc;have kc:=zk hwc;have hcl:=zan (F:=clF) (zY clF (base:=0) (l:=[⟨131,#[.pointer (some ⟨w.heap.size,0,none⟩)]⟩]) kc rfl (Nat.zero_le _) (by simp));have HBS:Hid (w.heap.size≤wc.heap.size):=hide (Nat.le_trans hbs bc.size);have HBC:=hide (zd (zd b1 hb) bc);have HKC:=hide (ze k2 bc);have tlr:=(tls.below bc).reads;have HZ:=hide hz;have hlen:=HLN.out;have HJE:=hide hje;clear k1 k2 kc b1 hb tls bc hz hlj hje;(go_wp2_with fail);refine (zaX 4 _ l.length _ l _ 1 [⟨131,#[.pointer (some ⟨w.heap.size,0,none⟩)]⟩] (entG B) _ tlr.1 tlr.2 (by have:=HJE.out; omega) hcl (by omega) (by omega) ?_).mono ?_
   ·intro i j t ht;obtain ⟨x,hx⟩:∃x,B.f[j]?=some x:=⟨_,List.getElem?_eq_getElem (by have:=(List.getElem?_eq_some_iff.1 ht).1; have:=HJE.out; omega)⟩;rw [HZ.out j t x ht hx];unfold entG;rw [hx]
   rw [HJE.out];rintro e w3 ⟨ao,cap,l,rfl,hd,st⟩;have HB:=hide (zd HBC.out st.below);have KB:=hide (ze HKC.out st.below);have HT:Hid (Things w3 w.heap.size ao cap l):=hide (by
    refine zb0 st (fun i cf hi => ?_) (fun i j => ?_) HBS.out
    ·have him:i < 1:=(List.getElem?_eq_some_iff.1 hi).1;rcases (show i=0 by omega) with rfl
     ·cases hi;refine ⟨enters_of Tryz.func131 (by kernel_rfl) rfl,fun j hj w2 hw2 => ?_⟩;obtain ⟨x,hx⟩:∃x,B.f[j]?=some x:=⟨_,List.getElem?_eq_getElem (by have:=HLN.out; omega)⟩;have hg:entG B 0 j=entB j x:=by unfold entG; rw [hx]; rfl
      rw [hg];exact zh2 a n c fa fn fc ra rn rc oa on oc B j w.heap.size w2 (ze KB.out hw2) (HH.out.f.below (zd HB.out hw2)) x hx (ok.fi x (List.mem_of_getElem? hx)).2.2
    ·unfold entG
     split
     all_goals exact ⟨rfl,Nat.zero_le _⟩
    )
   have HD:=hide hd;clear hd st;go_wp2;go_ret;exact ⟨ao,cap,l,rfl,(by rw [HD.out,HLN.out]; exact zh3 B),HT.out,HB.out⟩
   

theorem zbX {α:Type} {f:Nat→α→BD} {l:List α} {d:BD}:∀{k:Nat},d∈zau f l k→∃(i:Nat) (x:α),i < k∧l[i]?=some x∧d=f i x
 | 0,h=>by simp [zau] at h
 | k+1,h=>by
  rw [zau] at h
  split at h
  ·next x hx =>
   rcases List.mem_append.1 h with h | h
   ·obtain ⟨i,y,hi,hy,e⟩:=zbX h;exact ⟨i,y,by omega,hy,e⟩
   ·rw [List.mem_singleton] at h;exact ⟨k,x,by omega,hx,h⟩
  ·obtain ⟨i,y,hi,hy,e⟩:=zbX h;exact ⟨i,y,by omega,hy,e⟩

theorem zda {g:Int→List BD} {d:BD}:∀{k:Nat},d∈zaa g k→∃c:Nat,c < k∧d∈g ((c:Int)+1)
 | 0,h=>by simp [zaa] at h
 | k+1,h=>by
  rw [zaa] at h;rcases List.mem_append.1 h with h | h
  ·obtain ⟨c,hc,hd⟩:=zda h;exact ⟨c,by omega,hd⟩
  ·exact ⟨k,by omega,h⟩

structure LitB (d:BD):Prop where
 o:d.o.length≤7
 i:∀z∈d.o,0≤z∧z≤9999
 s:d.S.size≤10
 z:d.z=[]
 k:d.K=2∨d.K=4

theorem zeK {l:List Int} {n:Int} (h:l.length≤4) (hz:∀z∈l,0≤z∧z≤9999):LitB (numD l n):=by
 refine ⟨?_, ?_,by show (0:Nat)≤10; omega,rfl,.inl rfl⟩
 ·show (nmI l).length≤7
  unfold nmI;simp only [List.length_cons];omega
 ·intro z hzz;have hzz:z∈nmI l:=hzz;unfold nmI at hzz;simp only [List.mem_cons] at hzz;rcases hzz with rfl | rfl | rfl | h
  ·omega
  ·omega
  ·omega
  ·exact hz z h

theorem ziU {B:BR} (h:zN B=true):∀d∈zc0 B,LitB d:=by
 have ok:=mb_ok h;intro d hd;unfold zc0 at hd;simp only [List.mem_append] at hd;rcases hd with ((hd | hd) | hd) | hd
 ·unfold zas at hd;simp only [List.mem_cons,List.not_mem_nil,or_false] at hd;rcases hd with rfl | rfl | rfl | rfl | rfl
  ·refine ⟨by show (nmI [1,1]).length≤7; simp [nmI], ?_, ?_,rfl,.inr rfl⟩
   ·intro z hz;have hz:z∈nmI [1,1]:=hz
    simp [nmI] at hz
    omega
   ·have:=(zbh h).2.2.1
    show B.name.size≤10
    omega
  all_goals exact zeK (by simp) (by intro z hz; simp at hz; omega)
 ·obtain ⟨c,hc,hd⟩:=zda hd;obtain ⟨p,x,hp,hx,rfl⟩:=zbX hd
  have:=ok.p
  exact zeK (by simp) (by intro z hz; simp at hz; omega)
 ·obtain ⟨c,hc,hd⟩:=zda hd;obtain ⟨i,r,hi,hr,rfl⟩:=zbX hd
  have:=ok.ri r (List.mem_of_getElem? hr)
  exact zeK (by simp) (by intro z hz; simp at hz; omega)
 ·obtain ⟨i,e,hi,he,rfl⟩:=zbX hd
  have:=ok.fi e (List.mem_of_getElem? he)
  exact zeK (by simp) (by intro z hz; simp at hz; omega)

theorem zgq {B:BR}:∀d∈zF B,LitB d:=by
 unfold zF
 split
 ·next h=>exact ziU h
 ·intro d hd; cases hd

theorem zb7 (B:BR):(zF B).length≤100:=by
 unfold zF
 split
 ·next h =>
  have ok:=mb_ok h;have h1:=za1 (g:=zaf B) (m:=6) (fun c=>Nat.le_trans (zax _ _ _) ok.p) 4;have h2:=za1 (g:=zaG B) (m:=6) (fun c=>Nat.le_trans (zax _ _ _) ok.r) 3;have h3:(zd0 B).length≤B.f.length:=zax entB B.f B.f.length;have h4:(zas B).length=5:=rfl;have h5:=ok.f;unfold zc0;simp only [List.length_append];omega
 ·simp

theorem zci {B:BR} {l:List BI} (h:l.map BI.d=zF B) {x:BI} (hx:x∈l):LitB x.d:=zgq x.d (by rw [← h]; exact List.mem_map_of_mem hx)

theorem zg5 (l:List FE) (t m:Int):(∃(i:Nat) (x:FE),atF l t m=i∧i < l.length∧l[i]?=some x∧lookE l t m=some x)∨(atF l t m = -1∧lookE l t m=none):=by
 cases hf:l.findIdx? (fun e=>both e t m) with
 | none =>
  refine .inr ⟨by unfold atF; rw [hf], ?_⟩;rw [List.findIdx?_eq_none_iff] at hf;exact zfe.2 (fun e he hb=>by have:=hf e he; rw [zbI.2 hb] at this; cases this)
 | some i =>
  obtain ⟨hi,hp,hno⟩:=List.findIdx?_eq_some_iff_getElem.1 hf;refine .inl ⟨i,l[i],by unfold atF; rw [hf],hi,List.getElem?_eq_getElem hi, ?_⟩;unfold lookE;rw [List.find?_eq_some_iff_getElem];exact ⟨hp,i,hi,rfl,fun j hj=>by simpa using hno j hj⟩

theorem zbx (ao:Option Addr) (n cap:Nat) (l:List FE) (t m p:Int) (w:World) (h:GRow fentF w ao n cap l) (hn:n≤16777216) :
  Calls Tryz.prog 68 #[.slice ao n cap,.int .i64 t,.int .i64 m,.int .i64 p] w fun r w'=>∃ao' cap',r=.returned (.slice ao' (zaP l t m p).length cap')∧w'.ownsRow w.heap.size 85 5 (.slice ao' (zaP l t m p).length cap') (zaP l t m p).length (fentF.all (zaP l t m p))∧GRow fentF w' ao' (zaP l t m p).length cap' (zaP l t m p)∧Below w.heap.size w w':=by
 have q0:=zh w (.cells #[.int .i64 t,.int .i64 m,.int .i64 p,.int .i64 0,.bool false] 85);have k0:=zB w (.cells #[.int .i64 t,.int .i64 m,.int .i64 p,.int .i64 0,.bool false] 85);obtain rfl:=h.size;have hla:=zg5 l t m;cases hc:zcP l t m p
 ·rw [show zaP l t m p=l by unfold zaP; rw [hc]; rfl];unfold zcP at hc;cases h1:fdbOk l
  ·have H1:=hide h1;clear hc h1;go_enter Tryz.func68,Tryz.ntmps68;(go_wp2_with fail);generalize w.alloc (.cells #[.int .i64 t,.int .i64 m,.int .i64 p,.int .i64 0,.bool false] 85)=wb at *;refine (zaR _ _ _ l t m _ (h.below q0)).mono ?_;rintro r w1 ⟨rfl,rfl⟩;(go_wp2_with fail);refine (zR _ _ _ l _ (h.below q0)).mono ?_;rintro r wx ⟨rfl,hbx⟩;rw [H1.out];have bx:=zd q0 hbx;clear hbx;(go_wp2_with fail);refine (zaH _ _ _ l _ (h.below bx) hn).mono ?_;rintro r w9 ⟨ao9,cap9,rfl,ho9,hr9,hb9⟩;have HO:=hide (zT ho9 (base':=w.heap.size) bx.size);have HR:=hide hr9;have HB:=hide (zd bx hb9);clear ho9 hr9 hb9 bx;go_wp2;go_ret;exact ⟨_,_,rfl,HO.out,HR.out,HB.out⟩
  ·cases h2:entOk (⟨t,m,p,0,false⟩:FE)
   ·have H1:=hide h1;have H2:=hide h2;clear hc h1 h2;go_enter Tryz.func68,Tryz.ntmps68;(go_wp2_with fail);generalize w.alloc (.cells #[.int .i64 t,.int .i64 m,.int .i64 p,.int .i64 0,.bool false] 85)=wb at *;refine (zaR _ _ _ l t m _ (h.below q0)).mono ?_;rintro r w1 ⟨rfl,rfl⟩;(go_wp2_with fail);refine (zR _ _ _ l _ (h.below q0)).mono ?_;rintro r wy ⟨rfl,hby⟩;rw [H1.out];obtain ⟨⟨x0,x1,x2,x3,x4⟩,-⟩:=zo (ze k0 hby);(go_wp2_with fail);refine (zap (⟨t,m,p,0,false⟩:FE) _).mono ?_;rintro r wx ⟨rfl,hbx⟩;rw [H2.out];have bx:=zd q0 (zd hby hbx);clear hby hbx x0 x1 x2 x3 x4;(go_wp2_with fail);refine (zaH _ _ _ l _ (h.below bx) hn).mono ?_;rintro r w9 ⟨ao9,cap9,rfl,ho9,hr9,hb9⟩;have HO:=hide (zT ho9 (base':=w.heap.size) bx.size);have HR:=hide hr9;have HB:=hide (zd bx hb9);clear ho9 hr9 hb9 bx;go_wp2;go_ret;exact ⟨_,_,rfl,HO.out,HR.out,HB.out⟩
   ·rw [h1,h2,Bool.true_and,Bool.true_and] at hc;have H1:=hide h1;have H2:=hide h2;clear h1 h2;rcases hla with ⟨i,x,hat,hi,hx,hlk⟩ | ⟨hat,hlk⟩
    ·rw [hlk] at hc;have hs:x.s=true:=by simpa using hc
     have HAT:=hide hat;have hat1:(i:Int)≥0:=by omega
     have hat2:¬(i:Int) < 0:=by omega
     clear hc hat;go_enter Tryz.func68,Tryz.ntmps68;(go_wp2_with fail);generalize w.alloc (.cells #[.int .i64 t,.int .i64 m,.int .i64 p,.int .i64 0,.bool false] 85)=wb at *;refine (zaR _ _ _ l t m _ (h.below q0)).mono ?_;rintro r w1 ⟨rfl,rfl⟩;rw [HAT.out];(go_wp2_with fail);refine (zR _ _ _ l _ (h.below q0)).mono ?_;rintro r wy ⟨rfl,hby⟩;rw [H1.out];obtain ⟨⟨x0,x1,x2,x3,x4⟩,-⟩:=zo (ze k0 hby);(go_wp2_with fail);refine (zap (⟨t,m,p,0,false⟩:FE) _).mono ?_;rintro r wx ⟨rfl,hbx⟩;rw [H2.out];have bx:=zd q0 (zd hby hbx);obtain ⟨x',b,off,hx',rfl,-,-,-,-,c4⟩:=zaZ (h.below bx) i hi;rw [hx] at hx';cases hx';rw [hs] at c4;clear hby hbx x0 x1 x2 x3 x4;(go_wp2_with fail);refine (zaH _ _ _ l _ (h.below bx) hn).mono ?_;rintro r w9 ⟨ao9,cap9,rfl,ho9,hr9,hb9⟩;have HO:=hide (zT ho9 (base':=w.heap.size) bx.size);have HR:=hide hr9;have HB:=hide (zd bx hb9);clear ho9 hr9 hb9 bx;go_wp2;go_ret;exact ⟨_,_,rfl,HO.out,HR.out,HB.out⟩
    ·rw [hlk] at hc;have hlen:¬l.length < 12:=by simpa using hc
     have HAT:=hide hat;clear hc hat;go_enter Tryz.func68,Tryz.ntmps68;(go_wp2_with fail);generalize w.alloc (.cells #[.int .i64 t,.int .i64 m,.int .i64 p,.int .i64 0,.bool false] 85)=wb at *;refine (zaR _ _ _ l t m _ (h.below q0)).mono ?_;rintro r w1 ⟨rfl,rfl⟩;rw [HAT.out];(go_wp2_with fail);refine (zR _ _ _ l _ (h.below q0)).mono ?_;rintro r wy ⟨rfl,hby⟩;rw [H1.out];obtain ⟨⟨x0,x1,x2,x3,x4⟩,-⟩:=zo (ze k0 hby);(go_wp2_with fail);refine (zap (⟨t,m,p,0,false⟩:FE) _).mono ?_;rintro r wx ⟨rfl,hbx⟩;rw [H2.out];have bx:=zd q0 (zd hby hbx);have i5:(12:Int)≤(l.length:Int):=by omega
     clear hby hbx x0 x1 x2 x3 x4;(go_wp2_with fail);refine (zaH _ _ _ l _ (h.below bx) hn).mono ?_;rintro r w9 ⟨ao9,cap9,rfl,ho9,hr9,hb9⟩;have HO:=hide (zT ho9 (base':=w.heap.size) bx.size);have HR:=hide hr9;have HB:=hide (zd bx hb9);clear ho9 hr9 hb9 bx;go_wp2;go_ret;exact ⟨_,_,rfl,HO.out,HR.out,HB.out⟩
 ·rw [show zaP l t m p=putF8 (⟨t,m,p,0,false⟩:FE) l by unfold zaP; rw [hc]; rfl];unfold zcP at hc;simp only [Bool.and_eq_true] at hc;obtain ⟨h1,h2,h3⟩:=hc;have H1:=hide h1;have H2:=hide h2;clear h1 h2;rcases hla with ⟨i,x,hat,hi,hx,hlk⟩ | ⟨hat,hlk⟩
  ·rw [hlk] at h3;have hs:x.s=false:=by simpa using h3
   have HAT:=hide hat;have hat1:(i:Int)≥0:=by omega
   have hat2:¬(i:Int) < 0:=by omega
   clear h3 hat;go_enter Tryz.func68,Tryz.ntmps68;(go_wp2_with fail);generalize w.alloc (.cells #[.int .i64 t,.int .i64 m,.int .i64 p,.int .i64 0,.bool false] 85)=wb at *;refine (zaR _ _ _ l t m _ (h.below q0)).mono ?_;rintro r w1 ⟨rfl,rfl⟩;rw [HAT.out];(go_wp2_with fail);refine (zR _ _ _ l _ (h.below q0)).mono ?_;rintro r wy ⟨rfl,hby⟩;rw [H1.out];obtain ⟨⟨x0,x1,x2,x3,x4⟩,-⟩:=zo (ze k0 hby);(go_wp2_with fail);refine (zap (⟨t,m,p,0,false⟩:FE) _).mono ?_;rintro r wx ⟨rfl,hbx⟩;rw [H2.out];have bx:=zd q0 (zd hby hbx);have kx:=ze k0 (zd hby hbx);obtain ⟨x',b,off,hx',rfl,-,-,-,-,c4⟩:=zaZ (h.below bx) i hi;rw [hx] at hx';cases hx';rw [hs] at c4;clear hby hbx x0 x1 x2 x3 x4;obtain ⟨⟨x0,x1,x2,x3,x4⟩,-⟩:=zo kx;(go_wp2_with fail);refine (zbO _ _ _ l (⟨t,m,p,0,false⟩:FE) _ (h.below bx) hn).mono ?_;rintro r w9 ⟨ao9,cap9,rfl,ho9,hr9,hb9⟩;have HO:=hide (zT ho9 (base':=w.heap.size) bx.size);have HR:=hide hr9;have HB:=hide (zd bx hb9);clear ho9 hr9 hb9 bx x0 x1 x2 x3 x4;go_wp2;go_ret;exact ⟨_,_,rfl,HO.out,HR.out,HB.out⟩
  ·rw [hlk] at h3;have hlen:l.length < 12:=by simpa using h3
   have HAT:=hide hat;clear h3 hat;go_enter Tryz.func68,Tryz.ntmps68;(go_wp2_with fail);generalize w.alloc (.cells #[.int .i64 t,.int .i64 m,.int .i64 p,.int .i64 0,.bool false] 85)=wb at *;refine (zaR _ _ _ l t m _ (h.below q0)).mono ?_;rintro r w1 ⟨rfl,rfl⟩;rw [HAT.out];(go_wp2_with fail);refine (zR _ _ _ l _ (h.below q0)).mono ?_;rintro r wy ⟨rfl,hby⟩;rw [H1.out];obtain ⟨⟨x0,x1,x2,x3,x4⟩,-⟩:=zo (ze k0 hby);(go_wp2_with fail);refine (zap (⟨t,m,p,0,false⟩:FE) _).mono ?_;rintro r wx ⟨rfl,hbx⟩;rw [H2.out];have bx:=zd q0 (zd hby hbx);have kx:=ze k0 (zd hby hbx);have i5:¬(12:Int)≤(l.length:Int):=by omega
   clear hby hbx x0 x1 x2 x3 x4;obtain ⟨⟨x0,x1,x2,x3,x4⟩,-⟩:=zo kx;(go_wp2_with fail);refine (zbO _ _ _ l (⟨t,m,p,0,false⟩:FE) _ (h.below bx) hn).mono ?_;rintro r w9 ⟨ao9,cap9,rfl,ho9,hr9,hb9⟩;have HO:=hide (zT ho9 (base':=w.heap.size) bx.size);have HR:=hide hr9;have HB:=hide (zd bx hb9);clear ho9 hr9 hb9 bx x0 x1 x2 x3 x4;go_wp2;go_ret;exact ⟨_,_,rfl,HO.out,HR.out,HB.out⟩

theorem zcM (ao:Option Addr) (n cap:Nat) (l:List FE) (t m p:Int) (w:World) (h:GRow fentF w ao n cap l) (hn:n≤16777216) :
  Calls Tryz.prog 71 #[.slice ao n cap,.int .i64 t,.int .i64 m,.int .i64 p] w fun r w'=>∃ao' cap',r=.returned (.tuple #[.slice ao' (setF l t m p).length cap',.bool (zem l t m p)])∧w'.ownsRow w.heap.size 85 5 (.slice ao' (setF l t m p).length cap') (setF l t m p).length (fentF.all (setF l t m p))∧GRow fentF w' ao' (setF l t m p).length cap' (setF l t m p)∧Below w.heap.size w w':=by
 have q0:=zh w (.cells #[.int .i64 t,.int .i64 m,.int .i64 p,.int .i64 0,.bool true] 85);have k0:=zB w (.cells #[.int .i64 t,.int .i64 m,.int .i64 p,.int .i64 0,.bool true] 85);obtain rfl:=h.size;have hla:=zg5 l t m;cases hc:zem l t m p
 ·rw [show setF l t m p=l by unfold setF; rw [hc]; rfl];unfold zem at hc;cases h1:fdbOk l
  ·have H1:=hide h1;clear hc h1;go_enter Tryz.func71,Tryz.ntmps71;(go_wp2_with fail);generalize w.alloc (.cells #[.int .i64 t,.int .i64 m,.int .i64 p,.int .i64 0,.bool true] 85)=wb at *;refine (zR _ _ _ l _ (h.below q0)).mono ?_;rintro r wy ⟨rfl,hby⟩;rw [H1.out];have bx:=zd q0 hby;have kx:=ze k0 hby;clear hby;(go_wp2_with fail);refine (zaH _ _ _ l _ (h.below bx) hn).mono ?_;rintro r w9 ⟨ao9,cap9,rfl,ho9,hr9,hb9⟩;have HO:=hide (zT ho9 (base':=w.heap.size) bx.size);have HR:=hide hr9;have HB:=hide (zd bx hb9);clear ho9 hr9 hb9 bx;go_wp2;exact bodyPost_ret (v:=.tuple #[.slice ao9 l.length cap9,.bool false]) (by simp [results,Tryz.results71,go_sem, *]) rfl ⟨_,_,rfl,HO.out,HR.out,HB.out⟩
  ·cases h2:entOk (⟨t,m,p,0,true⟩:FE)
   ·have H1:=hide h1;have H2:=hide h2;clear hc h1 h2;go_enter Tryz.func71,Tryz.ntmps71;(go_wp2_with fail);generalize w.alloc (.cells #[.int .i64 t,.int .i64 m,.int .i64 p,.int .i64 0,.bool true] 85)=wb at *;refine (zR _ _ _ l _ (h.below q0)).mono ?_;rintro r wy ⟨rfl,hby⟩;rw [H1.out];obtain ⟨⟨x0,x1,x2,x3,x4⟩,-⟩:=zo (ze k0 hby);(go_wp2_with fail);refine (zap (⟨t,m,p,0,true⟩:FE) _).mono ?_;rintro r wx ⟨rfl,hbx⟩;rw [H2.out];have bx:=zd q0 (zd hby hbx);have kx:=ze k0 (zd hby hbx);clear hby hbx x0 x1 x2 x3 x4;(go_wp2_with fail);refine (zaH _ _ _ l _ (h.below bx) hn).mono ?_;rintro r w9 ⟨ao9,cap9,rfl,ho9,hr9,hb9⟩;have HO:=hide (zT ho9 (base':=w.heap.size) bx.size);have HR:=hide hr9;have HB:=hide (zd bx hb9);clear ho9 hr9 hb9 bx;go_wp2;exact bodyPost_ret (v:=.tuple #[.slice ao9 l.length cap9,.bool false]) (by simp [results,Tryz.results71,go_sem, *]) rfl ⟨_,_,rfl,HO.out,HR.out,HB.out⟩
   ·rw [h1,h2,Bool.true_and,Bool.true_and] at hc;have H1:=hide h1;have H2:=hide h2;clear h1 h2;rcases hla with ⟨i,x,hat,hi,hx,hlk⟩ | ⟨hat,hlk⟩
    ·rw [hlk] at hc
     simp at hc
    ·rw [hlk] at hc;have hlen:¬l.length < 12:=by simpa using hc
     have i5:(12:Int)≤(l.length:Int):=by omega
     have HAT:=hide hat;clear hc hat;go_enter Tryz.func71,Tryz.ntmps71;(go_wp2_with fail);generalize w.alloc (.cells #[.int .i64 t,.int .i64 m,.int .i64 p,.int .i64 0,.bool true] 85)=wb at *;refine (zR _ _ _ l _ (h.below q0)).mono ?_;rintro r wy ⟨rfl,hby⟩;rw [H1.out];obtain ⟨⟨x0,x1,x2,x3,x4⟩,-⟩:=zo (ze k0 hby);(go_wp2_with fail);refine (zap (⟨t,m,p,0,true⟩:FE) _).mono ?_;rintro r wx ⟨rfl,hbx⟩;rw [H2.out];have bx:=zd q0 (zd hby hbx);have kx:=ze k0 (zd hby hbx);clear hby hbx x0 x1 x2 x3 x4;(go_wp2_with fail);refine (zaR _ _ _ l t m _ (h.below bx)).mono ?_;rintro r w1 ⟨rfl,rfl⟩;rw [HAT.out];(go_wp2_with fail);refine (zaH _ _ _ l _ (h.below bx) hn).mono ?_;rintro r w9 ⟨ao9,cap9,rfl,ho9,hr9,hb9⟩;have HO:=hide (zT ho9 (base':=w.heap.size) bx.size);have HR:=hide hr9;have HB:=hide (zd bx hb9);clear ho9 hr9 hb9 bx;go_wp2;exact bodyPost_ret (v:=.tuple #[.slice ao9 l.length cap9,.bool false]) (by simp [results,Tryz.results71,go_sem, *]) rfl ⟨_,_,rfl,HO.out,HR.out,HB.out⟩
 ·rw [show setF l t m p=putF8 (⟨t,m,p,0,true⟩:FE) l by unfold setF; rw [hc]; rfl];unfold zem at hc;simp only [Bool.and_eq_true] at hc;obtain ⟨h1,h2,h3⟩:=hc;have H1:=hide h1;have H2:=hide h2;clear h1 h2;rcases hla with ⟨i,x,hat,hi,hx,hlk⟩ | ⟨hat,hlk⟩
  ·have HAT:=hide hat;have hat2:¬(i:Int) < 0:=by omega
   clear h3 hat;go_enter Tryz.func71,Tryz.ntmps71;(go_wp2_with fail);generalize w.alloc (.cells #[.int .i64 t,.int .i64 m,.int .i64 p,.int .i64 0,.bool true] 85)=wb at *;refine (zR _ _ _ l _ (h.below q0)).mono ?_;rintro r wy ⟨rfl,hby⟩;rw [H1.out];obtain ⟨⟨x0,x1,x2,x3,x4⟩,-⟩:=zo (ze k0 hby);(go_wp2_with fail);refine (zap (⟨t,m,p,0,true⟩:FE) _).mono ?_;rintro r wx ⟨rfl,hbx⟩;rw [H2.out];have bx:=zd q0 (zd hby hbx);have kx:=ze k0 (zd hby hbx);clear hby hbx x0 x1 x2 x3 x4;(go_wp2_with fail);refine (zaR _ _ _ l t m _ (h.below bx)).mono ?_;rintro r w1 ⟨rfl,rfl⟩;rw [HAT.out];obtain ⟨⟨x0,x1,x2,x3,x4⟩,-⟩:=zo kx;(go_wp2_with fail);refine (zbO _ _ _ l (⟨t,m,p,0,true⟩:FE) _ (h.below bx) hn).mono ?_;rintro r w9 ⟨ao9,cap9,rfl,ho9,hr9,hb9⟩;have HO:=hide (zT ho9 (base':=w.heap.size) bx.size);have HR:=hide hr9;have HB:=hide (zd bx hb9);clear ho9 hr9 hb9 bx x0 x1 x2 x3 x4;go_wp2;exact bodyPost_ret (v:=.tuple #[.slice ao9 (putF8 (⟨t,m,p,0,true⟩:FE) l).length cap9,.bool true]) (by simp [results,Tryz.results71,go_sem, *]) rfl ⟨_,_,rfl,HO.out,HR.out,HB.out⟩
  ·rw [hlk] at h3;have hlen:l.length < 12:=by simpa using h3
   have i5:¬(12:Int)≤(l.length:Int):=by omega
   have HAT:=hide hat;clear h3 hat;go_enter Tryz.func71,Tryz.ntmps71;(go_wp2_with fail);generalize w.alloc (.cells #[.int .i64 t,.int .i64 m,.int .i64 p,.int .i64 0,.bool true] 85)=wb at *;refine (zR _ _ _ l _ (h.below q0)).mono ?_;rintro r wy ⟨rfl,hby⟩;rw [H1.out];obtain ⟨⟨x0,x1,x2,x3,x4⟩,-⟩:=zo (ze k0 hby);(go_wp2_with fail);refine (zap (⟨t,m,p,0,true⟩:FE) _).mono ?_;rintro r wx ⟨rfl,hbx⟩;rw [H2.out];have bx:=zd q0 (zd hby hbx);have kx:=ze k0 (zd hby hbx);clear hby hbx x0 x1 x2 x3 x4;(go_wp2_with fail);refine (zaR _ _ _ l t m _ (h.below bx)).mono ?_;rintro r w1 ⟨rfl,rfl⟩;rw [HAT.out];obtain ⟨⟨x0,x1,x2,x3,x4⟩,-⟩:=zo kx;(go_wp2_with fail);refine (zbO _ _ _ l (⟨t,m,p,0,true⟩:FE) _ (h.below bx) hn).mono ?_;rintro r w9 ⟨ao9,cap9,rfl,ho9,hr9,hb9⟩;have HO:=hide (zT ho9 (base':=w.heap.size) bx.size);have HR:=hide hr9;have HB:=hide (zd bx hb9);clear ho9 hr9 hb9 bx x0 x1 x2 x3 x4;go_wp2;exact bodyPost_ret (v:=.tuple #[.slice ao9 (putF8 (⟨t,m,p,0,true⟩:FE) l).length cap9,.bool true]) (by simp [results,Tryz.results71,go_sem, *]) rfl ⟨_,_,rfl,HO.out,HR.out,HB.out⟩

theorem ziw {l:List VR} {id:Int} (h:zaC l id=none):rowAt l id = -1:=by unfold rowAt; rw [h]
theorem zhE {l:List VR} {id:Int} {k:Nat} (h:zaC l id=some k):rowAt l id=k:=by unfold rowAt; rw [h]

theorem zbQ (a:Option Addr) (n c:Nat) (o:Option Addr) (p q:Nat) (v:VT) (ports:Int) (w:World) (h:VTab w a n c o p q v) (hR:∀r∈v.rows,r.Rng) :
  Calls Tryz.prog 111 #[.agg #[.slice a n c,.slice o p q],.int .i64 ports] w fun r w'=>r=.returned (.bool (zP v ports))∧Below w.heap.size w w':=by
 have hle:=h.rows.le;have htop:=h.rows.top;have hle2:=h.own.le;have htop2:=h.own.top;unfold maxLen at htop htop2;have hsz:=hide h.rows.size;have hsz2:=hide h.own.size;generalize hw1:w.alloc (Obj.cells #[Value.slice a n c,Value.slice o p q] 29)=w1;have hW:=zb hw1;obtain ⟨e0,e1⟩:=zD hw1 (Below.refl _ w1);have h:=h.below hW;generalize hV:zP v ports=V;have HV:=hide hV;clear hV;cases t1:(decide (1≤ports) && decide (ports≤6))
 ·have HN:=hide (zi2 (v:=v) t1);have T1:=hide t1;clear t1;go_enter Tryz.func111,Tryz.ntmps111;go_wp2_with (refine (zaO ports 1 6 _).mono ?_; rintro r w2 ⟨rfl,e2⟩; obtain rfl:=e2.symm; rw [T1.out])
  go_ret;exact ⟨zt (by rw [← HV.out,HN.out]),hW⟩
 have T1:=hide t1;simp only [Bool.and_eq_true,decide_eq_true_eq] at t1;by_cases t2:(p:Int)=ports
 case neg =>
  have HN:=hide (ziH (v:=v) (ports:=ports) (by rw [hsz2.out]; exact t2));go_enter Tryz.func111,Tryz.ntmps111;go_wp2_with (refine (zaO ports 1 6 _).mono ?_; rintro r w2 ⟨rfl,e2⟩; obtain rfl:=e2.symm; rw [T1.out])
  go_ret;exact ⟨zt (by rw [← HV.out,HN.out]),hW⟩
 subst t2;by_cases t3:n≤6
 case neg =>
  have HN:=hide (zhR (v:=v) (ports:=p) (by rw [hsz.out]; exact t3));go_enter Tryz.func111,Tryz.ntmps111;go_wp2_with (refine (zaO (p:Int) 1 6 _).mono ?_; rintro r w2 ⟨rfl,e2⟩; obtain rfl:=e2.symm; rw [T1.out])
  go_ret;exact ⟨zt (by rw [← HV.out,HN.out]),hW⟩
 cases t4:vrises v.rows
 ·have HN:=hide (zhS (v:=v) (ports:=p) t4);have T4:=hide t4;clear t4;go_enter Tryz.func111,Tryz.ntmps111;go_wp2_with (refine (zaO (p:Int) 1 6 _).mono ?_; rintro r w2 ⟨rfl,e2⟩; obtain rfl:=e2.symm; rw [T1.out])
  refine (zbP a n c o p q _).mono ?_;rintro r w2 ⟨rfl,hb2⟩;(go_wp2_with fail);refine (zcm a n c v.rows _ (h.rows.below hb2)).mono ?_;rintro r w3 ⟨rfl,hb3⟩;rw [T4.out];have HB:=hide (zd hW (zd hb2 hb3));clear hb2 hb3;go_wp2;go_ret;exact ⟨zt (by rw [← HV.out,HN.out]),HB.out⟩
 have T4:=hide t4;clear t4;go_enter Tryz.func111,Tryz.ntmps111;go_wp2_with (refine (zaO (p:Int) 1 6 _).mono ?_; rintro r w2 ⟨rfl,e2⟩; obtain rfl:=e2.symm; rw [T1.out])
 refine (zbP a n c o p q _).mono ?_;rintro r w2 ⟨rfl,hb2⟩;go_wp2_with fail
 refine (zcm a n c v.rows _ (h.rows.below hb2)).mono ?_;rintro r w3 ⟨rfl,hb3⟩;rw [T4.out];have b13:=zd hb2 hb3;obtain ⟨x0,x1⟩:=zD hw1 b13;clear hb2 hb3 e0 e1;go_wp2
 go_loopw [34] (fun i wr=>∃k:Nat,k≤n∧i=.int .i64 k∧zgw (allOf p) v.rows k∧Below w1.heap.size w1 wr) (fun i _=>n - (intOf i).toNat)
 case atStart=>exact ⟨0,Nat.zero_le _,rfl,fun i x hi=>by omega,b13⟩
 case round =>
  obtain ⟨k,hk,rfl,hok,hb⟩:=hrel;by_cases hlt:k < n
  ·obtain ⟨x,b,off,hx,rfl,c0,c1,c2⟩:=zaJ (h.rows.below hb) k hlt;have hxr:x.Rng:=hR x (List.mem_of_getElem? hx);cases t5:za3 (allOf p) x
   ·have HN:=hide (ziI (v:=v) (p:=p) hx t5);have T5:=hide t5;have HB:=hide hb;clear t5 hok hb hx x0 x1;(go_wp2_with fail);refine (zcC x p _ hxr (by omega) (by omega)).mono ?_;rintro r w5 ⟨rfl,hb5⟩;rw [T5.out];have HB1:=hide (zd hW (zd HB.out (zd (zh _ _) hb5)));clear hb5 c0 c1 c2;go_wp2;go_ret;exact ⟨zt (by rw [← HV.out,HN.out]),HB1.out⟩
   ·have HO:=hide (zf5 hok hx t5);have T5:=hide t5;have HB:=hide hb;clear t5 hok hb hx x0 x1;(go_wp2_with fail);refine (zcC x p _ hxr (by omega) (by omega)).mono ?_;rintro r w5 ⟨rfl,hb5⟩;rw [T5.out];have HB1:=hide (zd HB.out (zd (zh _ _) hb5));clear hb5 c0 c1 c2;go_wp2
    go_roundw
    case rel=>exact ⟨k+1,by omega,by go_num,HO.out,HB1.out⟩
    case measure=>simp [intOf]; omega
  ·have HK:Hid (vokTo (allOf p) v.rows v.rows.length):=hide (ziF (fun i x hi hx=>hok i x (by have:=hsz.out; omega) hx) T4.out);obtain ⟨y0,y1⟩:=zD hw1 hb;have HB:=hide hb;have hkn:k=n:=by omega
   clear hok hb x0 x1;subst hkn;go_wp2
   go_loopw [46] (fun i wr=>∃k:Nat,k≤p∧i=.int .i64 k∧ownTo v k∧Below w1.heap.size w1 wr) (fun i _=>p - (intOf i).toNat)
   case atStart=>exact ⟨0,Nat.zero_le _,rfl,fun i x hi=>by omega,HB.out⟩
   case round =>
    obtain ⟨j,hj,rfl,hto,hb⟩:=hrel;by_cases hlt:j < p
    ·obtain ⟨x,b,off,hx,rfl,c0⟩:=zfO (h.own.below hb) j hlt;obtain ⟨z0,z1⟩:=zD hw1 hb;clear y0 y1;cases hr:zaC v.rows x with
     | none =>
      have HN:=hide (zgA (p:=p) (List.mem_of_getElem? hx) hr);have HA:=hide (ziw hr);have HB3:=hide hb;clear hto hb hx hr;(go_wp2_with fail);refine (zcU a k c v.rows (some ⟨b,off,none⟩) p q x _ (h.rows.below HB3.out)).mono ?_;rintro r w5 ⟨rfl,hb5⟩;rw [HA.out];have HB1:=hide (zd hW (zd HB3.out hb5));clear hb5 c0 z0 z1;go_wp2;go_ret;exact ⟨zt (by rw [← HV.out,HN.out]),HB1.out⟩
     | some i =>
      have HO:=hide (zev hto hx (by rw [hr]; exact fun h=>by cases h));have HA:=hide (zhE hr);have HB3:=hide hb;have hneg:¬((i:Int) < 0):=by omega
      clear hto hb hx hr;(go_wp2_with fail);refine (zcU a k c v.rows (some ⟨b,off,none⟩) p q x _ (h.rows.below HB3.out)).mono ?_;rintro r w5 ⟨rfl,hb5⟩;rw [HA.out];have HB1:=hide (zd HB3.out hb5);clear hb5 c0 z0 z1;go_wp2
      go_roundw
      case rel=>exact ⟨j+1,by omega,by go_num,HO.out,HB1.out⟩
      case measure=>simp [intOf]; omega
    ·have HN:Hid (zP v p=true):=hide (zgB t1.1 t1.2 hsz2.out (by have:=hsz.out; omega) HK.out (zfn hto (by have:=hsz2.out; omega)));have HB3:=hide (zd hW hb);have hjn:j=p:=by omega
     clear hto hb y0 y1;subst hjn;go_wp2;go_ret;exact ⟨zt (by rw [← HV.out,HN.out]),HB3.out⟩

end Go.Proofs.YtljbdmlgfggadaaGreat
