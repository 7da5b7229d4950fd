/-
  Packed: MibPort MibRow MibEnt VlanTab MibHelp BrNewS BrBuild MibSpecN.
-/
import Derived.Test.YtcpdkcdfnpcemabGreatPGK06
import Derived.Test.YtcpdkcdfnpcemabGreatPGK15
import Derived.Test.YtcpdkcdfnpcemabGreatPGVlanOk
import Derived.Laws.IdiomStrings
namespace Go.Proofs.YtcpdkcdfnpcemabGreat
set_option maxRecDepth 100000
set_option maxHeartbeats 16000000
open Go.RowKit

theorem zcG (a:Option Addr) (n c:Nat) (fa:Option Addr) (fn fc:Nat) (ra:Option Addr) (rn rc:Nat) (oa:Option Addr) (on oc:Nat) (B:BR) (w:World) (h:BrRow w a n c fa fn fc ra rn rc oa on oc B) (ok:MbOk B) :
  Calls Tryz.prog 128 #[.agg #[.int .i64 B.id,.string B.name,.slice a n c,.slice fa fn fc,.slice ra rn rc,.slice oa on oc,.int .i64 B.ticks,.int .i64 B.parse,.int .i64 B.word,.int .i64 B.drops,.int .i64 B.vers]] w fun e w'=>∃(ao:Option Addr) (cap:Nat) (l:List TH),e=.returned (.slice ao l.length cap)∧l.map TH.d=zI (zL B) 4∧Things w' w.heap.size ao cap l∧Below w.heap.size w w':=by
 generalize hw1:w.alloc (Obj.cells #[.int .i64 B.id,.string B.name,.slice a n c,.slice fa fn fc,.slice ra rn rc,.slice oa on oc,.int .i64 B.ticks,.int .i64 B.parse,.int .i64 B.word,.int .i64 B.drops,.int .i64 B.vers] 40)=w1;have b1:=zb hw1;have k1:=zk hw1;have HH:=hide h;have hle:=h.ports.le;have htop:=h.ports.top;unfold maxLen at htop;have HLN:Hid (n=B.ports.length):=hide h.ports.size.symm;have hn12:n≤12:=by have:=h.ports.size; have:=ok.p; have:=ok.r; have:=ok.f; omega
 obtain ⟨x0,x1,x2,x3,x4,x5,x6,x7,x8,x9,x10⟩:=zh k1;go_enter Tryz.func128,Tryz.ntmps128;go_wp2_with fail
 clear x0 x1 x2 x3 x4 x5 x6 x7 x8 x9 x10 hw1
 go_loopw [3,4,8] (fun v3 u4 vj wr=>∃(j:Nat) (ao:Option Addr) (cap:Nat) (l:List TL),v3=.slice ao l.length cap∧vj=.int .i64 (j:Int)∧j≤n∧l.length=j∧(∀(i:Nat) (t:TL) x,l[i]? = some t→B.ports[i]? = some x→t.z=[(i:Int)+1])∧Tails wr w1.heap.size ao cap l∧Below w1.heap.size w1 wr) (fun _ _ vj _=>14 - (intOf vj).toNat)
 case atStart=>exact ⟨0,none,0,[],rfl,rfl,Nat.zero_le _,rfl,(by intro i t x hi; simp at hi),zcB _ _,Below.refl _ _⟩
 case round =>
  obtain ⟨j,ao,cap,l,rfl,rfl,hj,hlj,hz,tls,hb⟩:=hrel;have k2:=zd k1 hb;have hbw:=b1.size;by_cases hjn:j < n
  ·have hjn':(j:Int) < (n:Int):=by omega
   have hj12:(j:Int)≤12:=by omega
   obtain ⟨x,hx⟩:∃x,B.ports[j]? = some x:=⟨_,List.getElem?_eq_getElem (by have:=HLN.out; omega)⟩;have HX:=hide hx;have HZ:=hide hz;have HTL:=hide tls;have HB:=hide hb;have HLJ:=hide hlj;have HBW:Hid (w1.heap.size≤wr.heap.size):=hide hb.size;clear k2 tls hb hz hlj;(go_wp2_with fail);refine (zbc (j:Int) (by omega) _).mono ?_;rintro e w5 ⟨rfl,ew⟩;obtain rfl:=ew.symm;have HBR:Hid (Below wr.heap.size wr wr):=hide (Below.refl _ _);generalize hwa:wr.alloc (Obj.cells #[.int .i64 ((j:Int)+1)] 3)=wa;have ba:=zb hwa;have ka:=zk hwa;generalize hwb:wa.alloc (Obj.cells #[.slice (some ⟨wr.heap.size,0,none⟩) 1 1] 25)=wb;have bb:=zb hwb;obtain ⟨y,hy⟩:∃y:TL,y=⟨some ⟨wr.heap.size,0,none⟩,1,1,[((j:Int)+1)]⟩:=⟨_,rfl⟩;have gone:GRow tlF wb (some ⟨wa.heap.size,0,none⟩) 1 1 [y]:=by rw [← hwb]; exact zch tlF wa y _ _ (by rw [hy]; rfl)
   have HBY:Hid (Below wr.heap.size wr wb):=hide (ze (ze HBR.out ba) bb);have HOY:Hid (wb.ownsRow wr.heap.size 3 1 (.slice y.a y.n y.c) y.n (cI y.z)):=hide (by
    rw [hy]
    have:=zab intF (base:=wr.heap.size) (l:=[((j:Int)+1)]) ka rfl HBR.out.size (by simp)
    rw [← z7];exact zD this bb)
   have HIY:Hid (I64s y.z):=hide (by rw [hy]; intro z hz2; simp at hz2; omega);have HNY:Hid (y.n≤2):=hide (by rw [hy]; show 1≤2; omega);have HYZ:Hid (y.z=[(j:Int)+1]):=hide (by rw [hy]);have hrow:=(HTL.out.below HBY.out).row;have hl12:l.length≤12:=by have:=HLJ.out; omega
   have HBK:Hid (∀k,(Value.slice ao l.length cap).ownBlock=some k→w1.heap.size≤k):=hide (fun k hk=>(HTL.out.row.lt k hk).1);have hbw2:w1.heap.size≤wb.heap.size:=Nat.le_trans HBW.out HBY.out.size;clear ka hy ba bb;go_wp2_with (at_builtin; refine zy (F:=tlF) _ rfl _ _ 209 25 rfl w1.heap.size Tryz.underlying209 zfD rfl (by decide) _ l.length l rfl hrow (some ⟨wa.heap.size,0,none⟩) 1 1 [y] rfl gone (by omega) hbw2 ?_)
   intro ao2 cap2 we how2 _ hgr2 hb2;have HLN2:Hid ((l++[y]).length=l.length+1):=hide (by simp);have HT2:=hide (HTL.out.push (y:=y) HBY.out HOY.out HIY.out HNY.out HBW.out hgr2 (by rw [HLN2.out]; exact how2));have HB2:=hide ((ze HB.out HBY.out).grown hgr2 (Nat.le_trans HB.out.size HBY.out.size) (fun k hk=>HBK.out k hk));clear hrow gone hbw2 how2 hgr2 hb2 hwa hwb;have HZ2:Hid (∀(i:Nat) (t:TL) u,(l++[y])[i]? = some t→B.ports[i]? = some u→t.z=[(i:Int)+1]):=hide (by
    intro i t u hi hu;by_cases hil:i < l.length
    ·rw [List.getElem?_append_left hil] at hi;exact HZ.out i t u hi hu
    ·have hil2:=(List.getElem?_eq_some_iff.1 hi).1;rw [HLN2.out] at hil2;have hij:i=l.length:=by omega
     subst hij
     have:t=y:=by simpa using hi.symm
     rw [this,HYZ.out];rw [← HLJ.out] at HX
     have:=HX.out.symm.trans hu
     cases this;rw [HLJ.out])
   go_wp2
   go_roundw
   case rel=>exact ⟨j+1,ao2,cap2,l++[y],by rw [HLN2.out],by go_num,by omega,by rw [HLN2.out,HLJ.out],HZ2.out,HT2.out,HB2.out⟩
   case measure=>simp [intOf]; omega
  ·have hjn':¬(j:Int) < (n:Int):=by omega
   have hje:l.length=n:=by omega
   have hbs:=Nat.le_trans hbw hb.size;generalize hwc:wr.alloc (Obj.cells #[.func (.func 176) #[] #[.pointer (some ⟨w.heap.size,0,none⟩)],.func (.func 178) #[] #[.pointer (some ⟨w.heap.size,0,none⟩)],.func (.func 179) #[] #[.pointer (some ⟨w.heap.size,0,none⟩)],.func (.func 181) #[] #[.pointer (some ⟨w.heap.size,0,none⟩)]] 161)=wc;have bc:=zb hwc;have kc:=zk hwc;have hcl:=zT (F:=clF) (zab clF (base:=0) (l:=[⟨176,#[.pointer (some ⟨w.heap.size,0,none⟩)]⟩,⟨178,#[.pointer (some ⟨w.heap.size,0,none⟩)]⟩,⟨179,#[.pointer (some ⟨w.heap.size,0,none⟩)]⟩,⟨181,#[.pointer (some ⟨w.heap.size,0,none⟩)]⟩]) kc rfl (Nat.zero_le _) (by simp));have HBS:Hid (w.heap.size≤wc.heap.size):=hide (Nat.le_trans hbs bc.size);have HBC:=hide (ze (ze b1 hb) bc);have HKC:=hide (zd k2 bc);have tlr:=(tls.below bc).reads;have HZ:=hide hz;have hlen:=HLN.out;have HJE:=hide hje;clear k1 k2 kc b1 hb tls bc hz hlj hje;(go_wp2_with fail);refine (zam 2 _ l.length _ l _ 4 [⟨176,#[.pointer (some ⟨w.heap.size,0,none⟩)]⟩,⟨178,#[.pointer (some ⟨w.heap.size,0,none⟩)]⟩,⟨179,#[.pointer (some ⟨w.heap.size,0,none⟩)]⟩,⟨181,#[.pointer (some ⟨w.heap.size,0,none⟩)]⟩] (portG B) _ tlr.1 tlr.2 (by have:=HJE.out; omega) hcl (by omega) (by omega) ?_).mono ?_
   ·intro i j t ht;obtain ⟨x,hx⟩:∃x,B.ports[j]? = some x:=⟨_,List.getElem?_eq_getElem (by have:=(List.getElem?_eq_some_iff.1 ht).1; have:=HJE.out; omega)⟩;rw [HZ.out j t x ht hx];unfold portG;rw [hx]
    rfl
   rw [HJE.out];rintro e w3 ⟨ao,cap,l,rfl,hd,st⟩;have HB:=hide (ze HBC.out st.below);have KB:=hide (zd HKC.out st.below);have HT:Hid (Things w3 w.heap.size ao cap l):=hide (by
    refine za1 st (fun i cf hi => ?_) (fun i j => ?_) HBS.out
    ·have him:i < 4:=(List.getElem?_eq_some_iff.1 hi).1;rcases (show i=0∨i=1∨i=2∨i=3 by omega) with rfl | rfl | rfl | rfl
     ·cases hi;refine ⟨enters_of Tryz.func176 (by kernel_rfl) rfl,fun j hj w2 hw2 => ?_⟩;obtain ⟨x,hx⟩:∃x,B.ports[j]? = some x:=⟨_,List.getElem?_eq_getElem (by have:=HLN.out; omega)⟩;have hg:portG B 0 j=portB B 1 j x:=by unfold portG; rw [hx]; rfl
      rw [hg];exact zfs a n c fa fn fc ra rn rc oa on oc B j w.heap.size w2 (zd KB.out hw2) (HH.out.ports.below (ze HB.out hw2)) x hx
     ·cases hi;refine ⟨enters_of Tryz.func178 (by kernel_rfl) rfl,fun j hj w2 hw2 => ?_⟩;obtain ⟨x,hx⟩:∃x,B.ports[j]? = some x:=⟨_,List.getElem?_eq_getElem (by have:=HLN.out; omega)⟩;have hg:portG B 1 j=portB B 2 j x:=by unfold portG; rw [hx]; rfl
      rw [hg];exact zft a n c fa fn fc ra rn rc oa on oc B j w.heap.size w2 (zd KB.out hw2) (HH.out.ports.below (ze HB.out hw2)) x hx
     ·cases hi;refine ⟨enters_of Tryz.func179 (by kernel_rfl) rfl,fun j hj w2 hw2 => ?_⟩;obtain ⟨x,hx⟩:∃x,B.ports[j]? = some x:=⟨_,List.getElem?_eq_getElem (by have:=HLN.out; omega)⟩;have hg:portG B 2 j=portB B 3 j x:=by unfold portG; rw [hx]; rfl
      rw [hg];exact zfu a n c fa fn fc ra rn rc oa on oc B j w.heap.size w2 (zd KB.out hw2) (HH.out.ports.below (ze HB.out hw2)) x
     ·cases hi;refine ⟨enters_of Tryz.func181 (by kernel_rfl) rfl,fun j hj w2 hw2 => ?_⟩;obtain ⟨x,hx⟩:∃x,B.ports[j]? = some x:=⟨_,List.getElem?_eq_getElem (by have:=HLN.out; omega)⟩;have hg:portG B 3 j=portB B 4 j x:=by unfold portG; rw [hx]; rfl
      rw [hg];exact zfv a n c fa fn fc ra rn rc oa on oc B j w.heap.size w2 (zd KB.out hw2) (HH.out.v.own.below (ze HB.out hw2)) (by have:=HLN.out; have:=HH.out.v.own.size; have:=ok.o; omega) x
    ·unfold portG
     split
     all_goals exact ⟨rfl,Nat.zero_le _⟩
    )
   have HD:=hide hd;clear hd st;go_wp2;go_ret;exact ⟨ao,cap,l,rfl,(by rw [HD.out,HLN.out]; exact zfw B),HT.out,HB.out⟩
   

theorem zc2 (a:Option Addr) (n c:Nat) (fa:Option Addr) (fn fc:Nat) (ra:Option Addr) (rn rc:Nat) (oa:Option Addr) (on oc:Nat) (B:BR) (w:World) (h:BrRow w a n c fa fn fc ra rn rc oa on oc B) (ok:MbOk B) :
  Calls Tryz.prog 129 #[.agg #[.int .i64 B.id,.string B.name,.slice a n c,.slice fa fn fc,.slice ra rn rc,.slice oa on oc,.int .i64 B.ticks,.int .i64 B.parse,.int .i64 B.word,.int .i64 B.drops,.int .i64 B.vers]] w fun e w'=>∃(ao:Option Addr) (cap:Nat) (l:List TH),e=.returned (.slice ao l.length cap)∧l.map TH.d=zI (zaf B) 3∧Things w' w.heap.size ao cap l∧Below w.heap.size w w':=by
 generalize hw1:w.alloc (Obj.cells #[.int .i64 B.id,.string B.name,.slice a n c,.slice fa fn fc,.slice ra rn rc,.slice oa on oc,.int .i64 B.ticks,.int .i64 B.parse,.int .i64 B.word,.int .i64 B.drops,.int .i64 B.vers] 40)=w1;have b1:=zb hw1;have k1:=zk hw1;have HH:=hide h;have hle:=h.v.rows.le;have htop:=h.v.rows.top;unfold maxLen at htop;have HLN:Hid (rn=B.v.rows.length):=hide h.v.rows.size.symm;have hn12:rn≤12:=by have:=h.v.rows.size; have:=ok.p; have:=ok.r; have:=ok.f; omega
 obtain ⟨x0,x1,x2,x3,x4,x5,x6,x7,x8,x9,x10⟩:=zh k1;go_enter Tryz.func129,Tryz.ntmps129;go_wp2_with fail
 clear x0 x1 x2 x3 x4 x5 x6 x7 x8 x9 x10 hw1
 go_loopw [3,5,10] (fun v3 u5 vj wr=>∃(j:Nat) (ao:Option Addr) (cap:Nat) (l:List TL),v3=.slice ao l.length cap∧vj=.int .i64 (j:Int)∧j≤rn∧l.length=j∧(∀(i:Nat) (t:TL) x,l[i]? = some t→B.v.rows[i]? = some x→t.z=[x.i])∧Tails wr w1.heap.size ao cap l∧Below w1.heap.size w1 wr) (fun _ _ vj _=>14 - (intOf vj).toNat)
 case atStart=>exact ⟨0,none,0,[],rfl,rfl,Nat.zero_le _,rfl,(by intro i t x hi; simp at hi),zcB _ _,Below.refl _ _⟩
 case round =>
  obtain ⟨j,ao,cap,l,rfl,rfl,hj,hlj,hz,tls,hb⟩:=hrel;have k2:=zd k1 hb;have hbw:=b1.size;by_cases hjn:j < rn
  ·have hjn':(j:Int) < (rn:Int):=by omega
   have hj12:(j:Int)≤12:=by omega
   obtain ⟨x,hx⟩:∃x,B.v.rows[j]? = some x:=⟨_,List.getElem?_eq_getElem (by have:=HLN.out; omega)⟩;have HX:=hide hx;have HZ:=hide hz;have HTL:=hide tls;have HB:=hide hb;have HLJ:=hide hlj;have HBW:Hid (w1.heap.size≤wr.heap.size):=hide hb.size;obtain ⟨x',rb,off,hx',hra,c0,c1,c2⟩:=zak (HH.out.v.rows.below (ze b1 hb)) j hjn;rw [hx] at hx';cases hx';subst hra;generalize hwz:wr.alloc (Obj.cells #[.int .i64 0,.int .i64 0,.int .i64 0] 113)=wz;have bz:=zb hwz;have kz:=zk hwz;obtain ⟨⟨p0,p1,p2⟩,f0,f1,f2⟩:=zev kz;have d0:=(bz.cell (zj c0)).trans c0;have d1:=(bz.cell (zj c1)).trans c1;have d2:=(bz.cell (zj c2)).trans c2;clear k2 tls hb hz hlj;(go_upto_region 5 with fail);clear p0 f0 c0 d0 p1 f1 c1 d1 p2 f2 c2 d2 hwz;refine zeU kz _ _ _ (fun ws ks gs => ?_);have HBR:Hid (Below wr.heap.size wr ws):=hide (bz.grown gs bz.size (fun b hb2=>by cases hb2; exact Nat.le_refl _));obtain ⟨⟨p0,p1,p2⟩,-⟩:=zev ks;clear bz kz gs;have hxi:=ok.ri x (List.mem_of_getElem? HX.out);generalize hwa:ws.alloc (Obj.cells #[.int .i64 x.i] 3)=wa;have ba:=zb hwa;have ka:=zk hwa;generalize hwb:wa.alloc (Obj.cells #[.slice (some ⟨ws.heap.size,0,none⟩) 1 1] 25)=wb;have bb:=zb hwb;obtain ⟨y,hy⟩:∃y:TL,y=⟨some ⟨ws.heap.size,0,none⟩,1,1,[x.i]⟩:=⟨_,rfl⟩;have gone:GRow tlF wb (some ⟨wa.heap.size,0,none⟩) 1 1 [y]:=by rw [← hwb]; exact zch tlF wa y _ _ (by rw [hy]; rfl)
   have HBY:Hid (Below wr.heap.size wr wb):=hide (ze (ze HBR.out ba) bb);have HOY:Hid (wb.ownsRow wr.heap.size 3 1 (.slice y.a y.n y.c) y.n (cI y.z)):=hide (by
    rw [hy]
    have:=zab intF (base:=wr.heap.size) (l:=[x.i]) ka rfl HBR.out.size (by simp)
    rw [← z7];exact zD this bb)
   have HIY:Hid (I64s y.z):=hide (by rw [hy]; intro z hz2; simp at hz2; omega);have HNY:Hid (y.n≤2):=hide (by rw [hy]; show 1≤2; omega);have HYZ:Hid (y.z=[x.i]):=hide (by rw [hy]);have hrow:=(HTL.out.below HBY.out).row;have hl12:l.length≤12:=by have:=HLJ.out; omega
   have HBK:Hid (∀k,(Value.slice ao l.length cap).ownBlock=some k→w1.heap.size≤k):=hide (fun k hk=>(HTL.out.row.lt k hk).1);have hbw2:w1.heap.size≤wb.heap.size:=Nat.le_trans HBW.out HBY.out.size;clear ka hy ba bb;go_wp2_with (at_builtin; refine zy (F:=tlF) _ rfl _ _ 209 25 rfl w1.heap.size Tryz.underlying209 zfD rfl (by decide) _ l.length l rfl hrow (some ⟨wa.heap.size,0,none⟩) 1 1 [y] rfl gone (by omega) hbw2 ?_)
   intro ao2 cap2 we how2 _ hgr2 hb2;have HLN2:Hid ((l++[y]).length=l.length+1):=hide (by simp);have HT2:=hide (HTL.out.push (y:=y) HBY.out HOY.out HIY.out HNY.out HBW.out hgr2 (by rw [HLN2.out]; exact how2));have HB2:=hide ((ze HB.out HBY.out).grown hgr2 (Nat.le_trans HB.out.size HBY.out.size) (fun k hk=>HBK.out k hk));clear hrow gone hbw2 how2 hgr2 hb2 hwa hwb;have HZ2:Hid (∀(i:Nat) (t:TL) u,(l++[y])[i]? = some t→B.v.rows[i]? = some u→t.z=[u.i]):=hide (by
    intro i t u hi hu;by_cases hil:i < l.length
    ·rw [List.getElem?_append_left hil] at hi;exact HZ.out i t u hi hu
    ·have hil2:=(List.getElem?_eq_some_iff.1 hi).1;rw [HLN2.out] at hil2;have hij:i=l.length:=by omega
     subst hij
     have:t=y:=by simpa using hi.symm
     rw [this,HYZ.out];rw [← HLJ.out] at HX
     have:=HX.out.symm.trans hu
     cases this
     rfl)
   go_wp2
   go_roundw
   case rel=>exact ⟨j+1,ao2,cap2,l++[y],by rw [HLN2.out],by go_num,by omega,by rw [HLN2.out,HLJ.out],HZ2.out,HT2.out,HB2.out⟩
   case measure=>simp [intOf]; omega
  ·have hjn':¬(j:Int) < (rn:Int):=by omega
   have hje:l.length=rn:=by omega
   have hbs:=Nat.le_trans hbw hb.size;generalize hwc:wr.alloc (Obj.cells #[.func (.func 182) #[] #[],.func (.func 183) #[] #[.pointer (some ⟨w.heap.size,0,none⟩)],.func (.func 184) #[] #[.pointer (some ⟨w.heap.size,0,none⟩)]] 161)=wc;have bc:=zb hwc;have kc:=zk hwc;have hcl:=zT (F:=clF) (zab clF (base:=0) (l:=[⟨182,#[]⟩,⟨183,#[.pointer (some ⟨w.heap.size,0,none⟩)]⟩,⟨184,#[.pointer (some ⟨w.heap.size,0,none⟩)]⟩]) kc rfl (Nat.zero_le _) (by simp));have HBS:Hid (w.heap.size≤wc.heap.size):=hide (Nat.le_trans hbs bc.size);have HBC:=hide (ze (ze b1 hb) bc);have HKC:=hide (zd k2 bc);have tlr:=(tls.below bc).reads;have HZ:=hide hz;have hlen:=HLN.out;have HJE:=hide hje;clear k1 k2 kc b1 hb tls bc hz hlj hje;(go_wp2_with fail);refine (zam 3 _ l.length _ l _ 3 [⟨182,#[]⟩,⟨183,#[.pointer (some ⟨w.heap.size,0,none⟩)]⟩,⟨184,#[.pointer (some ⟨w.heap.size,0,none⟩)]⟩] (rowG B) _ tlr.1 tlr.2 (by have:=HJE.out; omega) hcl (by omega) (by omega) ?_).mono ?_
   ·intro i j t ht;obtain ⟨x,hx⟩:∃x,B.v.rows[j]? = some x:=⟨_,List.getElem?_eq_getElem (by have:=(List.getElem?_eq_some_iff.1 ht).1; have:=HJE.out; omega)⟩;rw [HZ.out j t x ht hx];unfold rowG;rw [hx]
    rfl
   rw [HJE.out];rintro e w3 ⟨ao,cap,l,rfl,hd,st⟩;have HB:=hide (ze HBC.out st.below);have KB:=hide (zd HKC.out st.below);have HT:Hid (Things w3 w.heap.size ao cap l):=hide (by
    refine za1 st (fun i cf hi => ?_) (fun i j => ?_) HBS.out
    ·have him:i < 3:=(List.getElem?_eq_some_iff.1 hi).1;rcases (show i=0∨i=1∨i=2 by omega) with rfl | rfl | rfl
     ·cases hi;refine ⟨enters_of Tryz.func182 (by kernel_rfl) rfl,fun j hj w2 hw2 => ?_⟩;obtain ⟨x,hx⟩:∃x,B.v.rows[j]? = some x:=⟨_,List.getElem?_eq_getElem (by have:=HLN.out; omega)⟩;have hg:rowG B 0 j=rowB 1 j x:=by unfold rowG; rw [hx]; rfl
      rw [hg];exact zgb (j:Int) w2
     ·cases hi;refine ⟨enters_of Tryz.func183 (by kernel_rfl) rfl,fun j hj w2 hw2 => ?_⟩;obtain ⟨x,hx⟩:∃x,B.v.rows[j]? = some x:=⟨_,List.getElem?_eq_getElem (by have:=HLN.out; omega)⟩;have hg:rowG B 1 j=rowB 2 j x:=by unfold rowG; rw [hx]; rfl
      rw [hg];exact zgc a n c fa fn fc ra rn rc oa on oc B j w.heap.size w2 (zd KB.out hw2) (HH.out.v.rows.below (ze HB.out hw2)) x hx
     ·cases hi;refine ⟨enters_of Tryz.func184 (by kernel_rfl) rfl,fun j hj w2 hw2 => ?_⟩;obtain ⟨x,hx⟩:∃x,B.v.rows[j]? = some x:=⟨_,List.getElem?_eq_getElem (by have:=HLN.out; omega)⟩;have hg:rowG B 2 j=rowB 3 j x:=by unfold rowG; rw [hx]; rfl
      rw [hg];exact zgd a n c fa fn fc ra rn rc oa on oc B j w.heap.size w2 (zd KB.out hw2) (HH.out.v.rows.below (ze HB.out hw2)) x hx
    ·unfold rowG
     split
     all_goals exact ⟨rfl,Nat.zero_le _⟩
    )
   have HD:=hide hd;clear hd st;go_wp2;go_ret;exact ⟨ao,cap,l,rfl,(by rw [HD.out,HLN.out]; exact zgf B),HT.out,HB.out⟩
   

theorem zc0 (a:Option Addr) (n c:Nat) (fa:Option Addr) (fn fc:Nat) (ra:Option Addr) (rn rc:Nat) (oa:Option Addr) (on oc:Nat) (B:BR) (w:World) (h:BrRow w a n c fa fn fc ra rn rc oa on oc B) (ok:MbOk B) :
  Calls Tryz.prog 130 #[.agg #[.int .i64 B.id,.string B.name,.slice a n c,.slice fa fn fc,.slice ra rn rc,.slice oa on oc,.int .i64 B.ticks,.int .i64 B.parse,.int .i64 B.word,.int .i64 B.drops,.int .i64 B.vers]] w fun e w'=>∃(ao:Option Addr) (cap:Nat) (l:List TH),e=.returned (.slice ao l.length cap)∧l.map TH.d=zcv B∧Things w' w.heap.size ao cap l∧Below w.heap.size w w':=by
 generalize hw1:w.alloc (Obj.cells #[.int .i64 B.id,.string B.name,.slice a n c,.slice fa fn fc,.slice ra rn rc,.slice oa on oc,.int .i64 B.ticks,.int .i64 B.parse,.int .i64 B.word,.int .i64 B.drops,.int .i64 B.vers] 40)=w1;have b1:=zb hw1;have k1:=zk hw1;have HH:=hide h;have hle:=h.f.le;have htop:=h.f.top;unfold maxLen at htop;have HLN:Hid (fn=B.f.length):=hide h.f.size.symm;have hn12:fn≤12:=by have:=h.f.size; have:=ok.p; have:=ok.r; have:=ok.f; omega
 obtain ⟨x0,x1,x2,x3,x4,x5,x6,x7,x8,x9,x10⟩:=zh k1;go_enter Tryz.func130,Tryz.ntmps130;go_wp2_with fail
 clear x0 x1 x2 x3 x4 x5 x6 x7 x8 x9 x10 hw1
 go_loopw [3,5,9] (fun v3 u5 vj wr=>∃(j:Nat) (ao:Option Addr) (cap:Nat) (l:List TL),v3=.slice ao l.length cap∧vj=.int .i64 (j:Int)∧j≤fn∧l.length=j∧(∀(i:Nat) (t:TL) x,l[i]? = some t→B.f[i]? = some x→t.z=[x.t,x.m])∧Tails wr w1.heap.size ao cap l∧Below w1.heap.size w1 wr) (fun _ _ vj _=>14 - (intOf vj).toNat)
 case atStart=>exact ⟨0,none,0,[],rfl,rfl,Nat.zero_le _,rfl,(by intro i t x hi; simp at hi),zcB _ _,Below.refl _ _⟩
 case round =>
  obtain ⟨j,ao,cap,l,rfl,rfl,hj,hlj,hz,tls,hb⟩:=hrel;have k2:=zd k1 hb;have hbw:=b1.size;by_cases hjn:j < fn
  ·have hjn':(j:Int) < (fn:Int):=by omega
   have hj12:(j:Int)≤12:=by omega
   obtain ⟨x,hx⟩:∃x,B.f[j]? = some x:=⟨_,List.getElem?_eq_getElem (by have:=HLN.out; omega)⟩;have HX:=hide hx;have HZ:=hide hz;have HTL:=hide tls;have HB:=hide hb;have HLJ:=hide hlj;have HBW:Hid (w1.heap.size≤wr.heap.size):=hide hb.size;obtain ⟨x',rb,off,hx',hra,c0,c1,c2,c3,c4⟩:=zaK (HH.out.f.below (ze b1 hb)) j hjn;rw [hx] at hx';cases hx';subst hra;generalize hwz:wr.alloc (Obj.cells #[.int .i64 0,.int .i64 0,.int .i64 0,.int .i64 0,.bool false] 116)=wz;have bz:=zb hwz;have kz:=zk hwz;obtain ⟨⟨p0,p1,p2,p3,p4⟩,f0,f1,f2,f3,f4⟩:=zm kz;have d0:=(bz.cell (zj c0)).trans c0;have d1:=(bz.cell (zj c1)).trans c1;have d2:=(bz.cell (zj c2)).trans c2;have d3:=(bz.cell (zj c3)).trans c3;have d4:=(bz.cell (zj c4)).trans c4;clear k2 tls hb hz hlj;(go_upto_region 5 with fail);clear p0 f0 c0 d0 p1 f1 c1 d1 p2 f2 c2 d2 p3 f3 c3 d3 p4 f4 c4 d4 hwz;refine zdz kz _ _ _ _ _ (fun ws ks gs => ?_);have HBR:Hid (Below wr.heap.size wr ws):=hide (bz.grown gs bz.size (fun b hb2=>by cases hb2; exact Nat.le_refl _));obtain ⟨⟨p0,p1,p2,p3,p4⟩,-⟩:=zm ks;clear bz kz gs;have hxi:=ok.fi x (List.mem_of_getElem? HX.out);generalize hwa:ws.alloc (Obj.cells #[.int .i64 x.t,.int .i64 x.m] 3)=wa;have ba:=zb hwa;have ka:=zk hwa;generalize hwb:wa.alloc (Obj.cells #[.slice (some ⟨ws.heap.size,0,none⟩) 2 2] 25)=wb;have bb:=zb hwb;obtain ⟨y,hy⟩:∃y:TL,y=⟨some ⟨ws.heap.size,0,none⟩,2,2,[x.t,x.m]⟩:=⟨_,rfl⟩;have gone:GRow tlF wb (some ⟨wa.heap.size,0,none⟩) 1 1 [y]:=by rw [← hwb]; exact zch tlF wa y _ _ (by rw [hy]; rfl)
   have HBY:Hid (Below wr.heap.size wr wb):=hide (ze (ze HBR.out ba) bb);have HOY:Hid (wb.ownsRow wr.heap.size 3 1 (.slice y.a y.n y.c) y.n (cI y.z)):=hide (by
    rw [hy]
    have:=zab intF (base:=wr.heap.size) (l:=[x.t,x.m]) ka rfl HBR.out.size (by simp)
    rw [← z7];exact zD this bb)
   have HIY:Hid (I64s y.z):=hide (by rw [hy]; intro z hz2; simp at hz2; omega);have HNY:Hid (y.n≤2):=hide (by rw [hy]; show 2≤2; omega);have HYZ:Hid (y.z=[x.t,x.m]):=hide (by rw [hy]);have hrow:=(HTL.out.below HBY.out).row;have hl12:l.length≤12:=by have:=HLJ.out; omega
   have HBK:Hid (∀k,(Value.slice ao l.length cap).ownBlock=some k→w1.heap.size≤k):=hide (fun k hk=>(HTL.out.row.lt k hk).1);have hbw2:w1.heap.size≤wb.heap.size:=Nat.le_trans HBW.out HBY.out.size;clear ka hy ba bb;go_wp2_with (at_builtin; refine zy (F:=tlF) _ rfl _ _ 209 25 rfl w1.heap.size Tryz.underlying209 zfD rfl (by decide) _ l.length l rfl hrow (some ⟨wa.heap.size,0,none⟩) 1 1 [y] rfl gone (by omega) hbw2 ?_)
   intro ao2 cap2 we how2 _ hgr2 hb2;have HLN2:Hid ((l++[y]).length=l.length+1):=hide (by simp);have HT2:=hide (HTL.out.push (y:=y) HBY.out HOY.out HIY.out HNY.out HBW.out hgr2 (by rw [HLN2.out]; exact how2));have HB2:=hide ((ze HB.out HBY.out).grown hgr2 (Nat.le_trans HB.out.size HBY.out.size) (fun k hk=>HBK.out k hk));clear hrow gone hbw2 how2 hgr2 hb2 hwa hwb;have HZ2:Hid (∀(i:Nat) (t:TL) u,(l++[y])[i]? = some t→B.f[i]? = some u→t.z=[u.t,u.m]):=hide (by
    intro i t u hi hu;by_cases hil:i < l.length
    ·rw [List.getElem?_append_left hil] at hi;exact HZ.out i t u hi hu
    ·have hil2:=(List.getElem?_eq_some_iff.1 hi).1;rw [HLN2.out] at hil2;have hij:i=l.length:=by omega
     subst hij
     have:t=y:=by simpa using hi.symm
     rw [this,HYZ.out];rw [← HLJ.out] at HX
     have:=HX.out.symm.trans hu
     cases this
     rfl)
   go_wp2
   go_roundw
   case rel=>exact ⟨j+1,ao2,cap2,l++[y],by rw [HLN2.out],by go_num,by omega,by rw [HLN2.out,HLJ.out],HZ2.out,HT2.out,HB2.out⟩
   case measure=>simp [intOf]; omega
  ·have hjn':¬(j:Int) < (fn:Int):=by omega
   have hje:l.length=fn:=by omega
   have hbs:=Nat.le_trans hbw hb.size;generalize hwc:wr.alloc (Obj.cells #[.func (.func 185) #[] #[.pointer (some ⟨w.heap.size,0,none⟩)]] 161)=wc;have bc:=zb hwc;have kc:=zk hwc;have hcl:=zT (F:=clF) (zab clF (base:=0) (l:=[⟨185,#[.pointer (some ⟨w.heap.size,0,none⟩)]⟩]) kc rfl (Nat.zero_le _) (by simp));have HBS:Hid (w.heap.size≤wc.heap.size):=hide (Nat.le_trans hbs bc.size);have HBC:=hide (ze (ze b1 hb) bc);have HKC:=hide (zd k2 bc);have tlr:=(tls.below bc).reads;have HZ:=hide hz;have hlen:=HLN.out;have HJE:=hide hje;clear k1 k2 kc b1 hb tls bc hz hlj hje;(go_wp2_with fail);refine (zam 4 _ l.length _ l _ 1 [⟨185,#[.pointer (some ⟨w.heap.size,0,none⟩)]⟩] (entG B) _ tlr.1 tlr.2 (by have:=HJE.out; omega) hcl (by omega) (by omega) ?_).mono ?_
   ·intro i j t ht;obtain ⟨x,hx⟩:∃x,B.f[j]? = some x:=⟨_,List.getElem?_eq_getElem (by have:=(List.getElem?_eq_some_iff.1 ht).1; have:=HJE.out; omega)⟩;rw [HZ.out j t x ht hx];unfold entG;rw [hx]
   rw [HJE.out];rintro e w3 ⟨ao,cap,l,rfl,hd,st⟩;have HB:=hide (ze HBC.out st.below);have KB:=hide (zd HKC.out st.below);have HT:Hid (Things w3 w.heap.size ao cap l):=hide (by
    refine za1 st (fun i cf hi => ?_) (fun i j => ?_) HBS.out
    ·have him:i < 1:=(List.getElem?_eq_some_iff.1 hi).1;rcases (show i=0 by omega) with rfl
     ·cases hi;refine ⟨enters_of Tryz.func185 (by kernel_rfl) rfl,fun j hj w2 hw2 => ?_⟩;obtain ⟨x,hx⟩:∃x,B.f[j]? = some x:=⟨_,List.getElem?_eq_getElem (by have:=HLN.out; omega)⟩;have hg:entG B 0 j=entB j x:=by unfold entG; rw [hx]; rfl
      rw [hg];exact zfT a n c fa fn fc ra rn rc oa on oc B j w.heap.size w2 (zd KB.out hw2) (HH.out.f.below (ze HB.out hw2)) x hx (ok.fi x (List.mem_of_getElem? hx)).2.2
    ·unfold entG
     split
     all_goals exact ⟨rfl,Nat.zero_le _⟩
    )
   have HD:=hide hd;clear hd st;go_wp2;go_ret;exact ⟨ao,cap,l,rfl,(by rw [HD.out,HLN.out]; exact zfU B),HT.out,HB.out⟩
   

theorem zge {l:List VR} {id:Int} (h:zaC l id=none):rowAt l id = -1:=by unfold rowAt; rw [h]
theorem zfy {l:List VR} {id:Int} {k:Nat} (h:zaC l id=some k):rowAt l id=k:=by unfold rowAt; rw [h]

theorem zaV (a:Option Addr) (n c:Nat) (o:Option Addr) (p q:Nat) (v:VT) (ports:Int) (w:World) (h:VTab w a n c o p q v) (hR:∀r∈v.rows,r.Rng) :
  Calls Tryz.prog 106 #[.agg #[.slice a n c,.slice o p q],.int .i64 ports] w fun r w'=>r=.returned (.bool (zS v ports))∧Below w.heap.size w w':=by
 have hle:=h.rows.le;have htop:=h.rows.top;have hle2:=h.own.le;have htop2:=h.own.top;unfold maxLen at htop htop2;have hsz:=hide h.rows.size;have hsz2:=hide h.own.size;generalize hw1:w.alloc (Obj.cells #[Value.slice a n c,Value.slice o p q] 38)=w1;have hW:=zb hw1;obtain ⟨e0,e1⟩:=zaw hw1 (Below.refl _ w1);have h:=h.below hW;generalize hV:zS v ports=V;have HV:=hide hV;clear hV;cases t1:(decide (1≤ports) && decide (ports≤6))
 ·have HN:=hide (zgD (v:=v) t1);have T1:=hide t1;clear t1;go_enter Tryz.func106,Tryz.ntmps106;go_wp2_with (refine (zah ports 1 6 _).mono ?_; rintro r w2 ⟨rfl,e2⟩; obtain rfl:=e2.symm; rw [T1.out])
  go_ret;exact ⟨zp (by rw [← HV.out,HN.out]),hW⟩
 have T1:=hide t1;simp only [Bool.and_eq_true,decide_eq_true_eq] at t1;by_cases t2:(p:Int)=ports
 case neg =>
  have HN:=hide (zgo (v:=v) (ports:=ports) (by rw [hsz2.out]; exact t2));go_enter Tryz.func106,Tryz.ntmps106;go_wp2_with (refine (zah ports 1 6 _).mono ?_; rintro r w2 ⟨rfl,e2⟩; obtain rfl:=e2.symm; rw [T1.out])
  go_ret;exact ⟨zp (by rw [← HV.out,HN.out]),hW⟩
 subst t2;by_cases t3:n≤6
 case neg =>
  have HN:=hide (zfJ (v:=v) (ports:=p) (by rw [hsz.out]; exact t3));go_enter Tryz.func106,Tryz.ntmps106;go_wp2_with (refine (zah (p:Int) 1 6 _).mono ?_; rintro r w2 ⟨rfl,e2⟩; obtain rfl:=e2.symm; rw [T1.out])
  go_ret;exact ⟨zp (by rw [← HV.out,HN.out]),hW⟩
 cases t4:vrises v.rows
 ·have HN:=hide (zfK (v:=v) (ports:=p) t4);have T4:=hide t4;clear t4;go_enter Tryz.func106,Tryz.ntmps106;go_wp2_with (refine (zah (p:Int) 1 6 _).mono ?_; rintro r w2 ⟨rfl,e2⟩; obtain rfl:=e2.symm; rw [T1.out])
  refine (zaU a n c o p q _).mono ?_;rintro r w2 ⟨rfl,hb2⟩;(go_wp2_with fail);refine (zbg a n c v.rows _ (h.rows.below hb2)).mono ?_;rintro r w3 ⟨rfl,hb3⟩;rw [T4.out];have HB:=hide (ze hW (ze hb2 hb3));clear hb2 hb3;go_wp2;go_ret;exact ⟨zp (by rw [← HV.out,HN.out]),HB.out⟩
 have T4:=hide t4;clear t4;go_enter Tryz.func106,Tryz.ntmps106;go_wp2_with (refine (zah (p:Int) 1 6 _).mono ?_; rintro r w2 ⟨rfl,e2⟩; obtain rfl:=e2.symm; rw [T1.out])
 refine (zaU a n c o p q _).mono ?_;rintro r w2 ⟨rfl,hb2⟩;go_wp2_with fail
 refine (zbg a n c v.rows _ (h.rows.below hb2)).mono ?_;rintro r w3 ⟨rfl,hb3⟩;rw [T4.out];have b13:=ze hb2 hb3;obtain ⟨x0,x1⟩:=zaw hw1 b13;clear hb2 hb3 e0 e1;go_wp2
 go_loopw [34] (fun i wr=>∃k:Nat,k≤n∧i=.int .i64 k∧zeG (allOf p) v.rows k∧Below w1.heap.size w1 wr) (fun i _=>n - (intOf i).toNat)
 case atStart=>exact ⟨0,Nat.zero_le _,rfl,fun i x hi=>by omega,b13⟩
 case round =>
  obtain ⟨k,hk,rfl,hok,hb⟩:=hrel;by_cases hlt:k < n
  ·obtain ⟨x,b,off,hx,rfl,c0,c1,c2⟩:=zak (h.rows.below hb) k hlt;have hxr:x.Rng:=hR x (List.mem_of_getElem? hx);cases t5:zap (allOf p) x
   ·have HN:=hide (zgp (v:=v) (p:=p) hx t5);have T5:=hide t5;have HB:=hide hb;clear t5 hok hb hx x0 x1;(go_wp2_with fail);refine (zbs x p _ hxr (by omega) (by omega)).mono ?_;rintro r w5 ⟨rfl,hb5⟩;rw [T5.out];have HB1:=hide (ze hW (ze HB.out (ze (zg _ _) hb5)));clear hb5 c0 c1 c2;go_wp2;go_ret;exact ⟨zp (by rw [← HV.out,HN.out]),HB1.out⟩
   ·have HO:=hide (zel hok hx t5);have T5:=hide t5;have HB:=hide hb;clear t5 hok hb hx x0 x1;(go_wp2_with fail);refine (zbs x p _ hxr (by omega) (by omega)).mono ?_;rintro r w5 ⟨rfl,hb5⟩;rw [T5.out];have HB1:=hide (ze HB.out (ze (zg _ _) hb5));clear hb5 c0 c1 c2;go_wp2
    go_roundw
    case rel=>exact ⟨k+1,by omega,by go_num,HO.out,HB1.out⟩
    case measure=>simp [intOf]; omega
  ·have HK:Hid (vokTo (allOf p) v.rows v.rows.length):=hide (zgn (fun i x hi hx=>hok i x (by have:=hsz.out; omega) hx) T4.out);obtain ⟨y0,y1⟩:=zaw hw1 hb;have HB:=hide hb;have hkn:k=n:=by omega
   clear hok hb x0 x1;subst hkn;go_wp2
   go_loopw [46] (fun i wr=>∃k:Nat,k≤p∧i=.int .i64 k∧ownTo v k∧Below w1.heap.size w1 wr) (fun i _=>p - (intOf i).toNat)
   case atStart=>exact ⟨0,Nat.zero_le _,rfl,fun i x hi=>by omega,HB.out⟩
   case round =>
    obtain ⟨j,hj,rfl,hto,hb⟩:=hrel;by_cases hlt:j < p
    ·obtain ⟨x,b,off,hx,rfl,c0⟩:=zd8 (h.own.below hb) j hlt;obtain ⟨z0,z1⟩:=zaw hw1 hb;clear y0 y1;cases hr:zaC v.rows x with
     | none =>
      have HN:=hide (zeK (p:=p) (List.mem_of_getElem? hx) hr);have HA:=hide (zge hr);have HB3:=hide hb;clear hto hb hx hr;(go_wp2_with fail);refine (zbH a k c v.rows (some ⟨b,off,none⟩) p q x _ (h.rows.below HB3.out)).mono ?_;rintro r w5 ⟨rfl,hb5⟩;rw [HA.out];have HB1:=hide (ze hW (ze HB3.out hb5));clear hb5 c0 z0 z1;go_wp2;go_ret;exact ⟨zp (by rw [← HV.out,HN.out]),HB1.out⟩
     | some i =>
      have HO:=hide (zcQ hto hx (by rw [hr]; exact fun h=>by cases h));have HA:=hide (zfy hr);have HB3:=hide hb;have hneg:¬((i:Int) < 0):=by omega
      clear hto hb hx hr;(go_wp2_with fail);refine (zbH a k c v.rows (some ⟨b,off,none⟩) p q x _ (h.rows.below HB3.out)).mono ?_;rintro r w5 ⟨rfl,hb5⟩;rw [HA.out];have HB1:=hide (ze HB3.out hb5);clear hb5 c0 z0 z1;go_wp2
      go_roundw
      case rel=>exact ⟨j+1,by omega,by go_num,HO.out,HB1.out⟩
      case measure=>simp [intOf]; omega
    ·have HN:Hid (zS v p=true):=hide (zeL t1.1 t1.2 hsz2.out (by have:=hsz.out; omega) HK.out (zdI hto (by have:=hsz2.out; omega)));have HB3:=hide (ze hW hb);have hjn:j=p:=by omega
     clear hto hb y0 y1;subst hjn;go_wp2;go_ret;exact ⟨zp (by rw [← HV.out,HN.out]),HB3.out⟩

theorem BOwns.between {w w':World} {base:Nat} {ao:Option Addr} {n cap:Nat} {l:List BI} (h:BOwns w base ao n cap l) {L E:Nat} (hb:Between L E w w') (hE:E≤base):BOwns w' base ao n cap l :=
 ⟨hb.own h.row hE,fun x hx=>⟨hb.own (h.item x hx).o hE,hb.own (h.item x hx).z hE,(h.item x hx).ob,(h.item x hx).zb,(h.item x hx).s⟩,h.apart⟩

theorem BOwn.between {w w':World} {base:Nat} {y:BI} (h:BOwn w base y) {L E:Nat} (hb:Between L E w w') (hE:E≤base):BOwn w' base y :=
 ⟨hb.own h.o hE,hb.own h.z hE,h.ob,h.zb,h.s⟩

theorem zdA (oa:Option Addr) (on oc:Nat) (o:List Int) (K N:Int) (S:ByteArray) (base:Nat) (k:Int) (w:World) (h:w.ownsRow base 3 1 (.slice oa on oc) on (cI o)) (hn:on≤16777216) (hk0:0≤k) (hk1:k≤1048576) :
  Calls Tryz.prog 22 #[.agg #[.slice oa on oc,.int .i64 K,.int .i64 N,.string S,.slice none 0 0],.int .i64 k] w fun e w'=>e=.returned (.int .i64 (k+on))∧w'.ownsRow base 3 1 (.slice oa on oc) on (cI (zae k on))∧w.grownBy w' (Value.slice oa on oc).ownBlock:=by
 generalize hw1:w.alloc (Obj.cells #[.slice oa on oc,.int .i64 K,.int .i64 N,.string S,.slice none 0 0] 51)=w1;have b1:=zb hw1;have k1:=zk hw1;have hne:(51:Nat)≠3:=by decide
 obtain ⟨⟨x0,x1,x2,x3,x4⟩,-⟩:=zm k1;have h1:=zY h b1;go_enter Tryz.func22,Tryz.ntmps22;go_wp2_with fail
 refine (zaO base oa on oc o k _ h1 hn hk0 (by omega)).mono ?_;rintro e w2 ⟨rfl,ho,hg⟩;have k2:=zA k1 hg (zaA h1 k1 hne);clear x0 x1 x2 x3 x4 hw1;obtain ⟨⟨x0,x1,x2,x3,x4⟩,-⟩:=zm k2;have HO:=hide ho;have HG:=hide (zcq b1 hg);have hk:k+(on:Int)≤1099511627776:=by omega
 have hk2:0≤k+(on:Int):=by omega
 clear ho hg h1 k1 b1;go_wp2_with fail
 refine (zbK K N S base none 0 0 [] (k+(on:Int)) _ (World.ownsRow_nil _ _ _ _) (by omega) hk2 hk).mono ?_;rintro e w3 ⟨rfl,-,hg3⟩;have h23:Below w2.heap.size w2 w3:=(Below.refl _ _).grown hg3 (Nat.le_refl _) (by intro b hb; cases hb);have HO3:=hide (zY HO.out h23);have HG3:Hid (w.grownBy w3 (Value.slice oa on oc).ownBlock):=hide (zv HG.out (zbW h23));have e0:k+(on:Int)+((0:Nat):Int)=k+(on:Int):=by omega
 rw [e0];clear hg3 h23 k2 x0 x1 x2 x3 x4;go_wp2;go_ret;exact ⟨rfl,HO3.out,HG3.out⟩

theorem zb0 (oa:Option Addr) (on oc:Nat) (K N:Int) (S:ByteArray) (k:Int) (w:World) (h:IRow w oa on oc (zae k on)) (hn:on≤16777216) (hk0:0≤k) (hk1:k≤1048576) :
  Calls Tryz.prog 23 #[.agg #[.slice oa on oc,.int .i64 K,.int .i64 N,.string S,.slice none 0 0],.int .i64 k] w fun e w'=>e=.returned (.int .i64 (k+on))∧Below w.heap.size w w':=by
 generalize hw1:w.alloc (Obj.cells #[.slice oa on oc,.int .i64 K,.int .i64 N,.string S,.slice none 0 0] 51)=w1;have b1:=zb hw1;have k1:=zk hw1;obtain ⟨⟨x0,x1,x2,x3,x4⟩,-⟩:=zm k1;have hk:k+(on:Int)≤1099511627776:=by omega
 have hk2:0≤k+(on:Int):=by omega
 have hk3:¬(k+(on:Int) < 0):=by omega
 go_enter Tryz.func23,Tryz.ntmps23;go_wp2_with fail
 refine (zdr oa on oc k _ (h.below b1) hn hk0 (by omega)).mono ?_;rintro e w2 ⟨rfl,ew⟩;obtain rfl:=ew.symm;go_wp2_with fail
 refine (zbA K N S none 0 0 (k+(on:Int)) _ (by simpa [zae] using zaF _) (by omega) hk2 hk).mono ?_;rintro e w3 ⟨rfl,hb3⟩;have HB:=hide (ze b1 hb3);have e0:k+(on:Int)+((0:Nat):Int)=k+(on:Int):=by omega
 rw [e0];clear hb3 x0 x1 x2 x3 x4 hw1 k1 b1;go_wp2;go_ret;exact ⟨rfl,HB.out⟩

theorem BrOwn.boxed11 {w:World} {base:Nat} {a:Option Addr} {n c:Nat} {fa:Option Addr} {fn fc:Nat} {ra:Option Addr} {rn rc:Nat} {oa:Option Addr} {on oc:Nat} {B:BR} (h:BrOwn w base a n c fa fn fc ra rn rc oa on oc B) {X:Nat} {cs:Array Value} (hX:w.heap[X]? = some (.cells cs 40)) (u0 u1 u2 u3 u4 u5 u6 u7 u8 u9 u10:Value):BrOwn (((((((((((w.setCell ⟨X,0,none⟩ u0).setCell ⟨X,1,none⟩ u1).setCell ⟨X,2,none⟩ u2).setCell ⟨X,3,none⟩ u3).setCell ⟨X,4,none⟩ u4).setCell ⟨X,5,none⟩ u5).setCell ⟨X,6,none⟩ u6).setCell ⟨X,7,none⟩ u7).setCell ⟨X,8,none⟩ u8).setCell ⟨X,9,none⟩ u9).setCell ⟨X,10,none⟩ u10) base a n c fa fn fc ra rn rc oa on oc B :=
 (BrOwn.boxed (BrOwn.boxed (BrOwn.boxed (BrOwn.boxed (BrOwn.boxed (BrOwn.boxed (BrOwn.boxed (BrOwn.boxed (BrOwn.boxed (BrOwn.boxed (BrOwn.boxed h hX 0 u0) (box11 hX 0 u0) 1 u1) (box11 (box11 hX 0 u0) 1 u1) 2 u2) (box11 (box11 (box11 hX 0 u0) 1 u1) 2 u2) 3 u3) (box11 (box11 (box11 (box11 hX 0 u0) 1 u1) 2 u2) 3 u3) 4 u4) (box11 (box11 (box11 (box11 (box11 hX 0 u0) 1 u1) 2 u2) 3 u3) 4 u4) 5 u5) (box11 (box11 (box11 (box11 (box11 (box11 hX 0 u0) 1 u1) 2 u2) 3 u3) 4 u4) 5 u5) 6 u6) (box11 (box11 (box11 (box11 (box11 (box11 (box11 hX 0 u0) 1 u1) 2 u2) 3 u3) 4 u4) 5 u5) 6 u6) 7 u7) (box11 (box11 (box11 (box11 (box11 (box11 (box11 (box11 hX 0 u0) 1 u1) 2 u2) 3 u3) 4 u4) 5 u5) 6 u6) 7 u7) 8 u8) (box11 (box11 (box11 (box11 (box11 (box11 (box11 (box11 (box11 hX 0 u0) 1 u1) 2 u2) 3 u3) 4 u4) 5 u5) 6 u6) 7 u7) 8 u8) 9 u9) (box11 (box11 (box11 (box11 (box11 (box11 (box11 (box11 (box11 (box11 hX 0 u0) 1 u1) 2 u2) 3 u3) 4 u4) 5 u5) 6 u6) 7 u7) 8 u8) 9 u9) 10 u10)

theorem zdX {K:Nat} {a w:World} (h:Below K a w) {g:Nat} (hB:K≤g) (u0 u1 u2 u3 u4 u5 u6 u7 u8 u9 u10:Value):Below K a (((((((((((w.setCell ⟨g,0,none⟩ u0).setCell ⟨g,1,none⟩ u1).setCell ⟨g,2,none⟩ u2).setCell ⟨g,3,none⟩ u3).setCell ⟨g,4,none⟩ u4).setCell ⟨g,5,none⟩ u5).setCell ⟨g,6,none⟩ u6).setCell ⟨g,7,none⟩ u7).setCell ⟨g,8,none⟩ u8).setCell ⟨g,9,none⟩ u9).setCell ⟨g,10,none⟩ u10) :=
 (zl (zl (zl (zl (zl (zl (zl (zl (zl (zl (zl h hB 0 u0) hB 1 u1) hB 2 u2) hB 3 u3) hB 4 u4) hB 5 u5) hB 6 u6) hB 7 u7) hB 8 u8) hB 9 u9) hB 10 u10)

structure BcSt (w wr:World) (R X:Nat) (cs:Array Value):Prop where
 box:wr.heap[X]? = some (.cells cs 40)
 res:wr.heap[R]? = some (.cells #[.int .i64 0,.string ⟨#[]⟩,.slice none 0 0,.slice none 0 0,.slice none 0 0,.slice none 0 0,.int .i64 0,.int .i64 0,.int .i64 0,.int .i64 0,.int .i64 0] 40)
 below:Below w.heap.size w wr
 hX:w.heap.size≤X
 hR:w.heap.size≤R
 ne:R≠X

theorem BcSt.later {w wr wx:World} {R X:Nat} {cs:Array Value} (h:BcSt w wr R X cs) (hb:Below wr.heap.size wr wx):BcSt w wx R X cs :=
 ⟨zd h.box hb,zd h.res hb,ze h.below hb,h.hX,h.hR,h.ne⟩

theorem BcSt.put {w wr:World} {R X:Nat} {cs:Array Value} (h:BcSt w wr R X cs) (j:Nat) (u:Value) {cs':Array Value} (he:cs.setIfInBounds j u=cs'):BcSt w (wr.setCell ⟨X,j,none⟩ u) R X cs' :=
 ⟨by rw [← he]; exact box11 h.box j u,zaz h.res h.ne,zl h.below h.hX j u,h.hX,h.hR,h.ne⟩

theorem BcSt.grown {w wr wx:World} {R X:Nat} {cs:Array Value} (h:BcSt w wr R X cs) {base k:Nat} {e:TypeId} {v:Value} {n:Nat} {xs:List Value} (ho:wr.ownsRow base e k v n xs) (hne:(e:Nat)≠40) (hg:wr.grownBy wx v.ownBlock) (hb:Below w.heap.size wr wx):BcSt w wx R X cs :=
 ⟨zA h.box hg (fun i e=>zbe ho h.box hne i e),zA h.res hg (fun i e=>zbe ho h.res hne i e),h.below.trans hb,h.hX,h.hR,h.ne⟩

theorem BcSt.stay {w wr:World} {R X:Nat} {cs:Array Value} (h:BcSt w wr R X cs) {base k:Nat} {e:TypeId} {v:Value} {n:Nat} {xs:List Value} (ho:wr.ownsRow base e k v n xs) (hne:(e:Nat)≠40) (j:Nat) (u:Value):(wr.setCell ⟨X,j,none⟩ u).ownsRow base e k v n xs :=
 zaJ ho (zi (rb:=X) j u) (zbe ho h.box hne)

theorem BcSt.out {w wr:World} {R X:Nat} {cs:Array Value} (h:BcSt w wr R X cs) {base:Nat} {a:Option Addr} {n c:Nat} {fa:Option Addr} {fn fc:Nat} {ra:Option Addr} {rn rc:Nat} {oa:Option Addr} {on oc:Nat} {B:BR} (ho:BrOwn wr base a n c fa fn fc ra rn rc oa on oc B) (u0 u1 u2 u3 u4 u5 u6 u7 u8 u9 u10:Value):BrOwn (((((((((((wr.setCell ⟨R,0,none⟩ u0).setCell ⟨R,1,none⟩ u1).setCell ⟨R,2,none⟩ u2).setCell ⟨R,3,none⟩ u3).setCell ⟨R,4,none⟩ u4).setCell ⟨R,5,none⟩ u5).setCell ⟨R,6,none⟩ u6).setCell ⟨R,7,none⟩ u7).setCell ⟨R,8,none⟩ u8).setCell ⟨R,9,none⟩ u9).setCell ⟨R,10,none⟩ u10) base a n c fa fn fc ra rn rc oa on oc B∧Below w.heap.size w (((((((((((wr.setCell ⟨R,0,none⟩ u0).setCell ⟨R,1,none⟩ u1).setCell ⟨R,2,none⟩ u2).setCell ⟨R,3,none⟩ u3).setCell ⟨R,4,none⟩ u4).setCell ⟨R,5,none⟩ u5).setCell ⟨R,6,none⟩ u6).setCell ⟨R,7,none⟩ u7).setCell ⟨R,8,none⟩ u8).setCell ⟨R,9,none⟩ u9).setCell ⟨R,10,none⟩ u10) :=
 ⟨ho.boxed11 h.res u0 u1 u2 u3 u4 u5 u6 u7 u8 u9 u10,zdX h.below h.hR u0 u1 u2 u3 u4 u5 u6 u7 u8 u9 u10⟩

theorem zca (a:Option Addr) (n c:Nat) (fa:Option Addr) (fn fc:Nat) (ra:Option Addr) (rn rc:Nat) (oa:Option Addr) (on oc:Nat) (B:BR) (ia:Option Addr) (il ic:Nat) (o:List Int) (w:World) (h:BrRow w a n c fa fn fc ra rn rc oa on oc B) (hi:IRow w ia il ic o) (hil:il≤16777216) :
  Calls Tryz.prog 19 #[.agg #[.int .i64 B.id,.string B.name,.slice a n c,.slice fa fn fc,.slice ra rn rc,.slice oa on oc,.int .i64 B.ticks,.int .i64 B.parse,.int .i64 B.word,.int .i64 B.drops,.int .i64 B.vers],.slice ia il ic] w fun e w'=>∃y:BI,e=.returned (.agg #[.slice y.oa y.on y.oc,.int .i64 y.K,.int .i64 y.N,.string y.S,.slice y.za y.zn y.zc])∧y.d=za7 (zw B) o∧BOwn w' w.heap.size y∧Below w.heap.size w w':=by
 generalize hw1:w.alloc (Obj.cells #[.int .i64 B.id,.string B.name,.slice a n c,.slice fa fn fc,.slice ra rn rc,.slice oa on oc,.int .i64 B.ticks,.int .i64 B.parse,.int .i64 B.word,.int .i64 B.drops,.int .i64 B.vers] 40)=w1;have b1:=zb hw1;have k1:=zk hw1;generalize hwr:w1.alloc (Obj.cells #[.slice none 0 0,.int .i64 0,.int .i64 0,.string ⟨#[]⟩,.slice none 0 0] 51)=w1r;have b1r:=zb hwr;have kr0:=zk hwr;have b0r:=ze b1 b1r;have HW1:=hide b1.size;obtain ⟨x0,x1,x2,x3,x4,x5,x6,x7,x8,x9,x10⟩:=zh (zd k1 b1r);go_enter Tryz.func19,Tryz.ntmps19;go_wp2_with fail
 refine (zbd a n c fa fn fc ra rn rc oa on oc B _ (h.below b0r)).mono ?_;rintro e w2 ⟨la,lc,l,rfl,hd,ol,h2⟩;have b2:=ze b0r h2;have kr:=zd kr0 h2;have HBW:=hide b0r.size;clear x0 x1 x2 x3 x4 x5 x6 x7 x8 x9 x10 h k1 hw1 hwr h2 kr0 b1 b1r b0r;have HL:Hid (l.length≤100∧(zw B).length=l.length):=hide (by have h1:=congrArg List.length hd; rw [List.length_map] at h1; rw [h1]; exact ⟨zdb B,rfl⟩);have HAT:Hid (∀(i:Nat) x,l[i]? = some x→(zw B)[i]? = some x.d):=hide (fun i x hx=>by rw [← hd,List.getElem?_map,hx]; rfl);have HLIT:Hid (∀x∈l,LitB x.d):=hide (fun x hx=>zdj hd hx);have hi2:=hi.below b2;clear hd;go_wp2_with fail
 go_loopw [6] (fun vk wr=>∃(k:Nat),vk=.int .i64 (k:Int)∧k≤l.length∧(∀(i:Nat) y,i < k→(zw B)[i]? = some y→lessL o y.o=false)∧Below w2.heap.size w2 wr) (fun vk _=>102 - (intOf vk).toNat)
 case atStart=>exact ⟨0,rfl,Nat.zero_le _,(by intro i y hi; omega),Below.refl _ _⟩
 case round =>
  obtain ⟨k,rfl,hk,hno,hb⟩:=hrel;have hl100:=HL.out.1;have HNO:=hide hno;by_cases hkl:k < l.length
  ·have hkl':(k:Int) < (l.length:Int):=by omega
   have hk100:(k:Int)≤100:=by omega
   have hlc:=ol.brow.le;obtain ⟨x,xb,off,hx,hla,hat,hin⟩:=(ol.brow.below hb).at k hkl;subst hla;have HX:=hide (HAT.out k x hx);have HM:=hide (List.mem_of_getElem? hx);have HBS:=hide hb;have HATK:=hide hat;obtain ⟨a0,a1,a2,a3,a4⟩:=hat;have hnm:=hin.o;clear hx hno hb hin;(go_wp2_with fail);refine (zdO ia il ic o _ _ _ x.o _ (hi2.below HBS.out) hnm).mono ?_;rintro e w5 ⟨rfl,nd,rfl⟩;have h5:Below wr.heap.size wr (wr.drewN nd):=zU (Below.refl _ _) nd;have HB5:=hide (ze HBS.out h5);have hat5:=HATK.out.below h5;generalize wr.drewN nd=w5 at *;clear a0 a1 a2 a3 a4 h5 hnm HATK;cases hq:lessL o x.o
   ·have HNO2:=hide (zbF (p:=fun d:BD=>lessL o d.o) HNO.out HX.out hq);clear hq hat5;go_wp2
    go_roundw
    case rel=>exact ⟨k+1,by go_num,by omega,HNO2.out,HB5.out⟩
    case measure=>simp [intOf]; omega
   ·have HG:=hide (zdD HNO.out HX.out hq);clear hq;have HOX:=hide ((ol.below HB5.out).item x HM.out);obtain ⟨a0,a1,a2,a3,a4⟩:=hat5;have kr5:=zd kr HB5.out;have HKR:=hide kr5;obtain ⟨⟨q0,q1,q2,q3,q4⟩,f0,f1,f2,f3,f4⟩:=zm kr5;have HB6:=hide (ze b2 HB5.out);clear kr kr5;go_wp2;refine bodyPost_ret (v:=.agg #[.slice x.oa x.on x.oc,.int .i64 x.K,.int .i64 x.N,.string x.S,.slice x.za x.zn x.zc]) (by simp [results,Tryz.results19,go_sem, *]) rfl ?_;have gs:=za2 w5 w1.heap.size (.slice x.oa x.on x.oc) (.int .i64 x.K) (.int .i64 x.N) (.string x.S) (.slice x.za x.zn x.zc);exact ⟨x,rfl,HG.out.symm,zcd (HOX.out.lt HBW.out) HKR.out gs,HB6.out.grown gs HB6.out.size (fun b hb2=>by cases hb2; exact HW1.out)⟩
  ·have hkl':¬(k:Int) < (l.length:Int):=by omega
   have hke:k=l.length:=by omega
   have HG:=hide (zdE (fun i y hi hy=>HNO.out i y (by have:=HL.out.2; omega) hy));have HIB:=hide hi.byte;generalize hwe:wr.alloc (Obj.cells #[] 3)=we;have be:=zb hwe;have ke:=zk hwe;have own:=zcY intF wr we 3 wr.heap.size ke (Nat.le_refl _);have hi3:=((hi2.below hb).below be).flat;have hbe:=be.size;have HBB:=hide hb;have HBE:=hide be;have HSZ:=hide b2.size;clear hke hno be ke hb;go_wp2_with (at_builtin; refine zy (F:=intF) _ rfl _ _ 25 3 rfl wr.heap.size Tryz.underlying25 Tryz.infoI64 rfl (by decide) _ 0 [] rfl own ia il ic o rfl hi3 (by omega) hbe ?_)
   intro na nc w6 how _ _ h6;have how:w6.ownsRow wr.heap.size 3 1 (.slice na il nc) il (intF.all o):=by
    (try simp only [Nat.zero_add,List.nil_append] at how);exact how
   have HO:=hide how;have hb6:=ze HBB.out (HBE.out.trans h6);have kr6:=zd kr hb6;obtain ⟨⟨q0,q1,q2,q3,q4⟩,f0,f1,f2,f3,f4⟩:=zm kr6;have HKR:=hide kr6;have HB6:=hide (ze b2 hb6);clear h6 hb6 kr kr6 how own hi3 hbe hwe;go_wp2;refine bodyPost_ret (v:=.agg #[.slice na il nc,.int .i64 130,.int .i64 0,.string ⟨#[]⟩,.slice none 0 0]) (by simp [results,Tryz.results19,go_sem, *]) rfl ?_;have gs:=za2 w6 w1.heap.size (.slice na il nc) (.int .i64 130) (.int .i64 0) (.string ⟨#[]⟩) (.slice none 0 0);have ho2:BOwn w6 w.heap.size ⟨na,il,nc,o,130,0,⟨#[]⟩,none,0,0,[]⟩:=⟨zbN (by rw [← z7]; exact HO.out) (Nat.le_trans HSZ.out HBB.out.size),World.ownsRow_nil _ _ _ _,HIB.out,(by intro z hz; cases hz),by show 0≤maxLen; omega⟩;exact ⟨⟨na,il,nc,o,130,0,⟨#[]⟩,none,0,0,[]⟩,rfl,HG.out.symm,zcd ho2 HKR.out gs,HB6.out.grown gs HB6.out.size (fun b hb2=>by cases hb2; exact HW1.out)⟩

end Go.Proofs.YtcpdkcdfnpcemabGreat
