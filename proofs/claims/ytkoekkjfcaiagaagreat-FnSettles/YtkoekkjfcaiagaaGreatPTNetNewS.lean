/-
  NetNew of the specification: bridges made one by one, then held to be right, then all their ports set up.
-/
import Derived.Test.YtkoekkjfcaiagaaGreatPTKW
import Derived.Test.YtkoekkjfcaiagaaGreatPTBrStepS
import Derived.Test.YtkoekkjfcaiagaaGreatPTK01
import Derived.Test.YtkoekkjfcaiagaaGreatPTK05
import Derived.Test.YtkoekkjfcaiagaaGreatPTK17
import Derived.Test.YtkoekkjfcaiagaaGreatPTK35
namespace Go.Proofs.YtkoekkjfcaiagaaGreat
set_option maxRecDepth 100000
set_option maxHeartbeats 16000000
open Go.RowKit

abbrev q401:Oper:=⟨some 22,.load 28 (.tmp 21),28,"l13_net.go:64",#[⟨0,.data⟩],none⟩
abbrev q402:Oper:=⟨some 28,.call ⟨.value (.func 51),#[.tmp 26,.tmp 27],#[3,3]⟩,63,"l13_net.go:64",#[⟨5,.data⟩,⟨6,.data⟩],none⟩
abbrev q403:Oper:=⟨some 29,.buildSlice 28 1 #[(0,.tmp 28)],28,"l13_net.go:64",#[⟨7,.data⟩],none⟩
abbrev q404:Oper:=⟨some 30,.call ⟨.builtin .append,#[.tmp 22,.tmp 29],#[28,28]⟩,28,"l13_net.go:64",#[⟨1,.data⟩,⟨8,.data⟩,⟨7,.chain⟩],none⟩
abbrev q405:Oper:=⟨some 31,.fieldAddr 31 (.tmp 7) 0,0,"l13_net.go:64",#[⟨0,.phase⟩,⟨1,.phase⟩,⟨2,.phase⟩,⟨3,.phase⟩,⟨4,.phase⟩,⟨5,.phase⟩,⟨6,.phase⟩,⟨7,.phase⟩,⟨8,.phase⟩,⟨9,.phase⟩],none⟩
abbrev q406:Oper:=⟨none,.store 28 (.tmp 31) (.tmp 30),0,"l13_net.go:64",#[⟨10,.data⟩,⟨9,.data⟩,⟨9,.chain⟩,⟨0,.phase⟩,⟨1,.phase⟩,⟨2,.phase⟩,⟨3,.phase⟩,⟨4,.phase⟩,⟨5,.phase⟩,⟨6,.phase⟩,⟨7,.phase⟩,⟨8,.phase⟩,⟨9,.phase⟩],none⟩

theorem zd0 {ids:List Int} {ports:Int} {k:Nat} {id:Int} (h:ids[k]?=some id):newBs (ids.take (k+1)) ports=newBs (ids.take k) ports++[zn id ports]:=by
 unfold newBs;rw [List.take_add_one,h,List.map_append]
 rfl

theorem zjE {ids:List Int} {ports:Int} {k:Nat} {id:Int} (h:ids[k]?=some id):upBs (ids.take (k+1)) ports=upBs (ids.take k) ports++[raised (zn id ports)]:=by
 unfold upBs;rw [List.take_add_one,h,List.map_append]
 rfl

theorem zeZ (ia:Option Addr) (im ic:Nat) (ids:List Int) (ports:Int) (la0:Option Addr) (ln lc0:Nat) (l:List LK) (w:World) (hI:IRow w ia im ic ids) (hL:GRow linkF w la0 ln lc0 l) (hs:ln≤1048576) (hm:im≤1048576) :
  Calls Tryz.prog 16 #[.slice ia im ic,.int .i64 ports,.slice la0 ln lc0] w fun e w'=>ziK ids ports l w e w':=by
 have hIs:=hI.size;generalize hw1:w.alloc (Obj.cells #[.slice none 0 0,.slice none 0 0,.slice none 0 0] 31)=w1;generalize hw2:w1.alloc (Obj.cells #[] 44)=w2;have b01:=zb hw1;have b12:=zb hw2;have z1:w1.heap.size=w.heap.size+1:=by rw [← hw1]; simp
 have k2:=zk hw2;have b02:=zc b01 b12;have kJ:=za (zk hw1) b12;have on:w2.ownsRow (w.heap.size+1) 44 linkF.k (.slice (some ⟨w1.heap.size,0,none⟩) 0 0) 0 (linkF.all []):=by
  have:=zaG linkF w1 w2 44 w1.heap.size k2 (Nat.le_refl _)
  rw [z1] at this ⊢;exact this
 have hz2:w.heap.size+1≤w2.heap.size:=by rw [← z1]; exact b12.size
 clear z1;go_enter Tryz.func16,Tryz.ntmps16;go_wp2_with (at_builtin; refine zL (F:=linkF) _ rfl _ _ 25 44 rfl (w.heap.size+1) Tryz.underlying25 zaV rfl (by decide) _ 0 [] rfl on la0 ln lc0 l rfl (hL.below b02) (by omega) hz2 ?_)
 intro la lc w3 oL _ hg3 hb3
 try simp only [Nat.zero_add,List.nil_append] at oL
 try simp only [Nat.zero_add,List.nil_append]
 have kR3:=ze kJ hg3 (fun k hk=>by have:=(on.lt k hk).1; omega);have b03:Below w.heap.size w w3:=b02.trans (hb3.mono (by omega));clear hw1 hw2 b01 b12 k2 kJ on hz2 b02 hg3 hb3;go_wp2_with fail
 generalize hw4:w3.alloc (Obj.cells #[.slice none 0 0,.slice la ln lc,.slice none 0 0] 31)=w4;have b34:=zb hw4;have kX4:=zk hw4;have st0:NnSt w w4 w3.heap.size la ln lc l none 0 0 []:=⟨kX4,za kR3 b34,zaR _ _,zh oL b34,zc b03 b34,zaU kR3⟩;generalize hX:w3.heap.size=X at *;clear hw4 b34 kX4 kR3 b03 oL
 go_loopw [8] (fun i wr=>∃(k:Nat) (ba:Option Addr) (bc:Nat) (bs:List BV),k≤im∧i=.int .i64 k∧NnSt w wr X la ln lc l ba k bc bs∧bs.map BV.B=newBs (ids.take k) ports) (fun i _=>im - (intOf i).toNat)
 case atStart=>exact ⟨0,none,0,[],Nat.zero_le _,rfl,st0,by simp [newBs]⟩
 case round =>
  obtain ⟨k,ba,bc,bs,hk,rfl,st,hM⟩:=hrel;clear st0;by_cases hlt:k < im
  ·obtain ⟨id,ib,io,hid,rfl,ci⟩:=zhg hI k hlt;have i1:(0:Int)≤(k:Int):=by omega
   have i2:(k:Int) < (im:Int):=by omega
   have HI:=hide hid;have HM:=hide hM;have vv:Below wr.heap.size wr wr.drew:=zw (Below.refl _ _);have uu:Below w.heap.size w wr.drew:=zc st.below vv;have x0:=(zd (za st.box vv)).1;clear hid hM;(go_wp2_with fail);refine wp_region_held_drew (S:=(fun W=>W.cell? ⟨ib,io+k,none⟩=some (.int .i64 id))) (by kernel_rfl) ((uu.cell (zo ci)).trans ci) (fun hHeld => ?_);refine kK 0 ⟨some 21,.fieldAddr 31 (.tmp 7) 0,0,"l13_net.go:64",#[],none⟩ ?_;refine kK 2 ⟨some 23,.move (.tmp 0),24,"l13_net.go:64",#[],none⟩ ?_;refine kK 3 ⟨some 24,.move (.tmp 8),3,"l13_net.go:64",#[],none⟩ ?_;refine kK 4 ⟨some 25,.indexAddr 24 (.tmp 23) (.tmp 24),0,"l13_net.go:64",#[⟨2,.data⟩,⟨3,.data⟩],none⟩ ?_;refine kK 5 ⟨some 26,.load 3 (.tmp 25),3,"l13_net.go:64",#[⟨4,.data⟩],none⟩ ?_;refine kK 6 ⟨some 27,.move (.tmp 1),3,"l13_net.go:64",#[],none⟩ ?_;refine tR [1,7] ?_;refine AllReadyH.cons (o:=q401) rfl (fun K hK => ?_) ?_
   ·go_simp;refine hK.out _ _ ((uu.cell (zo ci)).trans ci) (fun hHeld => ?_);clear hK K;(try simp only [Act.put,lA,lB,lC]);refine kR 7 q402 (fun K hK => ?_);go_simp;refine (ze0 id ports _).mono ?_;rintro e wz ⟨a2,n2,c2,fa2,fn2,fc2,ra2,rn2,rc2,oa2,on2,oc2,rfl,ow2,hbz⟩;have ow2:=BrOwn.lt ow2 (base':=wr.heap.size) vv.size;have vv:=zc vv hbz;have uu:=zc st.below vv;have x0:=(zd (za st.box vv)).1;(go_wp2_with fail);refine hK.out _ _ ((uu.cell (zo ci)).trans ci) (fun hHeld => ?_);clear hK K;(try simp only [Act.put,lA,lB,lC]);refine kR 8 q403 (fun K hK => ?_);go_simp
    first
    | refine zy (K:=K _) (fun wx kY hbx => ?_)
    | refine zp (K:=K _) (fun wx kY hbx => ?_)
    have gz:=vv.size;have ow2:=BrOwn.below ow2 hbx;have vv:=zc vv hbx;have uu:=zc st.below vv;have x0:=(zd (za st.box vv)).1;clear hbx;refine hK.out _ _ ((uu.cell (zo ci)).trans ci) (fun hHeld => ?_);clear hK K;(try simp only [Act.put,lA,lB,lC]);refine kR 9 q404 (fun K hK => ?_);have gn1:GRow brF wx (some ⟨_,0,none⟩) 1 1 [(⟨a2,n2,c2,fa2,fn2,fc2,ra2,rn2,rc2,oa2,on2,oc2,(zn id ports)⟩:BV)]:=zF (F:=brF) (zaS brF (base:=0) (l:=[(⟨a2,n2,c2,fa2,fn2,fc2,ra2,rn2,rc2,oa2,on2,oc2,(zn id ports)⟩:BV)]) kY rfl (Nat.zero_le _) (by simp));have hoN:=st.b.below vv;refine zi (F:=brF) rfl _ _ 28 63 rfl (w.heap.size+1) Tryz.underlying28 zc1 rfl (by decide) _ k bs rfl hoN.row _ 1 1 _ rfl gn1 (by omega) (Nat.le_trans st.size vv.size) ?_;intro aL cL wL how _ hgr hbL;obtain ⟨kX,uu,stN⟩:=st.push (y:=(⟨a2,n2,c2,fa2,fn2,fc2,ra2,rn2,rc2,oa2,on2,oc2,(zn id ports)⟩:BV)) vv ow2 hgr how;have x0:=(zd kX).1;have fz:=zf kX 0;refine hK.out _ _ ((uu.cell (zo ci)).trans ci) (fun hHeld => ?_);clear hK K;(try simp only [Act.put,lA,lB,lC]);refine kK 10 q405 ?_;refine kR 11 q406 (fun K hK => ?_);go_simp;have uu:=stN.below;refine hK.out _ _ ((uu.cell (zo ci)).trans ci) (fun hHeld => ?_);clear hK K;(try simp only [Act.put,lA,lB,lC]);refine wpAnyH_done (by kernel_rfl) ?_ _;have HST:=hide stN;clear hHeld how hgr hbL hoN kX uu x0 fz kY gn1 ow2 vv;go_wp2
    go_roundw
    case rel=>exact ⟨k+1,aL,cL,_,by omega,by go_num,HST.out,by rw [List.map_append,HM.out,zd0 HI.out]; rfl⟩
    case measure=>simp [intOf]; omega
   refine AllReadyH.cons (o:=q402) rfl (fun K hK => ?_) ?_
   ·go_simp;refine (ze0 id ports _).mono ?_;rintro e wz ⟨a2,n2,c2,fa2,fn2,fc2,ra2,rn2,rc2,oa2,on2,oc2,rfl,ow2,hbz⟩;have ow2:=BrOwn.lt ow2 (base':=wr.heap.size) vv.size;have vv:=zc vv hbz;have uu:=zc st.below vv;have x0:=(zd (za st.box vv)).1;(go_wp2_with fail);refine hK.out _ _ ((uu.cell (zo ci)).trans ci) (fun hHeld => ?_);clear hK K;(try simp only [Act.put,lA,lB,lC]);refine tR [1,8] ?_;refine AllReadyH.cons (o:=q401) rfl (fun K hK => ?_) ?_
    ·go_simp;refine hK.out _ _ ((uu.cell (zo ci)).trans ci) (fun hHeld => ?_);clear hK K;(try simp only [Act.put,lA,lB,lC]);refine kR 8 q403 (fun K hK => ?_);go_simp
     first
     | refine zy (K:=K _) (fun wx kY hbx => ?_)
     | refine zp (K:=K _) (fun wx kY hbx => ?_)
     have gz:=vv.size;have ow2:=BrOwn.below ow2 hbx;have vv:=zc vv hbx;have uu:=zc st.below vv;have x0:=(zd (za st.box vv)).1;clear hbx;refine hK.out _ _ ((uu.cell (zo ci)).trans ci) (fun hHeld => ?_);clear hK K;(try simp only [Act.put,lA,lB,lC]);refine kR 9 q404 (fun K hK => ?_);have gn1:GRow brF wx (some ⟨_,0,none⟩) 1 1 [(⟨a2,n2,c2,fa2,fn2,fc2,ra2,rn2,rc2,oa2,on2,oc2,(zn id ports)⟩:BV)]:=zF (F:=brF) (zaS brF (base:=0) (l:=[(⟨a2,n2,c2,fa2,fn2,fc2,ra2,rn2,rc2,oa2,on2,oc2,(zn id ports)⟩:BV)]) kY rfl (Nat.zero_le _) (by simp));have hoN:=st.b.below vv;refine zi (F:=brF) rfl _ _ 28 63 rfl (w.heap.size+1) Tryz.underlying28 zc1 rfl (by decide) _ k bs rfl hoN.row _ 1 1 _ rfl gn1 (by omega) (Nat.le_trans st.size vv.size) ?_;intro aL cL wL how _ hgr hbL;obtain ⟨kX,uu,stN⟩:=st.push (y:=(⟨a2,n2,c2,fa2,fn2,fc2,ra2,rn2,rc2,oa2,on2,oc2,(zn id ports)⟩:BV)) vv ow2 hgr how;have x0:=(zd kX).1;have fz:=zf kX 0;refine hK.out _ _ ((uu.cell (zo ci)).trans ci) (fun hHeld => ?_);clear hK K;(try simp only [Act.put,lA,lB,lC]);refine kK 10 q405 ?_;refine kR 11 q406 (fun K hK => ?_);go_simp;have uu:=stN.below;refine hK.out _ _ ((uu.cell (zo ci)).trans ci) (fun hHeld => ?_);clear hK K;(try simp only [Act.put,lA,lB,lC]);refine wpAnyH_done (by kernel_rfl) ?_ _;have HST:=hide stN;clear hHeld how hgr hbL hoN kX uu x0 fz kY gn1 ow2 vv;go_wp2
     go_roundw
     case rel=>exact ⟨k+1,aL,cL,_,by omega,by go_num,HST.out,by rw [List.map_append,HM.out,zd0 HI.out]; rfl⟩
     case measure=>simp [intOf]; omega
    refine AllReadyH.cons (o:=q403) rfl (fun K hK => ?_) ?_
    ·go_simp
     first
     | refine zy (K:=K _) (fun wx kY hbx => ?_)
     | refine zp (K:=K _) (fun wx kY hbx => ?_)
     have gz:=vv.size;have ow2:=BrOwn.below ow2 hbx;have vv:=zc vv hbx;have uu:=zc st.below vv;have x0:=(zd (za st.box vv)).1;clear hbx;refine hK.out _ _ ((uu.cell (zo ci)).trans ci) (fun hHeld => ?_);clear hK K;(try simp only [Act.put,lA,lB,lC]);refine kR 1 q401 (fun K hK => ?_);go_simp;refine hK.out _ _ ((uu.cell (zo ci)).trans ci) (fun hHeld => ?_);clear hK K;(try simp only [Act.put,lA,lB,lC]);refine kR 9 q404 (fun K hK => ?_);have gn1:GRow brF wx (some ⟨_,0,none⟩) 1 1 [(⟨a2,n2,c2,fa2,fn2,fc2,ra2,rn2,rc2,oa2,on2,oc2,(zn id ports)⟩:BV)]:=zF (F:=brF) (zaS brF (base:=0) (l:=[(⟨a2,n2,c2,fa2,fn2,fc2,ra2,rn2,rc2,oa2,on2,oc2,(zn id ports)⟩:BV)]) kY rfl (Nat.zero_le _) (by simp));have hoN:=st.b.below vv;refine zi (F:=brF) rfl _ _ 28 63 rfl (w.heap.size+1) Tryz.underlying28 zc1 rfl (by decide) _ k bs rfl hoN.row _ 1 1 _ rfl gn1 (by omega) (Nat.le_trans st.size vv.size) ?_;intro aL cL wL how _ hgr hbL;obtain ⟨kX,uu,stN⟩:=st.push (y:=(⟨a2,n2,c2,fa2,fn2,fc2,ra2,rn2,rc2,oa2,on2,oc2,(zn id ports)⟩:BV)) vv ow2 hgr how;have x0:=(zd kX).1;have fz:=zf kX 0;refine hK.out _ _ ((uu.cell (zo ci)).trans ci) (fun hHeld => ?_);clear hK K;(try simp only [Act.put,lA,lB,lC]);refine kK 10 q405 ?_;refine kR 11 q406 (fun K hK => ?_);go_simp;have uu:=stN.below;refine hK.out _ _ ((uu.cell (zo ci)).trans ci) (fun hHeld => ?_);clear hK K;(try simp only [Act.put,lA,lB,lC]);refine wpAnyH_done (by kernel_rfl) ?_ _;have HST:=hide stN;clear hHeld how hgr hbL hoN kX uu x0 fz kY gn1 ow2 vv;go_wp2
     go_roundw
     case rel=>exact ⟨k+1,aL,cL,_,by omega,by go_num,HST.out,by rw [List.map_append,HM.out,zd0 HI.out]; rfl⟩
     case measure=>simp [intOf]; omega
    exact AllReadyH.nil
   exact AllReadyH.nil
  ·have hkn:k=im:=by omega
   rw [List.take_of_length_le (by omega)] at hM;subst hkn;obtain ⟨x0,x1,x2⟩:=zd st.box;have hN:zag wr ⟨ba,k,bc,bs,la,ln,lc,l,none,0,0,[]⟩:=⟨st.b.grow,fun x hx=>(st.b.item x hx).row,zF (F:=linkF) st.l,zdy _ _⟩;(go_wp2_with fail);refine (zdQ ⟨ba,k,bc,bs,la,ln,lc,l,none,0,0,[]⟩ _ hN (show ln≤16777216 by omega)).mono ?_;rintro e w6 ⟨q,rfl,hq,hb6⟩;have hq2:q=true↔NetOk (newBs ids ports) l []:=by rw [← hM]; exact hq
   clear hq;have st:=st.later hb6;clear x0 x1 x2 hN hb6;cases q
   ·have hno:¬NetOk (newBs ids ports) l []:=fun h=>by have:=hq2.2 h; cases this
    have HNO:=hide hno;clear hq2 hno;obtain ⟨r0,r1,r2⟩:=zd st.res;have f0:=zf st.res 0;have f1:=zf st.res 1;have f2:=zf st.res 2;have HB:=hide (zq (zq (zq st.below (Nat.le_refl _) 0 (.slice none 0 0)) (Nat.le_refl _) 1 (.slice none 0 0)) (Nat.le_refl _) 2 (.slice none 0 0));go_wp2
    all_goals first | (exfalso; rename_i hf; first | (rw [f0] at hf; cases hf) | (rw [f1] at hf; cases hf) | (rw [f2] at hf; cases hf)) | skip
    exact bodyPost_ret (v:=.agg #[.slice none 0 0,.slice none 0 0,.slice none 0 0]) (by simp [results,Tryz.results16,go_sem, *]) rfl (zkf HNO.out HB.out)
   ·have hyes:=hq2.1 rfl;clear hq2;have HYES:=hide hyes;have hlen:bs.length=k:=st.b.grow.size;have hbz:∀(i:Nat) (x:BV),bs[i]?=some x→∃id,ids[i]?=some id∧x.B=zn id ports:=fun i x hx=>by
     have:(newBs ids ports)[i]?=some x.B:=by rw [← hM,List.getElem?_map,hx]; rfl
     exact zcX this
    have hkpos:0 < k:=by
     have:=hyes.1.2.2.1
     rw [← hM] at this
     simp at this
     omega
    obtain ⟨m,hpm⟩:∃m:Nat,ports=(m:Int):=by
     obtain ⟨x,hx⟩:∃x,bs[0]?=some x:=⟨_,List.getElem?_eq_getElem (by omega)⟩;obtain ⟨id,hid,hB⟩:=hbz 0 x hx;exact ⟨_,(zaJ id ports).2.2.2.2.2 (hyes.1.1 _ (List.mem_of_getElem? (zcm hid)))⟩
    subst hpm;have hpl:∀id,ids.contains id=true→(zn id (m:Int)).ports.length=m:=fun id hid=>by
     have hmem:id∈ids:=by simpa using hid
     obtain ⟨i,hi⟩:=List.getElem?_of_mem hmem
     have:=(zaJ id (m:Int)).2.2.2.2.2 (hyes.1.1 _ (List.mem_of_getElem? (zcm hi)))
     omega
    have hm6:m≤6:=by
     obtain ⟨x,hx⟩:∃x,bs[0]?=some x:=⟨_,List.getElem?_eq_getElem (by omega)⟩;obtain ⟨id,hid,hB⟩:=hbz 0 x hx;have h1:=hpl id (by simpa using List.mem_of_getElem? hid);have h2:=(zcC id (m:Int)).2.1;omega
    obtain ⟨g,off,hba,hoff⟩:∃g off,ba=some ⟨g,off,none⟩∧off=0:=by
     rcases st.b.row.2 with ⟨e,h0⟩ | ⟨g,cap',cur,e,_⟩
     ·omega
     ·cases e; exact ⟨g,0,rfl,rfl⟩
    subst hoff hba;have HPL:=hide hpl;have HM:=hide hM;have HLEN:=hide hlen;have HIS:=hide hIs;have HKP:=hide hkpos;clear hM hlen hIs hkpos hlt hk;have HBZ:=hide hbz;obtain ⟨x0,x1,x2⟩:=zd st.box;clear hyes hbz hpl;(go_wp2_with fail);clear x0 x1 x2
    go_loopw [9] (fun i wr=>∃(j:Nat) (cs:List BV),j≤k∧i=.int .i64 j∧NnSt w wr X la ln lc l (some ⟨g,0,none⟩) k bc cs∧cs.map BV.B=upBs (ids.take j) (m:Int)++(bs.drop j).map BV.B) (fun i _=>k - (intOf i).toNat)
    case atStart=>exact ⟨0,bs,Nat.zero_le _,rfl,st,by simp [upBs]⟩
    case round =>
     obtain ⟨j,cs,hj,rfl,st,hC⟩:=hrel;have hcl:cs.length=k:=st.b.grow.size;have hlen:=HLEN.out;have hIs:=HIS.out;obtain ⟨x0,x1,x2⟩:=zd st.box;by_cases hlt:j < k
     ·obtain ⟨y,hy⟩:∃y,bs[j]?=some y:=⟨_,List.getElem?_eq_getElem (by omega)⟩;obtain ⟨id,hid,hB⟩:=HBZ.out j y hy;have hul:(upBs (ids.take j) (m:Int)).length=j:=by simp [upBs]; omega
      have hdr:bs.drop j=y::bs.drop (j+1):=by
       obtain ⟨h,rfl⟩:=List.getElem?_eq_some_iff.1 hy;exact List.drop_eq_getElem_cons h
      rw [hdr,List.map_cons,hB] at hC;obtain ⟨x,hx⟩:∃x,cs[j]?=some x:=⟨_,List.getElem?_eq_getElem (by omega)⟩;have hsp:cs=cs.take j++x::cs.drop (j+1):=by
       obtain ⟨h,rfl⟩:=List.getElem?_eq_some_iff.1 hx;rw [← List.drop_eq_getElem_cons h,List.take_append_drop]
      have hpre:(cs.take j).map BV.B=upBs (ids.take j) (m:Int):=by
       have:=congrArg (List.take j) hC
       rw [← List.map_take,List.take_left' hul] at this;exact this
      have hxB:x.B=zn id (m:Int):=by
       have h1:(cs.map BV.B)[j]?=some x.B:=by rw [List.getElem?_map,hx]; rfl
       rw [hC,List.getElem?_append_right (by omega),hul,Nat.sub_self] at h1;exact (Option.some.inj h1).symm
      have hpost:(cs.drop (j+1)).map BV.B=(bs.drop (j+1)).map BV.B:=by
       have:=congrArg (List.drop (j+1)) hC
       rw [← List.map_drop] at this;have hd0:List.drop (j+1) (upBs (ids.take j) (m:Int))=[]:=List.drop_eq_nil_of_le (by omega);rw [this,List.drop_append,hd0,List.nil_append,hul,show j+1 - j=1 by omega]
       rfl
      have hpm:=HPL.out id (by simpa using List.mem_of_getElem? hid);have HPL2:Hid ((cs.take j).length=j):=hide (by rw [List.length_take]; omega);have HPRE:=hide hpre;have HPOST:=hide hpost;have HID:=hide hid;have HPM:=hide hpm;rw [hsp] at st;generalize hpr:cs.take j=pre at *;generalize hpo:cs.drop (j+1)=post at *;clear hy hid hB hdr hC hx hsp hpre hpost hpm hcl hpr hpo hul hlen hIs;(go_wp2_with fail);clear x0 x1 x2
      go_loopw [10] (fun i wr=>∃(p:Nat) (x:BV),p≤m∧i=.int .i64 p∧x.B=zaT (zn id (m:Int)) p∧NnSt w wr X la ln lc l (some ⟨g,0,none⟩) k bc (pre++x::post)) (fun i _=>m - (intOf i).toNat)
      case atStart=>exact ⟨0,x,Nat.zero_le _,rfl,hxB,st⟩
      case round =>
       clear st hxB x;obtain ⟨p,x,hp,rfl,hxB,st⟩:=hrel;by_cases hpm:p < m
       ·have HAT:Hid ((pre++x::post)[j]?=some x):=hide (by rw [List.getElem?_append_right (by have:=HPL2.out; omega),HPL2.out,Nat.sub_self]; rfl);have hx:=st.b.item x (by simp);have HSM:Hid (x.n≤1048576∧x.fn≤1048576∧x.rn≤1048576∧x.on≤1048576):=hide (by
         have e1:=hx.row.ports.size;have e2:=hx.row.f.size;have e3:=hx.row.v.rows.size;have e4:=hx.row.v.own.size;have l1:=zed (zn id (m:Int)) p;have l2:=zcC id (m:Int);rw [hxB] at e1 e2 e3 e4;obtain ⟨l3,l4,l5⟩:=l1;rw [l5] at e3 e4;omega)
        have HXB:Hid (linkB x.B (p:Int) true=zaT (zn id (m:Int)) (p+1)):=hide (by rw [hxB]; rfl);have i1:(0:Int)≤(j:Int):=by omega
        have i2:(j:Int) < (k:Int):=by omega
        have i3:(p:Int) < (m:Int):=by omega
        have vv:Below wr.heap.size wr wr.drew:=zw (Below.refl _ _);have kX:=za st.box vv;obtain ⟨⟨ca0,ca1,ca2,ca3,ca4,ca5,ca6,ca7,ca8,ca9,ca10⟩,-⟩:=zaj (st.b.below vv).row HAT.out;clear hxB;(go_wp2_with fail);refine wp_region_held_drew (S:=(fun W=>W.cell? ⟨X,0,none⟩=some (.slice (some ⟨g,0,none⟩) k bc)∧W.cell? ⟨X,1,none⟩=some (.slice la ln lc)∧W.cell? ⟨X,2,none⟩=some (.slice none 0 0))) (by kernel_rfl) (zd kX) (fun hHeld => ?_);refine kK 0 ⟨some 48,.fieldAddr 31 (.tmp 7) 0,0,"l13_net.go:71",#[],none⟩ ?_;refine kK 1 ⟨some 49,.load 28 (.tmp 48),28,"l13_net.go:71",#[⟨0,.data⟩],none⟩ ?_;refine kK 2 ⟨some 50,.move (.tmp 9),3,"l13_net.go:71",#[],none⟩ ?_;refine kK 3 ⟨some 51,.fieldAddr 31 (.tmp 7) 0,0,"l13_net.go:71",#[],none⟩ ?_;refine kK 4 ⟨some 52,.load 28 (.tmp 51),28,"l13_net.go:71",#[⟨3,.data⟩],none⟩ ?_;refine kK 5 ⟨some 53,.move (.tmp 9),3,"l13_net.go:71",#[],none⟩ ?_;refine kK 6 ⟨some 54,.indexAddr 28 (.tmp 52) (.tmp 53),0,"l13_net.go:71",#[⟨4,.data⟩,⟨5,.data⟩],none⟩ ?_;refine kK 8 ⟨some 56,.move (.tmp 10),3,"l13_net.go:71",#[],none⟩ ?_;refine kR 7 ⟨some 55,.load 63 (.tmp 54),63,"l13_net.go:71",#[⟨6,.data⟩],none⟩ (fun K hK => ?_);go_simp;refine hK.out _ _ (zd kX) (fun hHeld => ?_);clear hK K;(try simp only [Act.put,lA,lB,lC]);refine kR 9 ⟨some 57,.call ⟨.value (.func 52),#[.tmp 55,.tmp 56,.const (.bool true)],#[63,3,4]⟩,63,"l13_net.go:71",#[⟨7,.data⟩,⟨8,.data⟩],none⟩ (fun K hK => ?_);go_simp;refine (zct x.a x.n x.c x.fa x.fn x.fc x.ra x.rn x.rc x.oa x.on x.oc x.B (p:Int) true _ ((hx.row).below vv) HSM.out.1 HSM.out.2.1 HSM.out.2.2.1 HSM.out.2.2.2).mono ?_;rintro e wz ⟨a2,n2,c2,fa2,fn2,fc2,ra2,rn2,rc2,oa2,on2,oc2,rfl,ow2,hbz⟩;have ow2:=BrOwn.lt ow2 (base':=wr.heap.size) vv.size;have vv:=zc vv hbz;have kX:=za st.box vv;have hrow:=(st.b.below vv).row;obtain ⟨⟨t0,t1,t2,t3,t4,t5,t6,t7,t8,t9,t10⟩,f0,f1,f2,f3,f4,f5,f6,f7,f8,f9,f10⟩:=zaj hrow HAT.out;(go_wp2_with fail);refine hK.out _ _ (zd kX) (fun hHeld => ?_);clear hK K;(try simp only [Act.put,lA,lB,lC]);refine kK 10 ⟨some 58,.indexAddr 28 (.tmp 49) (.tmp 50),0,"l13_net.go:71",#[⟨1,.data⟩,⟨2,.data⟩,⟨0,.phase⟩,⟨1,.phase⟩,⟨2,.phase⟩,⟨3,.phase⟩,⟨4,.phase⟩,⟨5,.phase⟩,⟨6,.phase⟩,⟨7,.phase⟩,⟨8,.phase⟩,⟨9,.phase⟩],none⟩ ?_;refine kR 11 ⟨none,.store 63 (.tmp 58) (.tmp 57),0,"l13_net.go:71",#[⟨10,.data⟩,⟨9,.data⟩,⟨9,.chain⟩,⟨0,.phase⟩,⟨1,.phase⟩,⟨2,.phase⟩,⟨3,.phase⟩,⟨4,.phase⟩,⟨5,.phase⟩,⟨6,.phase⟩,⟨7,.phase⟩,⟨8,.phase⟩,⟨9,.phase⟩],none⟩ (fun K hK => ?_);go_simp;refine zbb (⟨a2,n2,c2,fa2,fn2,fc2,ra2,rn2,rc2,oa2,on2,oc2,(linkB x.B (p:Int) true)⟩:BV) HPL2.out (K:=K _) hrow (fun wq hq hgq => ?_);have stN:=st.put (y:=(⟨a2,n2,c2,fa2,fn2,fc2,ra2,rn2,rc2,oa2,on2,oc2,(linkB x.B (p:Int) true)⟩:BV)) vv ow2 hgq hq;have kX:=stN.box;refine hK.out _ _ (zd kX) (fun hHeld => ?_);clear hK K;(try simp only [Act.put,lA,lB,lC]);refine wpAnyH_done (by kernel_rfl) ?_ _;have HST:=hide stN;clear hHeld kX hq hgq hrow ow2 vv;go_wp2
        go_roundw
        case rel=>exact ⟨p+1,_,by omega,by go_num,HXB.out,HST.out⟩
        case measure=>simp [intOf]; omega
       ·have hpx:p=m:=by omega
        have HC:Hid ((pre++x::post).map BV.B=upBs (ids.take (j+1)) (m:Int)++(bs.drop (j+1)).map BV.B):=hide (by
         rw [List.map_append,List.map_cons,HPRE.out,HPOST.out,hxB,zjE HID.out,List.append_assoc]
         have:zaT (zn id (m:Int)) p=raised (zn id (m:Int)):=by unfold raised; rw [HPM.out,hpx]
         rw [this]
         rfl)
        have HST:=hide st;clear st hxB;go_wp2
        go_roundw
        case rel=>exact ⟨j+1,_,by omega,by go_num,HST.out,HC.out⟩
        case measure=>simp [intOf]; omega
     ·have hjk:j=k:=by omega
      have hup:cs.map BV.B=upBs ids (m:Int):=by
       rw [hC,List.drop_eq_nil_of_le (by omega),List.take_of_length_le (by omega)]
       simp
      have HUP:=hide hup;obtain ⟨r0,r1,r2⟩:=zd st.res;have f0:=zf st.res 0;have f1:=zf st.res 1;have f2:=zf st.res 2;have ne1:¬w.heap.size=X:=by have:=st.lt; omega
      have ne2:¬X=w.heap.size:=by have:=st.lt; omega
      have HO:=hide st.out.1;have HB:=hide st.out.2;clear hup hC st hlen hIs hcl hjk;go_wp2
      all_goals first | (exfalso; rename_i hf; first | (rw [f0] at hf; cases hf) | (rw [f1] at hf; cases hf) | (rw [f2] at hf; cases hf)) | skip
      exact bodyPost_ret (v:=.agg #[.slice (some ⟨g,0,none⟩) k bc,.slice la ln lc,.slice none 0 0]) (by simp [results,Tryz.results16,go_sem, *]) rfl (show ziK ids (m:Int) l w _ _ from ⟨⟨some ⟨g,0,none⟩,k,bc,cs,la,ln,lc,l,none,0,0,[]⟩,rfl,HO.out,⟨fun _=>⟨HUP.out,rfl⟩,fun h=>absurd HYES.out h⟩,HB.out⟩)

end Go.Proofs.YtkoekkjfcaiagaaGreat
