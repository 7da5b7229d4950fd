/-
  Packed: NetNewS StepCopy StepLink.
-/
import Derived.Test.YtkcoehmpnkdinaaGreatPNK37
namespace Go.Proofs.YtkcoehmpnkdinaaGreat
set_option maxRecDepth 100000
set_option maxHeartbeats 16000000
open Go.RowKit

theorem ziR {ids:List Int} {ports:Int} {k:Nat} {id:Int} (h:ids[k]? = some id):newBs (ids.take (k+1)) ports=newBs (ids.take k) ports++[zn id ports]:=by
 unfold newBs;rw [List.take_add_one,h,List.map_append]
 rfl

theorem zj3 {ids:List Int} {ports:Int} {k:Nat} {id:Int} (h:ids[k]? = some id):upBs (ids.take (k+1)) ports=upBs (ids.take k) ports++[raised (zn id ports)]:=by
 unfold upBs;rw [List.take_add_one,h,List.map_append]
 rfl

theorem zcS (ia:Option Addr) (im ic:Nat) (ids:List Int) (ports:Int) (la0:Option Addr) (ln lc0:Nat) (l:List LK) (w:World) (hI:IRow w ia im ic ids) (hL:GRow linkF w la0 ln lc0 l) (hs:ln≤1048576) (hm:im≤1048576) :
  Calls Tryz.prog 13 #[.slice ia im ic,.int .i64 ports,.slice la0 ln lc0] w fun e w'=>zgn ids ports l w e w':=by
 have hIs:=hI.size;generalize hw1:w.alloc (Obj.cells #[.slice none 0 0,.slice none 0 0,.slice none 0 0] 31)=w1;generalize hw2:w1.alloc (Obj.cells #[] 44)=w2;have b01:=zb hw1;have b12:=zb hw2;have z1:w1.heap.size=w.heap.size+1:=by rw [← hw1]; simp
 have k2:=zk hw2;have b02:=zc b01 b12;have kJ:=za (zk hw1) b12;have on:w2.ownsRow (w.heap.size+1) 44 linkF.k (.slice (some ⟨w1.heap.size,0,none⟩) 0 0) 0 (linkF.all []):=by
  have:=zaE linkF w1 w2 44 w1.heap.size k2 (Nat.le_refl _)
  rw [z1] at this ⊢;exact this
 have hz2:w.heap.size+1≤w2.heap.size:=by rw [← z1]; exact b12.size
 clear z1;go_enter Tryz.func13,Tryz.ntmps13;go_wp2_with (at_builtin; refine zE (F:=linkF) _ rfl _ _ 25 44 rfl (w.heap.size+1) Tryz.underlying25 zc3 rfl (by decide) _ 0 [] rfl on la0 ln lc0 l rfl (hL.below b02) (by omega) hz2 ?_)
 intro la lc w3 oL _ hg3 hb3
 try simp only [Nat.zero_add,List.nil_append] at oL
 try simp only [Nat.zero_add,List.nil_append]
 have kR3:=ze kJ hg3 (fun k hk=>by have:=(on.lt k hk).1; omega);have b03:Below w.heap.size w w3:=b02.trans (hb3.mono (by omega));clear hw1 hw2 b01 b12 k2 kJ on hz2 b02 hg3 hb3;go_wp2_with fail
 generalize hw4:w3.alloc (Obj.cells #[.slice none 0 0,.slice la ln lc,.slice none 0 0] 31)=w4;have b34:=zb hw4;have kX4:=zk hw4;have st0:NnSt w w4 w3.heap.size la ln lc l none 0 0 []:=⟨kX4,za kR3 b34,zhe _ _,zl oL b34,zc b03 b34,zcB kR3⟩;generalize hX:w3.heap.size=X at *;clear hw4 b34 kX4 kR3 b03 oL
 go_loopw [8] (fun i wr=>∃(k:Nat) (ba:Option Addr) (bc:Nat) (bs:List BV),k≤im∧i=.int .i64 k∧NnSt w wr X la ln lc l ba k bc bs∧bs.map BV.B=newBs (ids.take k) ports) (fun i _=>im - (intOf i).toNat)
 case atStart=>exact ⟨0,none,0,[],Nat.zero_le _,rfl,st0,by simp [newBs]⟩
 case round =>
  obtain ⟨k,ba,bc,bs,hk,rfl,st,hM⟩:=hrel;clear st0;by_cases hlt:k < im
  ·obtain ⟨id,ib,io,hid,rfl,ci⟩:=zfZ hI k hlt;have i1:(0:Int)≤(k:Int):=by omega
   have i2:(k:Int) < (im:Int):=by omega
   have HI:=hide hid;have HM:=hide hM;have vv:Below wr.heap.size wr wr.drew:=zr (Below.refl _ _);have uu:Below w.heap.size w wr.drew:=zc st.below vv;have x0:=(zd (za st.box vv)).1;clear hid hM;(go_wp2_with fail);refine wp_region_held_drew (S:=(fun W=>zcc W ib (io+k) (.int .i64 id))) (by kernel_rfl) ((uu.cell (zo ci)).trans ci) (fun hHeld => ?_)
   repeat' first
   |
    with_reducible refine kLa ?_
    first
    |
     refine kLf 0 ?_;refine kK 0 ?_
    |
     refine kLf 2 ?_;refine kK 2 ?_
    |
     refine kLf 3 ?_;refine kK 3 ?_
    |
     refine kLf 4 ?_;refine kK 4 ?_
    |
     refine kLf 5 ?_;refine kK 5 ?_
    |
     refine kLf 6 ?_;refine kK 6 ?_
    |
     refine kLf 10 ?_;refine kK 10 ?_
    |
     refine kLp [1,7] ?_
    |
     refine kLp [7] ?_
    |
     refine kLp [8] ?_
    |
     refine kLp [9] ?_
    |
     refine kLp [11] ?_
    |
     refine kLp [1,8] ?_
    |
     refine kLp [1] ?_
    |
     refine wpAnyH_done (by kernel_rfl) ?_ _;have HST:=hide stN;clear hHeld how hgr hbL hoN kX uu x0 fz kY gn1 ow2 vv;go_wp2
     go_roundw
     case rel=>exact ⟨k+1,aL,cL,_,by omega,by go_num,HST.out,by rw [List.map_append,HM.out,ziR HI.out]; rfl⟩
     case measure=>simp [intOf]; omega
   |
    exact AllReadyH.nil
   |
    refine kLc 1 (fun K hK => ?_) ?_;go_simp;refine kO hK ((uu.cell (zo ci)).trans ci) fun hHeld => ?_
    clear hK K
   |
    refine kLc 7 (fun K hK => ?_) ?_;go_simp;refine (zhN id ports _).mono ?_;rintro e wz ⟨a2,n2,c2,fa2,fn2,fc2,ra2,rn2,rc2,oa2,on2,oc2,rfl,ow2,hbz⟩;have ow2:=BrOwn.lt ow2 (base':=wr.heap.size) vv.size;have vv:=zc vv hbz;have uu:=zc st.below vv;have x0:=(zd (za st.box vv)).1;(go_wp2_with fail);refine kO hK ((uu.cell (zo ci)).trans ci) fun hHeld => ?_
    clear hK K
   |
    refine kLc 8 (fun K hK => ?_) ?_;go_simp
    first
    | refine zaj (K:=K _) (fun wx kY hbx => ?_)
    | refine zab (K:=K _) (fun wx kY hbx => ?_)
    have gz:=vv.size;have ow2:=BrOwn.below ow2 hbx;have vv:=zc vv hbx;have uu:=zc st.below vv;have x0:=(zd (za st.box vv)).1;clear hbx;refine kO hK ((uu.cell (zo ci)).trans ci) fun hHeld => ?_
    clear hK K
   |
    refine kLc 9 (fun K hK => ?_) ?_;have gn1:GRow brF wx (some ⟨_,0,none⟩) 1 1 [(⟨a2,n2,c2,fa2,fn2,fc2,ra2,rn2,rc2,oa2,on2,oc2,(zn id ports)⟩:BV)]:=zD (F:=brF) (zd0 brF (base:=0) (l:=[(⟨a2,n2,c2,fa2,fn2,fc2,ra2,rn2,rc2,oa2,on2,oc2,(zn id ports)⟩:BV)]) kY rfl (Nat.zero_le _) (by simp));have hoN:=st.b.below vv;refine zI (F:=brF) rfl _ _ 28 61 rfl (w.heap.size+1) Tryz.underlying28 zjc rfl (by decide) _ k bs rfl hoN.row _ 1 1 _ rfl gn1 (by omega) (Nat.le_trans st.size vv.size) ?_;intro aL cL wL how _ hgr hbL;obtain ⟨kX,uu,stN⟩:=st.push (y:=(⟨a2,n2,c2,fa2,fn2,fc2,ra2,rn2,rc2,oa2,on2,oc2,(zn id ports)⟩:BV)) vv ow2 hgr how;have x0:=(zd kX).1;have fz:=zi kX 0;refine kO hK ((uu.cell (zo ci)).trans ci) fun hHeld => ?_
    clear hK K
   |
    refine kLc 11 (fun K hK => ?_) ?_;go_simp;have uu:=stN.below;refine kO hK ((uu.cell (zo ci)).trans ci) fun hHeld => ?_
    clear hK K
  ·have hkn:k=im:=by omega
   rw [List.take_of_length_le (by omega)] at hM;subst hkn;obtain ⟨x0,x1,x2⟩:=zd st.box;have hN:zas wr ⟨ba,k,bc,bs,la,ln,lc,l,none,0,0,[]⟩:=⟨st.b.grow,fun x hx=>(st.b.item x hx).row,zD (F:=linkF) st.l,zc2 _ _⟩;(go_wp2_with fail);refine (zcy ⟨ba,k,bc,bs,la,ln,lc,l,none,0,0,[]⟩ _ hN (show ln≤16777216 by omega)).mono ?_;rintro e w6 ⟨q,rfl,hq,hb6⟩;have hq2:q=true↔NetOk (newBs ids ports) l []:=by rw [← hM]; exact hq
   clear hq;have st:=st.later hb6;clear x0 x1 x2 hN hb6;cases q
   ·have hno:¬NetOk (newBs ids ports) l []:=fun h=>by have:=hq2.2 h; cases this
    have HNO:=hide hno;clear hq2 hno;obtain ⟨r0,r1,r2⟩:=zd st.res;have f0:=zi st.res 0;have f1:=zi st.res 1;have f2:=zi st.res 2;have HB:=hide (zj (zj (zj st.below (Nat.le_refl _) 0 (.slice none 0 0)) (Nat.le_refl _) 1 (.slice none 0 0)) (Nat.le_refl _) 2 (.slice none 0 0));go_wp2
    all_goals first | (exfalso; rename_i hf; first | (rw [f0] at hf; cases hf) | (rw [f1] at hf; cases hf) | (rw [f2] at hf; cases hf)) | skip
    exact bodyPost_ret (v:=.agg #[.slice none 0 0,.slice none 0 0,.slice none 0 0]) (by simp [results,Tryz.results13,go_sem, *]) rfl (zel HNO.out HB.out)
   ·have hyes:=hq2.1 rfl;clear hq2;have HYES:=hide hyes;have hlen:bs.length=k:=st.b.grow.size;have hbz:∀(i:Nat) (x:BV),bs[i]? = some x→∃id,ids[i]? = some id∧x.B=zn id ports:=fun i x hx=>by
     have:(newBs ids ports)[i]? = some x.B:=by rw [← hM,List.getElem?_map,hx]; rfl
     exact zc4 this
    have hkpos:0 < k:=by
     have:=hyes.1.2.2.1
     rw [← hM] at this
     simp at this
     omega
    obtain ⟨m,hpm⟩:∃m:Nat,ports=(m:Int):=by
     obtain ⟨x,hx⟩:∃x,bs[0]? = some x:=⟨_,List.getElem?_eq_getElem (by omega)⟩;obtain ⟨id,hid,hB⟩:=hbz 0 x hx;exact ⟨_,(zaI id ports).2.2.2.2.2 (hyes.1.1 _ (List.mem_of_getElem? (zct hid)))⟩
    subst hpm;have hpl:∀id,ids.contains id=true→(zn id (m:Int)).ports.length=m:=fun id hid=>by
     have hmem:id∈ids:=by simpa using hid
     obtain ⟨i,hi⟩:=List.getElem?_of_mem hmem
     have:=(zaI id (m:Int)).2.2.2.2.2 (hyes.1.1 _ (List.mem_of_getElem? (zct hi)))
     omega
    have hm6:m≤6:=by
     obtain ⟨x,hx⟩:∃x,bs[0]? = some x:=⟨_,List.getElem?_eq_getElem (by omega)⟩;obtain ⟨id,hid,hB⟩:=hbz 0 x hx;have h1:=hpl id (by simpa using List.mem_of_getElem? hid);have h2:=(zbT id (m:Int)).2.1;omega
    obtain ⟨g,off,hba,hoff⟩:∃g off,ba=some ⟨g,off,none⟩∧off=0:=by
     rcases st.b.row.2 with ⟨e,h0⟩ | ⟨g,cap',cur,e,_⟩
     ·omega
     ·cases e; exact ⟨g,0,rfl,rfl⟩
    subst hoff hba;have HPL:=hide hpl;have HM:=hide hM;have HLEN:=hide hlen;have HIS:=hide hIs;have HKP:=hide hkpos;clear hM hlen hIs hkpos hlt hk;have HBZ:=hide hbz;obtain ⟨x0,x1,x2⟩:=zd st.box;clear hyes hbz hpl;(go_wp2_with fail);clear x0 x1 x2
    go_loopw [9] (fun i wr=>∃(j:Nat) (cs:List BV),j≤k∧i=.int .i64 j∧NnSt w wr X la ln lc l (some ⟨g,0,none⟩) k bc cs∧cs.map BV.B=upBs (ids.take j) (m:Int)++(bs.drop j).map BV.B) (fun i _=>k - (intOf i).toNat)
    case atStart=>exact ⟨0,bs,Nat.zero_le _,rfl,st,by simp [upBs]⟩
    case round =>
     obtain ⟨j,cs,hj,rfl,st,hC⟩:=hrel;have hcl:cs.length=k:=st.b.grow.size;have hlen:=HLEN.out;have hIs:=HIS.out;obtain ⟨x0,x1,x2⟩:=zd st.box;by_cases hlt:j < k
     ·obtain ⟨y,hy⟩:∃y,bs[j]? = some y:=⟨_,List.getElem?_eq_getElem (by omega)⟩;obtain ⟨id,hid,hB⟩:=HBZ.out j y hy;have hul:(upBs (ids.take j) (m:Int)).length=j:=by simp [upBs]; omega
      have hdr:bs.drop j=y::bs.drop (j+1):=by
       obtain ⟨h,rfl⟩:=List.getElem?_eq_some_iff.1 hy;exact List.drop_eq_getElem_cons h
      rw [hdr,List.map_cons,hB] at hC;obtain ⟨x,hx⟩:∃x,cs[j]? = some x:=⟨_,List.getElem?_eq_getElem (by omega)⟩;have hsp:cs=cs.take j++x::cs.drop (j+1):=by
       obtain ⟨h,rfl⟩:=List.getElem?_eq_some_iff.1 hx;rw [← List.drop_eq_getElem_cons h,List.take_append_drop]
      have hpre:(cs.take j).map BV.B=upBs (ids.take j) (m:Int):=by
       have:=congrArg (List.take j) hC
       rw [← List.map_take,List.take_left' hul] at this;exact this
      have hxB:x.B=zn id (m:Int):=by
       have h1:(cs.map BV.B)[j]? = some x.B:=by rw [List.getElem?_map,hx]; rfl
       rw [hC,List.getElem?_append_right (by omega),hul,Nat.sub_self] at h1;exact (Option.some.inj h1).symm
      have hpost:(cs.drop (j+1)).map BV.B=(bs.drop (j+1)).map BV.B:=by
       have:=congrArg (List.drop (j+1)) hC
       rw [← List.map_drop] at this;have hd0:List.drop (j+1) (upBs (ids.take j) (m:Int))=[]:=List.drop_eq_nil_of_le (by omega);rw [this,List.drop_append,hd0,List.nil_append,hul,show j+1 - j=1 by omega]
       rfl
      have hpm:=HPL.out id (by simpa using List.mem_of_getElem? hid);have HPL2:Hid ((cs.take j).length=j):=hide (by rw [List.length_take]; omega);have HPRE:=hide hpre;have HPOST:=hide hpost;have HID:=hide hid;have HPM:=hide hpm;rw [hsp] at st;generalize hpr:cs.take j=pre at *;generalize hpo:cs.drop (j+1)=post at *;clear hy hid hB hdr hC hx hsp hpre hpost hpm hcl hpr hpo hul hlen hIs;(go_wp2_with fail);clear x0 x1 x2
      go_loopw [10] (fun i wr=>∃(p:Nat) (x:BV),p≤m∧i=.int .i64 p∧x.B=zaR (zn id (m:Int)) p∧NnSt w wr X la ln lc l (some ⟨g,0,none⟩) k bc (pre++x::post)) (fun i _=>m - (intOf i).toNat)
      case atStart=>exact ⟨0,x,Nat.zero_le _,rfl,hxB,st⟩
      case round =>
       clear st hxB x;obtain ⟨p,x,hp,rfl,hxB,st⟩:=hrel;by_cases hpm:p < m
       ·have HAT:Hid ((pre++x::post)[j]? = some x):=hide (by rw [List.getElem?_append_right (by have:=HPL2.out; omega),HPL2.out,Nat.sub_self]; rfl);have hx:=st.b.item x (by simp);have HSM:Hid (x.n≤1048576∧x.fn≤1048576∧x.rn≤1048576∧x.on≤1048576):=hide (by
         have e1:=hx.row.ports.size;have e2:=hx.row.f.size;have e3:=hx.row.v.rows.size;have e4:=hx.row.v.own.size;have l1:=za1 (zn id (m:Int)) p;have l2:=zbT id (m:Int);rw [hxB] at e1 e2 e3 e4;obtain ⟨l3,l4,l5⟩:=l1;rw [l5] at e3 e4;omega)
        have HXB:Hid (linkB x.B (p:Int) true=zaR (zn id (m:Int)) (p+1)):=hide (by rw [hxB]; rfl);have i1:(0:Int)≤(j:Int):=by omega
        have i2:(j:Int) < (k:Int):=by omega
        have i3:(p:Int) < (m:Int):=by omega
        have vv:Below wr.heap.size wr wr.drew:=zr (Below.refl _ _);have kX:=za st.box vv;obtain ⟨⟨ca0,ca1,ca2,ca3,ca4,ca5,ca6,ca7,ca8,ca9,ca10⟩,-⟩:=zaf (st.b.below vv).row HAT.out;clear hxB;(go_wp2_with fail);refine wp_region_held_drew (S:=(fun W=>zcc W X 0 (.slice (some ⟨g,0,none⟩) k bc)∧zcc W X 1 (.slice la ln lc)∧zcc W X 2 (.slice none 0 0))) (by kernel_rfl) (zd kX) (fun hHeld => ?_);refine kK 0 ?_;refine kK 1 ?_;refine kK 2 ?_;refine kK 3 ?_;refine kK 4 ?_;refine kK 5 ?_;refine kK 6 ?_;refine kK 8 ?_;refine kR 7 fun K hK => ?_
        go_simp;refine kO hK (zd kX) fun hHeld => ?_
        clear hK K;refine kR 9 fun K hK => ?_
        go_simp;refine (zcx x.a x.n x.c x.fa x.fn x.fc x.ra x.rn x.rc x.oa x.on x.oc x.B (p:Int) true _ ((hx.row).below vv) HSM.out.1 HSM.out.2.1 HSM.out.2.2.1 HSM.out.2.2.2).mono ?_;rintro e wz ⟨a2,n2,c2,fa2,fn2,fc2,ra2,rn2,rc2,oa2,on2,oc2,rfl,ow2,hbz⟩;have ow2:=BrOwn.lt ow2 (base':=wr.heap.size) vv.size;have vv:=zc vv hbz;have kX:=za st.box vv;have hrow:=(st.b.below vv).row;obtain ⟨⟨t0,t1,t2,t3,t4,t5,t6,t7,t8,t9,t10⟩,f0,f1,f2,f3,f4,f5,f6,f7,f8,f9,f10⟩:=zaf hrow HAT.out;(go_wp2_with fail);refine kO hK (zd kX) fun hHeld => ?_
        clear hK K;refine kK 10 ?_;refine kR 11 fun K hK => ?_
        go_simp;refine zaU (⟨a2,n2,c2,fa2,fn2,fc2,ra2,rn2,rc2,oa2,on2,oc2,(linkB x.B (p:Int) true)⟩:BV) HPL2.out (K:=K _) hrow (fun wq hq hgq => ?_);have stN:=st.put (y:=(⟨a2,n2,c2,fa2,fn2,fc2,ra2,rn2,rc2,oa2,on2,oc2,(linkB x.B (p:Int) true)⟩:BV)) vv ow2 hgq hq;have kX:=stN.box;refine kO hK (zd kX) fun hHeld => ?_
        clear hK K;refine wpAnyH_done (by kernel_rfl) ?_ _;have HST:=hide stN;clear hHeld kX hq hgq hrow ow2 vv;go_wp2
        go_roundw
        case rel=>exact ⟨p+1,_,by omega,by go_num,HXB.out,HST.out⟩
        case measure=>simp [intOf]; omega
       ·have hpx:p=m:=by omega
        have HC:Hid ((pre++x::post).map BV.B=upBs (ids.take (j+1)) (m:Int)++(bs.drop (j+1)).map BV.B):=hide (by
         rw [List.map_append,List.map_cons,HPRE.out,HPOST.out,hxB,zj3 HID.out,List.append_assoc]
         have:zaR (zn id (m:Int)) p=raised (zn id (m:Int)):=by unfold raised; rw [HPM.out,hpx]
         rw [this]
         rfl)
        have HST:=hide st;clear st hxB;go_wp2
        go_roundw
        case rel=>exact ⟨j+1,_,by omega,by go_num,HST.out,HC.out⟩
        case measure=>simp [intOf]; omega
     ·have hjk:j=k:=by omega
      have hup:cs.map BV.B=upBs ids (m:Int):=by
       rw [hC,List.drop_eq_nil_of_le (by omega),List.take_of_length_le (by omega)]
       simp
      have HUP:=hide hup;obtain ⟨r0,r1,r2⟩:=zd st.res;have f0:=zi st.res 0;have f1:=zi st.res 1;have f2:=zi st.res 2;have ne1:¬w.heap.size=X:=by have:=st.lt; omega
      have ne2:¬X=w.heap.size:=by have:=st.lt; omega
      have HO:=hide st.out.1;have HB:=hide st.out.2;clear hup hC st hlen hIs hcl hjk;go_wp2
      all_goals first | (exfalso; rename_i hf; first | (rw [f0] at hf; cases hf) | (rw [f1] at hf; cases hf) | (rw [f2] at hf; cases hf)) | skip
      exact bodyPost_ret (v:=.agg #[.slice (some ⟨g,0,none⟩) k bc,.slice la ln lc,.slice none 0 0]) (by simp [results,Tryz.results13,go_sem, *]) rfl (show zgn ids (m:Int) l w _ _ from ⟨⟨some ⟨g,0,none⟩,k,bc,cs,la,ln,lc,l,none,0,0,[]⟩,rfl,HO.out,⟨fun _=>⟨HUP.out,rfl⟩,fun h=>absurd HYES.out h⟩,HB.out⟩)

theorem zfk (N:NV) (w:World) (h:zas w N) (hn:N.bn≤16777216) (hl:N.ln≤16777216) (hs:N.sn≤16777216) (hm:∀x∈N.bs,x.n≤16777216∧x.fn≤16777216∧x.rn≤16777216∧x.on≤16777216) :
  Calls Tryz.prog 109 #[.agg #[.slice N.ba N.bn N.bc,.slice N.la N.ln N.lc,.slice N.sa N.sn N.sc]] w fun e w'=>∃M:NV,e=.returned (.agg #[.slice M.ba M.bn M.bc,.slice M.la M.ln M.lc,.slice M.sa M.sn M.sc])∧NOwn w' w.heap.size M∧M.Same N∧Below w.heap.size w w':=by
 generalize hw1:w.alloc (Obj.cells #[.slice N.ba N.bn N.bc,.slice N.la N.ln N.lc,.slice N.sa N.sn N.sc] 31)=w1;generalize hw2:w1.alloc (Obj.cells #[.slice none 0 0,.slice none 0 0,.slice none 0 0] 31)=w2;have b01:=zb hw1;have b12:=zb hw2;have b02:=zc b01 b12;have kP:=za (zk hw1) b12;have kJ:=zk hw2;have HZR:Hid (w1.heap.size=w.heap.size+1):=hide (by rw [← hw1]; simp);have HZ:Hid (w2.heap.size=w.heap.size+2):=hide (by rw [← hw2,← hw1]; simp);have hbl:=Nat.le_trans h.b.le h.b.top;unfold maxLen at hbl;go_enter Tryz.func109,Tryz.ntmps109;go_upto_region 1 with fail
 go_cut [3] from 5 to 13 (fun s wx=>∃(X:Nat) (la:Option Addr) (lc:Nat) (sa:Option Addr) (sc:Nat),s=.pointer (some ⟨X,0,none⟩)∧NcSt w wx N X ⟨none,0,0,[],la,N.ln,lc,N.ls,sa,N.sn,sc,N.ss⟩)
 case first =>
  have vv:Below w2.heap.size w2 w2.drew:=zr (Below.refl _ _);refine wp_region_held_drew (S:=(fun W=>zcc W w.heap.size 0 (.slice N.ba N.bn N.bc)∧zcc W w.heap.size 1 (.slice N.la N.ln N.lc)∧zcc W w.heap.size 2 (.slice N.sa N.sn N.sc))) (by kernel_rfl) (zd (za kP vv)) (fun hHeld => ?_)
  repeat' first
  |
   with_reducible refine kLa ?_
   first
   |
    refine kLf 1 ?_;refine kK 1 ?_
   |
    refine kLf 2 ?_;refine kK 2 ?_
   |
    refine kLf 5 ?_;refine kK 5 ?_
   |
    refine kLf 6 ?_;refine kK 6 ?_
   |
    refine kLf 8 ?_;refine kK 8 ?_
   |
    refine kLp [0,4,9] ?_
   |
    refine kLp [3,4,9] ?_
   |
    refine kLp [4,9] ?_
   |
    refine kLp [7,9] ?_
   |
    refine kLp [9] ?_
   |
    refine kLp [10] ?_
   |
    refine kLp [7] ?_
   |
    refine kLp [4] ?_
   |
    refine kLp [3,9] ?_
   |
    refine kLp [3] ?_
   |
    refine kLp [3,4] ?_
   |
    refine kLp [0,9] ?_
   |
    refine kLp [0] ?_
   |
    refine kLp [0,4] ?_
   |
    refine wpAnyH_done (by kernel_rfl) ?_ _;clear hHeld;(go_wp2_with fail)
    go_meet
    exact ⟨_,_,_,_,_,rfl,stN⟩
  |
   exact AllReadyH.nil
  |
   refine kLc 0 (fun K hK => ?_) ?_;go_simp
   first
   | refine zaj (K:=K _) (fun wx kL hbx => ?_)
   | refine zab (K:=K _) (fun wx kL hbx => ?_)
   have gL:=vv.size;(try have kS:=za kS hbx);(try have kX:=za kX hbx);(try have oS:=zl oS hbx);have vv:=zc vv hbx;clear hbx;refine kO hK (zd (za kP vv)) fun hHeld => ?_
   clear hK K
  |
   refine kLc 3 (fun K hK => ?_) ?_;have on0:=zdW linkF kL gL;refine zI (F:=linkF) rfl _ _ 25 44 rfl w2.heap.size Tryz.underlying25 zc3 rfl (by decide) _ 0 [] rfl on0 _ N.ln N.lc N.ls rfl (h.l.below (zc b02 vv)) (by omega) vv.size ?_;intro aooL cpoL wx2 oL hr0 hgr hbx;(try have oS:=zC oS on0 (by decide) hgr);(try have kS:=ze kS hgr (fun k hk=>zN on0 kS (by decide) k hk));(try have kX:=ze kX hgr (fun k hk=>zN on0 kX (by decide) k hk));have vv:=vv.trans hbx;(try simp only [Nat.zero_add,List.nil_append] at oL);(try simp only [Nat.zero_add]);clear on0 hr0 hgr hbx;refine kO hK (zd (za kP vv)) fun hHeld => ?_
   clear hK K
  |
   refine kLc 4 (fun K hK => ?_) ?_;go_simp
   first
   | refine zaj (K:=K _) (fun wx kS hbx => ?_)
   | refine zab (K:=K _) (fun wx kS hbx => ?_)
   have gS:=vv.size;(try have kL:=za kL hbx);(try have kX:=za kX hbx);(try have oL:=zl oL hbx);have vv:=zc vv hbx;clear hbx;refine kO hK (zd (za kP vv)) fun hHeld => ?_
   clear hK K
  |
   refine kLc 7 (fun K hK => ?_) ?_;have on0:=zdW sayF kS gS;refine zI (F:=sayF) rfl _ _ 29 74 rfl w2.heap.size Tryz.underlying29 zd1 rfl (by decide) _ 0 [] rfl on0 _ N.sn N.sc N.ss rfl (h.s.below (zc b02 vv)) (by omega) vv.size ?_;intro aooS cpoS wx2 oS hr0 hgr hbx;(try have oL:=zC oL on0 (by decide) hgr);(try have kX:=ze kX hgr (fun k hk=>zN on0 kX (by decide) k hk));have vv:=vv.trans hbx;(try simp only [Nat.zero_add,List.nil_append] at oS);(try simp only [Nat.zero_add]);clear on0 hr0 hgr hbx;refine kO hK (zd (za kP vv)) fun hHeld => ?_
   clear hK K
  |
   refine kLc 9 (fun K hK => ?_) ?_;go_simp
   first
   | refine zaj (K:=K _) (fun wx kX hbx => ?_)
   | refine zab (K:=K _) (fun wx kX hbx => ?_)
   have gX:=vv.size;(try have kL:=za kL hbx);(try have kS:=za kS hbx);(try have oL:=zl oL hbx);(try have oS:=zl oS hbx);have vv:=zc vv hbx;clear hbx;refine kO hK (zd (za kP vv)) fun hHeld => ?_
   clear hK K
  |
   refine kLc 10 (fun K hK => ?_) ?_;obtain ⟨xx0,xx1,xx2⟩:=zd kX;have ff0:=zi kX 0;have ff1:=zi kX 1;have ff2:=zi kX 2;go_simp;refine zaQ (K:=K _) kX _ _ _ (fun wq kQ hgq => ?_);have oL2:=zB oL hgq (zN oL kX (by decide));have oS2:=zB oS hgq (zN oS kX (by decide));have bv:=zc b02 vv;have bq:=bv.grown hgq bv.size (by intro i e; cases e; have:=HZ.out; omega);have vq:=vv.grown hgq vv.size (by intro i e; cases e; exact gX);have stN:NcSt w wq N _ ⟨none,0,0,[],_,N.ln,_,N.ls,_,N.sn,_,N.ss⟩:=⟨za kP vq,HZR.out▸za kJ vq,kQ,⟨zhe _ _,zL oL2 (Nat.le_of_eq HZ.out.symm),zL oS2 (Nat.le_of_eq HZ.out.symm)⟩,bq,by have:=HZ.out; omega⟩;refine kO hK (zd (za kP vq)) fun hHeld => ?_
   clear hK K
 case rest =>
  obtain ⟨X,la,lc,sa,sc,rfl,st0⟩:=hcut;obtain ⟨w4,hw4⟩:∃y,y=wc:=⟨_,rfl⟩;subst hw4;have HRR:=HZR;generalize hR:w1.heap.size=R at *;clear hw1 hw2 b01 b12 b02 kP kJ HZ hR;(go_wp2_with fail)
  go_loopw [4] (fun i wr=>∃(k:Nat) (M:NV),k≤N.bn∧i=.int .i64 k∧NcSt w wr N X M∧M.bn=k∧M.bs.map BV.B=(N.bs.take k).map BV.B∧(M.ls=N.ls∧M.ss=N.ss)) (fun i _=>N.bn - (intOf i).toNat)
  case atStart=>exact ⟨0,_,Nat.zero_le _,rfl,st0,rfl,by simp,rfl,rfl⟩
  case round =>
   clear st0;obtain ⟨k,M,hk,rfl,st,hMn,hM,hLS⟩:=hrel;have HKP:Hid (∀{W W':World} {M:NV},NcSt w wr N X M→Below wr.heap.size wr W→W.grownBy W' (Value.slice M.ba M.bn M.bc).ownBlock→W'.heap[w.heap.size]? = some (.cells #[.slice N.ba N.bn N.bc,.slice N.la N.ln N.lc,.slice N.sa N.sn N.sc] 31)):=hide (fun st hb hg=>ze (za st.src hb) hg (fun k hk=>zN (st.own.b.below hb).row (za st.src hb) (by decide) k hk));have HMN:=hide hMn;have HM:=hide hM;have HLS:=hide hLS;obtain ⟨q0,q1,q2⟩:=zd st.src;clear hM hLS;by_cases hlt:k < N.bn
   ·obtain ⟨x,bb,off,hxx,hba,-⟩:=br_at h.b k hlt;have hx:=h.item x (List.mem_of_getElem? hxx);have hsm:=hm x (List.mem_of_getElem? hxx);have HG:Hid (GRow brF w (some ⟨bb,off,none⟩) N.bn N.bc N.bs):=hide (by rw [← hba]; exact h.b);have HBA:=hide hba;have HX:=hide hxx;have i1:(0:Int)≤(k:Int):=by omega
    have i2:(k:Int) < (N.bn:Int):=by omega
    have hMk:M.bn≤16777216:=by omega
    have vv:Below wr.heap.size wr wr.drew:=zr (Below.refl _ _);have uu:Below w.heap.size w wr.drew:=zc st.below vv;have kP:=za st.src vv;have x0:=(zd (za st.box vv)).1;clear hxx hba hMn;(go_wp2_with fail);refine wp_region_held_drew (S:=(fun W=>(zcc W w.heap.size 0 (.slice (some ⟨bb,off,none⟩) N.bn N.bc)∧zcc W w.heap.size 1 (.slice N.la N.ln N.lc)∧zcc W w.heap.size 2 (.slice N.sa N.sn N.sc))∧(zcc W bb (off+k*11) (.int .i64 x.B.id)∧zcc W bb (off+k*11+1) (.string x.B.name)∧zcc W bb (off+k*11+2) (.slice x.a x.n x.c)∧zcc W bb (off+k*11+3) (.slice x.fa x.fn x.fc)∧zcc W bb (off+k*11+4) (.slice x.ra x.rn x.rc)∧zcc W bb (off+k*11+5) (.slice x.oa x.on x.oc)∧zcc W bb (off+k*11+6) (.int .i64 x.B.ticks)∧zcc W bb (off+k*11+7) (.int .i64 x.B.parse)∧zcc W bb (off+k*11+8) (.int .i64 x.B.word)∧zcc W bb (off+k*11+9) (.int .i64 x.B.drops)∧zcc W bb (off+k*11+10) (.int .i64 x.B.vers)))) (by kernel_rfl) (⟨by have:=zd kP; rw [HBA.out] at this; exact this,zao HG.out uu HX.out⟩) (fun hHeld => ?_)
    repeat' first
    |
     with_reducible refine kLa ?_
     first
     |
      refine kLf 0 ?_;refine kK 0 ?_
     |
      refine kLf 2 ?_;refine kK 2 ?_
     |
      refine kLf 3 ?_;refine kK 3 ?_
     |
      refine kLf 4 ?_;refine kK 4 ?_
     |
      refine kLf 5 ?_;refine kK 5 ?_
     |
      refine kLf 6 ?_;refine kK 6 ?_
     |
      refine kLf 10 ?_;refine kK 10 ?_
     |
      refine kLp [1,7] ?_
     |
      refine kLp [7] ?_
     |
      refine kLp [8] ?_
     |
      refine kLp [9] ?_
     |
      refine kLp [11] ?_
     |
      refine kLp [1,8] ?_
     |
      refine kLp [1] ?_
     |
      refine wpAnyH_done (by kernel_rfl) ?_ _;have HST:=hide stN;clear hHeld how hgr hbL hoN kX uu x0 fz kY gn1 ow2 vv kP;go_wp2
      go_roundw
      case rel=>exact ⟨k+1,_,by omega,by go_num,HST.out,by show M.bn+1=k+1; rw [HMN.out],by rw [List.map_append,HM.out,List.take_add_one,HX.out,List.map_append]; rfl,HLS.out⟩
      case measure=>simp [intOf]; omega
    |
     exact AllReadyH.nil
    |
     refine kLc 1 (fun K hK => ?_) ?_;go_simp;refine kO hK (⟨by have:=zd kP; rw [HBA.out] at this; exact this,zao HG.out uu HX.out⟩) fun hHeld => ?_
     clear hK K
    |
     refine kLc 7 (fun K hK => ?_) ?_;go_simp;refine (zby x.a x.n x.c x.fa x.fn x.fc x.ra x.rn x.rc x.oa x.on x.oc x.B _ (hx.below (zc st.below vv)) (by omega) (by omega) (by omega) (by omega)).mono ?_;rintro e wz ⟨a2,c2,fa2,fc2,ra2,rc2,oa2,oc2,rfl,ow2,hbz⟩;have ow2:=BrOwn.lt ow2 (base':=wr.heap.size) vv.size;have vv:=zc vv hbz;have uu:=zc st.below vv;have kP:=za st.src vv;have x0:=(zd (za st.box vv)).1;(go_wp2_with fail);refine kO hK (⟨by have:=zd kP; rw [HBA.out] at this; exact this,zao HG.out uu HX.out⟩) fun hHeld => ?_
     clear hK K
    |
     refine kLc 8 (fun K hK => ?_) ?_;go_simp
     first
     | refine zaj (K:=K _) (fun wx kY hbx => ?_)
     | refine zab (K:=K _) (fun wx kY hbx => ?_)
     have ow2:=BrOwn.below ow2 hbx;have vv:=zc vv hbx;have uu:=zc st.below vv;have kP:=za st.src vv;have x0:=(zd (za st.box vv)).1;clear hbx;refine kO hK (⟨by have:=zd kP; rw [HBA.out] at this; exact this,zao HG.out uu HX.out⟩) fun hHeld => ?_
     clear hK K
    |
     refine kLc 9 (fun K hK => ?_) ?_;have gn1:GRow brF wx (some ⟨_,0,none⟩) 1 1 [(⟨a2,x.n,c2,fa2,x.fn,fc2,ra2,x.rn,rc2,oa2,x.on,oc2,x.B⟩:BV)]:=zD (F:=brF) (zd0 brF (base:=0) (l:=[(⟨a2,x.n,c2,fa2,x.fn,fc2,ra2,x.rn,rc2,oa2,x.on,oc2,x.B⟩:BV)]) kY rfl (Nat.zero_le _) (by simp));have hoN:=st.own.b.below vv;refine zI (F:=brF) rfl _ _ 28 61 rfl (w.heap.size+2) Tryz.underlying28 zjc rfl (by decide) _ M.bn M.bs rfl hoN.row _ 1 1 _ rfl gn1 (by omega) (Nat.le_trans st.size vv.size) ?_;intro aL cL wL how _ hgr hbL;obtain ⟨kX,uu,stN⟩:=st.push (y:=(⟨a2,x.n,c2,fa2,x.fn,fc2,ra2,x.rn,rc2,oa2,x.on,oc2,x.B⟩:BV)) vv ow2 hgr how;have kP:wL.heap[w.heap.size]? = some (.cells #[.slice N.ba N.bn N.bc,.slice N.la N.ln N.lc,.slice N.sa N.sn N.sc] 31):=HKP.out st vv hgr;have x0:=(zd kX).1;have fz:=zi kX 0;refine kO hK (⟨by have:=zd kP; rw [HBA.out] at this; exact this,zao HG.out uu HX.out⟩) fun hHeld => ?_
     clear hK K
    |
     refine kLc 11 (fun K hK => ?_) ?_;go_simp;have uu:=stN.below;have kP:=stN.src;refine kO hK (⟨by have:=zd kP; rw [HBA.out] at this; exact this,zao HG.out uu HX.out⟩) fun hHeld => ?_
     clear hK K
   ·have hkn:k=N.bn:=by omega
    have hlen:N.bs.length=N.bn:=h.b.size;have HM2:Hid (M.bs.map BV.B=N.bs.map BV.B):=hide (by rw [HM.out,List.take_of_length_le (by omega)]);obtain ⟨r0,r1,r2⟩:=zd st.res;obtain ⟨x0,x1,x2⟩:=zd st.box;have f0:=zi st.res 0;have f1:=zi st.res 1;have f2:=zi st.res 2;have ne1:¬w.heap.size+1=X:=by have:=st.lt; omega
    have ne2:¬X=w.heap.size+1:=by have:=st.lt; omega
    have HO:=hide ((st.own.boxed st.res (zM (zM (zm (rb:=w.heap.size+1) 0 (.slice M.ba M.bn M.bc)) (zm 1 (.slice M.la M.ln M.lc))) (zm 2 (.slice M.sa M.sn M.sc)))).lt (base':=w.heap.size) (by omega));have HB:=hide (zj (zj (zj st.below (g:=w.heap.size+1) (by omega) 0 (.slice M.ba M.bn M.bc)) (g:=w.heap.size+1) (by omega) 1 (.slice M.la M.ln M.lc)) (g:=w.heap.size+1) (by omega) 2 (.slice M.sa M.sn M.sc));have hRv:=HRR.out;subst hRv;clear st hMn;go_wp2;exact bodyPost_ret (v:=.agg #[.slice M.ba M.bn M.bc,.slice M.la M.ln M.lc,.slice M.sa M.sn M.sc]) (by simp [results,Tryz.results109,go_sem, *]) rfl ⟨M,rfl,HO.out,⟨HM2.out,HLS.out.1,HLS.out.2⟩,HB.out⟩

theorem zeQ (M:NV) (base X k:Nat) (up:Bool) (w:World) (h:NbSt w base X M) (hu:zaw M.brs M.ls (k:Int)=up) :
  Calls Tryz.prog 113 #[.pointer (some ⟨X,0,none⟩),.int .i64 (k:Int),.bool up] w fun e w'=>e=.returned (.tuple #[])∧NbSt w' base X M∧Below base w w':=by
 obtain ⟨x0,x1,x2⟩:=zd h.box;go_enter Tryz.func113,Tryz.ntmps113;go_wp2_with fail
 refine (za8 M (k:Int) _ h.own.row).mono ?_;rintro e w1 ⟨rfl,b01⟩;rw [hu];have HST:=hide (h.later b01);have HB:=hide (b01.mono h.size);clear h b01 x0 x1 x2 hu;cases up <;> go_wp2 <;> exact bodyPost_ret (v:=.tuple #[]) (by simp [results,Tryz.results113,go_sem, *]) rfl ⟨rfl,HST.out,HB.out⟩

theorem zeR (M:NV) (base X k i j:Nat) (x:LK) (y z:BV) (up:Bool) (w:World) (h:NbSt w base X M) (hu:zaw M.brs M.ls (k:Int)≠up) (hx:M.ls[k]? = some x) (hy0:M.bs[i]? = some y) (hz0:M.bs[j]? = some z) (hi:x.a=(i:Int)) (hj:x.b=(j:Int)) (hne:i≠j) (hsm:y.Small20) (hsm2:z.Small20) :
  Calls Tryz.prog 113 #[.pointer (some ⟨X,0,none⟩),.int .i64 (k:Int),.bool up] w fun e w'=>e=.returned (.tuple #[])∧∃y2 z2:BV,y2.B=linkB y.B x.p up∧z2.B=linkB z.B x.q up∧NbSt w' base X { M with bs:=(M.bs.set i y2).set j z2 }∧Below base w w':=by
 obtain ⟨ba,bn,bc,bs,la,ln,lc,ls,sa,sn,sc,ss⟩:=M;obtain ⟨xa,xp,xb,xq⟩:=x;generalize hU:zaw _ _ _=U at hu;dsimp only at hx hy0 hz0 hi hj ⊢;subst hi hj;have hk:k < ln:=by have h1:=(List.getElem?_eq_some_iff.1 hx).1; have h2:ls.length=ln:=h.own.row.l.size; omega
 have hib:i < bn:=by have h1:=(List.getElem?_eq_some_iff.1 hy0).1; have h2:bs.length=bn:=h.own.b.grow.size; omega
 have hjb:j < bn:=by have h1:=(List.getElem?_eq_some_iff.1 hz0).1; have h2:bs.length=bn:=h.own.b.grow.size; omega
 obtain ⟨g,hg⟩:∃g,ba=some ⟨g,0,none⟩:=zbO h.own.b.row (show 0 < bn by omega);subst hg;obtain ⟨pre,post,hsp,hpl,hset⟩:=zc7 hy0;have HSET:=hide hset;have HPL:=hide hpl;have HNE:=hide hne;subst hsp;have HG:Hid (g < w.heap.size):=hide (h.own.b.row.lt g rfl).2;have HAT:Hid ((pre++y::post)[i]? = some y):=hide hy0;have HZ:Hid ((pre++y::post)[j]? = some z):=hide hz0;have HSM:=hide hsm;have HSM2:=hide hsm2;clear hset hpl hy0 hz0 hsm hsm2;have i1:(0:Int)≤(k:Int):=by omega
 have i2:(k:Int) < (ln:Int):=by omega
 have i3:(0:Int)≤(i:Int):=by omega
 have i4:(i:Int) < (bn:Int):=by omega
 have i5:(0:Int)≤(j:Int):=by omega
 have i6:(j:Int) < (bn:Int):=by omega
 clear hib hjb hne;obtain ⟨x0,x1,x2⟩:=zd h.box;go_enter Tryz.func113,Tryz.ntmps113;go_wp2_with fail
 refine (za8 _ (k:Int) _ h.own.row).mono ?_;rintro e w1 ⟨rfl,b01⟩;rw [hU];have HZ1:Hid (w.heap.size≤w1.heap.size):=hide b01.size;have HB0:=hide (b01.mono h.size);have st:=h.later b01;clear h b01 x0 x1 x2 hU;obtain ⟨x',lb,lo,hx',hla,a0,a1,a2,a3⟩:=zaX st.own.row.l k hk;dsimp only at hx' hla;rw [hx] at hx';cases hx';subst hla;obtain ⟨x0,x1,x2⟩:=zd st.box;clear hx hk;dsimp only at a0 a1 a2 a3 x0 x1 x2;have hq:(U == up)=false:=by cases U <;> cases up <;> simp_all
 go_upto_region 2 with fail
 generalize hw2:w1.alloc (Obj.cells #[.int .i64 (i:Int),.int .i64 xp,.int .i64 (j:Int),.int .i64 xq] 44)=w2;have b12:=zb hw2;have kL:=zk hw2;have HB2:=hide (HB0.out.trans (b12.mono st.size));have st:=st.later b12;have vv:Below w2.heap.size w2 w2.drew:=zr (Below.refl _ _);have kX:=za st.box vv;have kL:=za kL vv;have hyr:=(st.own.b.item y (by simp)).row;obtain ⟨⟨ca0,ca1,ca2,ca3,ca4,ca5,ca6,ca7,ca8,ca9,ca10⟩,-⟩:=zaf (st.own.b.below vv).row HAT.out;clear hw2 b12 x0 x1 x2 a0 a1 a2 a3 HB0;refine wp_region_held_drew (S:=(fun W=>(zcc W X 0 (.slice (some ⟨g,0,none⟩) bn bc)∧zcc W X 1 (.slice (some ⟨lb,lo,none⟩) ln lc)∧zcc W X 2 (.slice sa sn sc))∧(zcc W w1.heap.size 0 (.int .i64 (i:Int))∧zcc W w1.heap.size 1 (.int .i64 xp)∧zcc W w1.heap.size 2 (.int .i64 (j:Int))∧zcc W w1.heap.size 3 (.int .i64 xq)))) (by kernel_rfl) (⟨zd kX,zO kL⟩) (fun hHeld => ?_);refine kK 0 ?_;refine kK 1 ?_;refine kK 2 ?_;refine kK 3 ?_;refine kK 4 ?_;refine kK 5 ?_;refine kK 6 ?_;refine kK 7 ?_;refine kK 8 ?_;refine kK 9 ?_;refine kK 10 ?_;refine kK 11 ?_;refine kK 12 ?_;refine kK 14 ?_;refine kK 15 ?_;refine kK 16 ?_;refine kR 13 fun K hK => ?_
 go_simp;refine kO hK (⟨zd kX,zO kL⟩) fun hHeld => ?_
 clear hK K;refine kR 17 fun K hK => ?_
 go_simp;refine (zcx y.a y.n y.c y.fa y.fn y.fc y.ra y.rn y.rc y.oa y.on y.oc y.B xp up _ ((hyr).below vv) HSM.out.1 HSM.out.2.1 HSM.out.2.2.1 HSM.out.2.2.2).mono ?_;rintro e wz ⟨a2,n2,c2,fa2,fn2,fc2,ra2,rn2,rc2,oa2,on2,oc2,rfl,ow2,hbz⟩;have ow2:=BrOwn.lt ow2 (base':=w2.heap.size) vv.size;have vv:=zc vv hbz;have kX:=za st.box vv;have kL:=za kL hbz;have hrow:=(st.own.b.below vv).row;obtain ⟨⟨t0,t1,t2,t3,t4,t5,t6,t7,t8,t9,t10⟩,f0,f1,f2,f3,f4,f5,f6,f7,f8,f9,f10⟩:=zaf hrow HAT.out;go_wp2_with fail
 refine kO hK (⟨zd kX,zO kL⟩) fun hHeld => ?_
 clear hK K;refine kK 18 ?_;refine kR 19 fun K hK => ?_
 go_simp;refine zaU (⟨a2,n2,c2,fa2,fn2,fc2,ra2,rn2,rc2,oa2,on2,oc2,(linkB y.B xp up)⟩:BV) HPL.out (K:=K _) hrow (fun wq2 hq hgq => ?_);have stN:=st.put (y:=(⟨a2,n2,c2,fa2,fn2,fc2,ra2,rn2,rc2,oa2,on2,oc2,(linkB y.B xp up)⟩:BV)) rfl rfl vv ow2 hgq hq;have kX:=stN.1.box;have kL:=ze kL hgq (by intro j e; cases e; have:=HG.out; have:=HZ1.out; omega);refine kO hK (⟨zd kX,zO kL⟩) fun hHeld => ?_
 clear hK K;refine wpAnyH_done (by kernel_rfl) ?_ _;obtain ⟨y2,hy2,st2,hB2⟩:∃y2:BV,y2.B=linkB y.B xp up∧NbSt wq2 base X ⟨some ⟨g,0,none⟩,bn,bc,pre++y2::post,some ⟨lb,lo,none⟩,ln,lc,ls,sa,sn,sc,ss⟩∧Below base w2 wq2:=⟨(⟨a2,n2,c2,fa2,fn2,fc2,ra2,rn2,rc2,oa2,on2,oc2,(linkB y.B xp up)⟩:BV),rfl,stN.1,stN.2⟩;have HY2:=hide hy2;have HB3:=hide (HB2.out.trans hB2);have hz2:(pre++y2::post)[j]? = some z:=by
  rw [← HSET.out y2,List.getElem?_set_ne HNE.out];exact HZ.out
 obtain ⟨pre2,post2,hsp2,hpl2,hset2⟩:=zc7 hz2;have HSET2:=hide hset2;have HPL2:=hide hpl2;have HAT2:Hid ((pre2++z::post2)[j]? = some z):=hide (by rw [← hsp2]; exact hz2);rw [hsp2] at st2;have vv2:Below wq2.heap.size wq2 wq2.drew:=zr (Below.refl _ _);have kX2:=za st2.box vv2;have kL2:=za kL vv2;have hyr2:=(st2.own.b.item z (by simp)).row;have hrow2:=(st2.own.b.below vv2).row;clear hHeld kX kL hq hgq hrow ow2 vv stN st hyr hy2 hB2 hz2 hset2 hpl2 hsp2 hbz;clear t0 t1 t2 t3 t4 t5 t6 t7 t8 t9 t10 ca0 ca1 ca2 ca3 ca4 ca5 ca6 ca7 ca8 ca9 ca10 f0 f1 f2 f3 f4 f5 f6 f7 f8 f9 f10;obtain ⟨⟨cb0,cb1,cb2,cb3,cb4,cb5,cb6,cb7,cb8,cb9,cb10⟩,-⟩:=zaf hrow2 HAT2.out;clear hrow2;have st:=st2;have vv:=vv2;have kX:=kX2;have kL:=kL2;have hyr:=hyr2;clear st2 vv2 kX2 kL2 hyr2;go_upto_region 3 with fail
 refine wp_region_held_drew (S:=(fun W=>(zcc W X 0 (.slice (some ⟨g,0,none⟩) bn bc)∧zcc W X 1 (.slice (some ⟨lb,lo,none⟩) ln lc)∧zcc W X 2 (.slice sa sn sc))∧(zcc W w1.heap.size 0 (.int .i64 (i:Int))∧zcc W w1.heap.size 1 (.int .i64 xp)∧zcc W w1.heap.size 2 (.int .i64 (j:Int))∧zcc W w1.heap.size 3 (.int .i64 xq)))) (by kernel_rfl) (⟨zd kX,zO kL⟩) (fun hHeld => ?_);refine kK 0 ?_;refine kK 1 ?_;refine kK 2 ?_;refine kK 3 ?_;refine kK 4 ?_;refine kK 5 ?_;refine kK 6 ?_;refine kK 7 ?_;refine kK 8 ?_;refine kK 9 ?_;refine kK 10 ?_;refine kK 11 ?_;refine kK 12 ?_;refine kK 14 ?_;refine kK 15 ?_;refine kK 16 ?_;refine kR 13 fun K hK => ?_
 go_simp;refine kO hK (⟨zd kX,zO kL⟩) fun hHeld => ?_
 clear hK K;refine kR 17 fun K hK => ?_
 go_simp;refine (zcx z.a z.n z.c z.fa z.fn z.fc z.ra z.rn z.rc z.oa z.on z.oc z.B xq up _ ((hyr).below vv) HSM2.out.1 HSM2.out.2.1 HSM2.out.2.2.1 HSM2.out.2.2.2).mono ?_;rintro e wz ⟨a2,n2,c2,fa2,fn2,fc2,ra2,rn2,rc2,oa2,on2,oc2,rfl,ow2,hbz⟩;have ow2:=BrOwn.lt ow2 (base':=wq2.heap.size) vv.size;have vv:=zc vv hbz;have kX:=za st.box vv;have kL:=za kL hbz;have hrow:=(st.own.b.below vv).row;obtain ⟨⟨t0,t1,t2,t3,t4,t5,t6,t7,t8,t9,t10⟩,f0,f1,f2,f3,f4,f5,f6,f7,f8,f9,f10⟩:=zaf hrow HAT2.out;go_wp2_with fail
 refine kO hK (⟨zd kX,zO kL⟩) fun hHeld => ?_
 clear hK K;refine kK 18 ?_;refine kR 19 fun K hK => ?_
 go_simp;refine zaU (⟨a2,n2,c2,fa2,fn2,fc2,ra2,rn2,rc2,oa2,on2,oc2,(linkB z.B xq up)⟩:BV) HPL2.out (K:=K _) hrow (fun wq3 hq hgq => ?_);have stN:=st.put (y:=(⟨a2,n2,c2,fa2,fn2,fc2,ra2,rn2,rc2,oa2,on2,oc2,(linkB z.B xq up)⟩:BV)) rfl rfl vv ow2 hgq hq;have kX:=stN.1.box;have kL:=ze kL hgq (by intro j e; cases e; have:=HG.out; have:=HZ1.out; omega);refine kO hK (⟨zd kX,zO kL⟩) fun hHeld => ?_
 clear hK K;refine wpAnyH_done (by kernel_rfl) ?_ _;have HST2:=hide stN;clear hHeld kX kL hq hgq hrow ow2 vv stN;go_wp2;refine bodyPost_end (v:=.tuple #[]) (by simp [results,Tryz.results113,go_sem, *]) rfl ?_;refine ⟨rfl,y2,HY2.out,(⟨a2,n2,c2,fa2,fn2,fc2,ra2,rn2,rc2,oa2,on2,oc2,(linkB z.B xq up)⟩:BV),rfl, ?_,HB3.out.trans HST2.out.2⟩;rw [HSET.out,HSET2.out];exact HST2.out.1

end Go.Proofs.YtkcoehmpnkdinaaGreat
