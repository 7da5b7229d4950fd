/-
  FnNexts answers true at all codes: the next of a drawn name is the first of a bridge's things that is behind it, and is worth what it is; where none is behind, the name itself and the end.
-/
import Derived.Test.YtcpdkcdfnpcemaaGreatPHK26
import Derived.ProofKit
import Derived.OpenShut
import Derived.ShutString
import Derived.ChangeOld
namespace Go.Proofs.YtcpdkcdfnpcemaaGreat
set_option maxRecDepth 100000
set_option maxHeartbeats 16000000
open Go.RowKit

theorem zh5 {B:BR} (h:zH B=true):5≤(zaf B).length:=by
 unfold zaf;rw [if_pos h];unfold zbS zam;simp only [List.length_append,List.length_cons,List.length_nil];omega

theorem zgy (a0:Option Addr) (l0 c0:Nat) (z0:List Int) (w:World) (h0:Row w a0 l0 c0 z0) :
  Calls Tryz.prog 3 #[.slice a0 l0 c0] w fun e w'=>e=.returned (.bool true)∧Below w.heap.size w w':=by
 by_cases hbig:1048576 < l0
 ·have hi:(1048576:Int) < (l0:Int):=by omega
  have hb1:Calls Tryz.prog 9 #[.slice a0 l0 c0] w fun e w'=>e=.returned (.bool true)∧w'=w:=by
   go_enter Tryz.func9,Tryz.ntmps9;go_wp2;go_ret;exact ⟨rfl,rfl⟩
  go_enter Tryz.func3,Tryz.ntmps3;(go_wp2_with fail);refine hb1.mono ?_;rintro e w1 ⟨rfl,e1⟩;obtain rfl:=e1.symm;go_wp2;go_ret;exact ⟨rfl,Below.refl _ _⟩
 have hs:l0≤1048576:=by omega
 go_enter Tryz.func3,Tryz.ntmps3;go_wp2_with fail
 refine (ziR a0 l0 c0 _ hbig).mono ?_;rintro e w1 ⟨rfl,e1⟩;obtain rfl:=e1.symm;go_wp2_with fail
 refine (zea a0 l0 c0 z0 _ h0 hs).mono ?_;rintro e w2 ⟨m,a,c,fa,fn,fc,ra,rn,rc,oa,on,oc,B,no,nq,ncp,zs,rfl,oB,⟨din,h1,h4⟩,hq13,hzl,hzi,oO,hb2⟩;generalize hw3:w2.alloc (Obj.cells #[.int .i64 B.id,.string B.name,.slice a m c,.slice fa fn fc,.slice ra rn rc,.slice oa on oc,.int .i64 B.ticks,.int .i64 B.parse,.int .i64 B.word,.int .i64 B.drops,.int .i64 B.vers] 31)=w3;have b23:=zb hw3;have kB:=zk hw3;have oB:=oB.below b23;have rO:=(zQ oO hzi).below b23;have u3:=zd hb2 b23;go_upto_region 4 with fail
 try rw [hw3]
 generalize hBb:w2.heap.size=Bb at *;clear hw3 hb2 b23 hBb oO;obtain ⟨hn1,hn2,hn3,hn4⟩:=zgW din h4 oB.row;have HRV:Hid (∀r∈B.v.rows,r.Rng):=hide (fun r hr=>(din.v.rows r hr).1);have HBOK:=hide (zi1 din h1 h4);clear din h1 h4 hzi;obtain ⟨x0,x1,x2,x3,x4,x5,x6,x7,x8,x9,x10⟩:=zj kB;go_wp2_with fail
 refine (zcT a m c fa fn fc ra rn rc oa on oc B no nq ncp zs _ oB.row (by omega) HRV.out rO (by omega)).mono ?_;rintro e w4 ⟨na,nl,nc,nO,nK,nN,nS,rfl,hd,oX,hb4⟩;have HD:=hide hd;clear hd;go_upto_region 5 with fail
 generalize hw5:w4.alloc (Obj.cells #[.slice na nl nc,.int .i64 nK,.int .i64 nN,.string nS,.slice none 0 0] 37)=w5;have b45:=zb hw5;have kX:=zk hw5;have d:=zd hb4 b45;have oX:=oX.below b45;have kB:=ze kB d;have rO:=rO.below d;have oB:=oB.below d;have u5:=zd u3 d;clear hw5 b45 hb4 d u3 x0 x1 x2 x3 x4 x5 x6 x7 x8 x9 x10;generalize hXb:w4.heap.size=Xb at *;clear hXb;obtain ⟨x0,x1,x2,x3,x4,x5,x6,x7,x8,x9,x10⟩:=zj kB;go_wp2_with fail
 refine (zba a m c fa fn fc ra rn rc oa on oc B _ oB.row (by omega) HRV.out).mono ?_;rintro e w6 ⟨la,lc,l,rfl,hd,oL,hb6⟩;have HL:Hid (l.length≤100∧(zaf B).length=l.length):=hide (by have h1:=congrArg List.length hd; rw [List.length_map] at h1; rw [h1]; exact ⟨zdv B,rfl⟩);have HAT:Hid (∀(i:Nat) x,l[i]? = some x→(zaf B)[i]? = some x.d):=hide (fun i x hx=>by rw [← hd,List.getElem?_map,hx]; rfl);have HLIT:Hid (∀x∈l,LitB x.d):=hide (fun x hx=>zc7 hd hx);have HFIVE:=hide (zh5 HBOK.out);have kX:=ze kX hb6;have oX:=oX.below hb6;have rO:=rO.below hb6;have u6:=zd u5 hb6;clear hd hb6 u5 x0 x1 x2 x3 x4 x5 x6 x7 x8 x9 x10 kB oB;go_wp2_with fail
 go_loopw [7] (fun vk wr=>∃(k:Nat),vk=.int .i64 (k:Int)∧k≤l.length∧(∀(i:Nat) y,i < k→(zaf B)[i]? = some y→lessL zs y.o=false)∧Below w6.heap.size w6 wr) (fun vk _=>102 - (intOf vk).toNat)
 case atStart=>exact ⟨0,rfl,Nat.zero_le _,(by intro i y hi; omega),Below.refl _ _⟩
 case round =>
  obtain ⟨k,rfl,hk,hno,hb⟩:=hrel;have hl100:=HL.out.1;have HNO:=hide hno;have HB0:=hide hb;by_cases hkl:k < l.length
  ·have hkl':(k:Int) < (l.length:Int):=by omega
   have hk100:(k:Int)≤100:=by omega
   have hlc:=oL.brow.le;obtain ⟨x,xb,off,hx,hla,hat,hin⟩:=(oL.brow.below hb).at k hkl;subst hla;have HX:=hide (HAT.out k x hx);have HM:=hide (List.mem_of_getElem? hx);have HATK:=hide hat;obtain ⟨a0,a1,a2,a3,a4⟩:=hat;clear hx hno hb;(go_wp2_with fail);refine (zcK no nq ncp zs _ _ _ x.o _ (rO.below HB0.out) hin.o).mono ?_;rintro e w7 ⟨rfl,e7⟩;obtain rfl:=e7.symm;cases hq:lessL zs x.o
   ·have HNO2:=hide (zeG (p:=fun d:BD=>lessL zs d.o) HNO.out HX.out hq);clear hq a0 a1 a2 a3 a4;go_wp2
    go_roundw
    case rel=>exact ⟨k+1,by go_num,by omega,HNO2.out,HB0.out⟩
    case measure=>simp [intOf]; omega
   ·have HG:=hide (HD.out.trans (zeU HNO.out HX.out hq));clear hq a0 a1 a2 a3 a4;have hXO:=zQ (zaY oX.o HB0.out) oX.ob;have hg:=HG.out;unfold BI.d at hg;simp only [BD.mk.injEq] at hg;obtain ⟨rfl,rfl,rfl,rfl,hz⟩:=hg;have HXZ:Hid (x.z=[]):=hide hz.symm;clear hz HG HD;have kX:=ze kX HB0.out;have vv:Below wr.heap.size wr wr.drew:=zv (Below.refl _ _);(go_upto_region 10 with fail);refine wp_region_held_drew (S:=(fun W=>(zcc W Xb 0 (.slice na nl nc)∧zcc W Xb 1 (.int .i64 x.K)∧zcc W Xb 2 (.int .i64 x.N)∧zcc W Xb 3 (.string x.S)∧zcc W Xb 4 (.slice none 0 0))∧(zcc W xb (off+k*5) (.slice x.oa x.on x.oc)∧zcc W xb (off+k*5+1) (.int .i64 x.K)∧zcc W xb (off+k*5+2) (.int .i64 x.N)∧zcc W xb (off+k*5+3) (.string x.S)∧zcc W xb (off+k*5+4) (.slice x.za x.zn x.zc)))) (by kernel_rfl) (⟨(zo (ze kX vv)).1,HATK.out.below vv⟩) (fun hHeld => ?_);refine kK 0 ?_;refine kK 1 ?_;refine kK 2 ?_;refine kK 3 ?_;refine kK 4 ?_;refine kK 5 ?_;refine kK 6 ?_;refine kR 7 fun K hK => ?_
    go_simp;clear hHeld;refine (zcL na nl nc x.o _ _ _ x.o _ (hXO.below vv) (hin.o.below vv)).mono ?_;rintro e w9 ⟨rfl,nd,e9⟩;rw [show decide (x.o=x.o)=true from decide_eq_true rfl];have vv:Below wr.heap.size wr w9:=by rw [e9]; exact zaj vv nd
    clear e9;(go_wp2_with fail);refine kO hK (⟨(zo (ze kX vv)).1,HATK.out.below vv⟩) fun hHeld => ?_
    clear hK K;refine kV 8 (.bool true) ?_;refine kK 9 ?_;refine kK 10 ?_;refine kK 11 ?_;refine kK 12 ?_;refine kK 13 ?_;refine kK 14 ?_;refine kK 15 ?_;refine kR 16 fun K hK => ?_
    go_simp;clear hHeld;refine (zdk x.K x.N x.S none 0 0 [] x.K x.N x.S _ _ _ x.z _ (zf3 _) (hin.z.below vv)).mono ?_;rw [HXZ.out,zd4];rintro e w9b ⟨rfl,h9⟩;have vv:=zd vv h9;clear h9;(go_wp2_with fail);refine kO hK (⟨(zo (ze kX vv)).1,HATK.out.below vv⟩) fun hHeld => ?_
    clear hK K;refine kK 17 ?_;refine kK 18 ?_;refine wpAnyH_done (by kernel_rfl) ?_ _;clear hHeld;have HB:=hide (zd u6 (zd HB0.out vv));clear vv kX;go_wp2;go_ret;exact ⟨rfl,HB.out⟩
  ·have hkl':¬(k:Int) < (l.length:Int):=by omega
   have hke:k=l.length:=by omega
   have hl5:=HFIVE.out;have hl6:=HL.out.2;have hll:(0:Int) < (l.length:Int):=by omega
   have HG:=hide (HD.out.trans (zeV (fun i y hi hy=>HNO.out i y (by omega) hy)));have hg:=HG.out;simp only [BD.mk.injEq] at hg;obtain ⟨rfl,rfl,rfl,rfl,-⟩:=hg;clear HG HD hno hke hl5 hl6;have kX:=ze kX hb;have hXO:=zQ (zaY oX.o hb) oX.ob;obtain ⟨⟨q0,q1,q2,q3,q4⟩,-⟩:=zo kX;(go_wp2_with fail);refine (zcL na nl nc nO no nq ncp nO _ hXO (rO.below hb)).mono ?_;rintro e w8 ⟨rfl,nd,e8⟩;rw [show decide (nO=nO)=true from decide_eq_true rfl];have HB:=hide (zd u6 (zd hb (show Below wr.heap.size wr w8 from by rw [e8]; exact zaj (Below.refl _ _) nd)));clear e8 q0 q1 q2 q3 q4;go_wp2;go_ret;exact ⟨zw (decide_eq_true (show 0 < l.length by omega)),HB.out⟩

theorem fnNexts_own:ownKnob Tryz.prog.godebug=none:=by kernel_rfl
theorem fnNexts_laid:laidOutB Tryz.prog=true:=by kernel_rfl

open Go.ChangeShapes Go.WideShapes Go.ChangeAt in
open Go.ChangeMaps (open_string shut_string) in
theorem fnNexts_lifted (os:Os) (started:os.Started) (H:Type) (enc:TypeId × Value→H) :
  ReturnsInHanded {} Tryz.checked os 3 .any (Rows.fnNextsSpec.pre6 enc Tryz.prog Tryz.f3 Rows.fnNextsRow.domain false) (Rows.fnNextsSpec.post enc Tryz.prog Tryz.f3 false true false false):=by
 refine returnsInHanded_of_change (C:=Tryz.checked) fnNexts_own started (by kernel_rfl) Tryz.func3
  (ChangeSpec.witness6 (enc:=enc) (C:=Tryz.checked) false ⟨#[],#[.slice none 0 0],[]⟩ 8 (by kernel_rfl) (by kernel_rfl) (by kernel_rfl) (by kernel_rfl)) ?_
 intro W base args ds gs before hval0 hW hcnd _;have hval:∀(j:Nat) t v,Tryz.f3.params[j]? = some t→args[j]? = some v→Value.okWide Tryz.prog W .any base t v:=hval0;have hW':=hW;obtain ⟨p,q,hA0,hV,rfl,hfz,hnd⟩:=hW;have hA:DataW.TrodAll enc Tryz.prog W 0 (fun _=>true) true Tryz.f3.params.toList args.toList ds p:=hA0;rw [Tryz.params3] at hA hval;obtain ⟨v0,vs0,d0,ds0,p0,q0,hargs,rfl,rfl,h0,r0⟩:=trodAll_cons hA;obtain ⟨rfl,rfl,rfl⟩:=trodAll_nil r0;obtain rfl:args=#[v0]:=by cases args; simp_all
 obtain ⟨rfl,rfl⟩:=trodVars_none hV;obtain ⟨a0,len0,cap0,rfl⟩:=okWide_slice Tryz.underlying22 (hval 0 22 v0 rfl rfl);have k0:=h0;have lt0:∀x∈p0,x.block < W.heap.size:=by obtain ⟨m,hm⟩:=k0; exact DataW.trod_lt m _ _ _ hm
 obtain ⟨z0,w0⟩:∃zs,Row W a0 len0 cap0 zs:=by
  obtain ⟨fuel,hf⟩:=h0;rcases open_ints Tryz.underlying22 Tryz.underlying5 (by kernel_rfl) hf with ⟨hcs,_⟩ | ⟨x,l,c,zs,hcs,_,hl,hm,hz,_,hcell,hwz⟩
  ·simp [Value.cells] at hcs
   obtain ⟨rfl,rfl,rfl⟩:=hcs;exact ⟨[],ziN W⟩
  ·simp [Value.cells] at hcs
   obtain ⟨rfl,rfl,rfl⟩:=hcs;exact ⟨zs.take len0,zil hl hm (by simpa using hz) hcell hwz⟩
 clear hA0 hval0;refine (zgy a0 len0 cap0 z0 W w0).mono fun e W' ⟨he,bel⟩ => ?_
 subst he;exact ⟨_,rfl,_,_,_,[],_,[],hW',trodAll_mk1 (shut_bool Tryz.underlying4 _),(trodAll_cons_mk (Below.trod fnNexts_laid (by kernel_rfl) (of_decide_eq_true (by kernel_rfl)) k0 bel lt0) trodAll_mk0),rfl,bel.frame _,fun h=>by cases h⟩

theorem fnNexts_holds:Rows.FnNextsSaid :=
 OpenClaim.holds_of_wide 3 Tryz.f3 rfl rfl rfl rfl rfl rfl rfl ⟨rfl,rfl,rfl,rfl,rfl⟩ rfl rfl rfl rfl rfl (by kernel_rfl) Tryz.func3 (by kernel_rfl)
  (of_decide_eq_true (by kernel_rfl)) (by unfold Func.isWrapper; first | (rw [if_pos (by decide +kernel)]; kernel_rfl) | (rw [if_neg (by decide +kernel)]; exact ⟨rfl,rfl⟩))
  (fun os started H enc _=>fnNexts_lifted os started H enc)

#print axioms fnNexts_holds

end Go.Proofs.YtcpdkcdfnpcemaaGreat
