/-
  FnReadOnly answers true at all codes: what can't be changed is refused, and so is what is not there; nothing changes.
-/
import Derived.Test.YtcpdkcdfnpcemaaGreatPRBrSameI
import Derived.Test.YtcpdkcdfnpcemaaGreatPRK28
import Derived.Test.YtcpdkcdfnpcemaaGreatPRK29
import Derived.ProofKit
import Derived.OpenShut
import Derived.ShutString
import Derived.ChangeOld
namespace Go.Proofs.YtcpdkcdfnpcemaaGreat
set_option maxRecDepth 100000
set_option maxHeartbeats 16000000
open Go.RowKit

theorem ziz {B:BR} {z:List Int} (h:zG B=true):∃cd:Int,zaR B ⟨z,5,0,⟨#[]⟩,[]⟩=(B,cd)∧((cd=4∧(zbW (zal B) z).K≠128)∨(cd=3∧(zbW (zal B) z).K=128)∨cd=1):=by
 have hl:zal B=zaU B:=by unfold zal; rw [if_pos h]
 have e1:zaR B ⟨z,5,0,⟨#[]⟩,[]⟩=zbr B ⟨z,5,0,⟨#[]⟩,[]⟩:=by unfold zaR; rw [if_pos h]
 rw [e1,hl];unfold zbr;cases hk:zaw B z with
 | some kd =>
  refine ⟨1, ?_,.inr (.inr rfl)⟩
  show (if (5:Int)=kindN kd then (if zbK B 0 ⟨#[]⟩ kd=true then (putK B 0 ⟨#[]⟩ kd,(0:Int)) else (B,2)) else (B,1))=(B,1)
  rw [if_neg (by cases kd <;> simp [kindN])]
 | none =>
  have hs:=zfn (ziU h) hk;refine ⟨if seenB B z=true then 4 else 3,rfl, ?_⟩;cases hq:seenB B z
  ·refine .inr (.inl ⟨rfl, ?_⟩);have hno:∀d∈zaU B,d.o≠z:=by
    intro d hd e
    have:=hs.1 ⟨d,hd,e⟩
    rw [hq] at this;cases this
   rw [zf0 (fun i y hi hy=>decide_eq_false (hno y (List.mem_of_getElem? hy)))]
  ·refine .inl ⟨rfl, ?_⟩;obtain ⟨d,hd,e⟩:=hs.2 hq;unfold zbW;have hf:((zaU B).find? (fun d=>decide (d.o=z))).isSome=true:=by
    rw [List.find?_isSome];exact ⟨d,hd,decide_eq_true e⟩
   obtain ⟨d2,hd2⟩:=Option.isSome_iff_exists.1 hf;rw [hd2];have hlit:=zhi h d2 (List.mem_of_find?_eq_some hd2)
   show d2.K≠128
   rcases hlit.k with e2 | e2 <;> omega

theorem zez (a0:Option Addr) (l0 c0:Nat) (z0:List Int) (w:World) (h0:Row w a0 l0 c0 z0) :
  Calls Tryz.prog 6 #[.slice a0 l0 c0] w fun e w'=>e=.returned (.bool true)∧Below w.heap.size w w':=by
 by_cases hbig:1048576 < l0
 ·have hi:(1048576:Int) < (l0:Int):=by omega
  have hb1:Calls Tryz.prog 9 #[.slice a0 l0 c0] w fun e w'=>e=.returned (.bool true)∧w'=w:=by
   go_enter Tryz.func9,Tryz.ntmps9;go_wp2;go_ret;exact ⟨rfl,rfl⟩
  go_enter Tryz.func6,Tryz.ntmps6;(go_wp2_with fail);refine hb1.mono ?_;rintro e w1 ⟨rfl,e1⟩;obtain rfl:=e1.symm;go_wp2;go_ret;exact ⟨rfl,Below.refl _ _⟩
 have hs:l0≤1048576:=by omega
 go_enter Tryz.func6,Tryz.ntmps6;go_wp2_with fail
 refine (zjg a0 l0 c0 _ hbig).mono ?_;rintro e w1 ⟨rfl,e1⟩;obtain rfl:=e1.symm;go_wp2_with fail
 refine (zeo a0 l0 c0 z0 _ h0 hs).mono ?_;rintro e w2 ⟨m,a,c,fa,fn,fc,ra,rn,rc,oa,on,oc,B,no,nq,ncp,zs,rfl,oB,⟨din,h1,h4⟩,hq13,hzl,hzi,oO,hb2⟩;generalize hw3:w2.alloc (Obj.cells #[.int .i64 B.id,.string B.name,.slice a m c,.slice fa fn fc,.slice ra rn rc,.slice oa on oc,.int .i64 B.ticks,.int .i64 B.parse,.int .i64 B.word,.int .i64 B.drops,.int .i64 B.vers] 31)=w3;have b23:=zb hw3;have kB:=zk hw3;have oB:=oB.below b23;have rO:=(zV oO hzi).below b23;have u3:=zd hb2 b23;go_upto_region 4 with fail
 try rw [hw3]
 generalize hBb:w2.heap.size=Bb at *;clear hw3 hb2 b23 hBb oO;obtain ⟨hn1,hn2,hn3,hn4⟩:=zg5 din h4 oB.row;have HRV:Hid (∀r∈B.v.rows,r.Rng):=hide (fun r hr=>(din.v.rows r hr).1);have hbok:=zjm din h1 h4;obtain ⟨cd,hset,hcases⟩:=ziz (z:=zs) hbok;have HCS:=hide hcases;have hcall:=fun W (hW:Below w3.heap.size w3 W)=>zdF a m c fa fn fc ra rn rc oa on oc B ⟨zs,5,0,⟨#[]⟩,[]⟩ no nq ncp none 0 0 W (oB.below hW).row (by omega) (by omega) (by omega) (by omega) HRV.out (rO.below hW) ⟨by show (-9223372036854775808:Int)≤0; omega,by show (0:Int)≤9223372036854775807; omega⟩ (Nat.zero_le _)
 rw [hset] at hcall;have HCALL:=hide hcall;clear din h1 h4 hzi hset hcases hcall hbok;obtain ⟨x0,x1,x2,x3,x4,x5,x6,x7,x8,x9,x10⟩:=zj kB;go_wp2_with fail
 refine (HCALL.out _ (Below.refl _ _)).mono ?_;rintro e w4 ⟨a2,n2,c2,fa2,fn2,fc2,ra2,rn2,rc2,oa2,on2,oc2,rfl,oX,hb4⟩;dsimp only;generalize hw5:w4.alloc (Obj.cells #[.int .i64 B.id,.string B.name,.slice a2 n2 c2,.slice fa2 fn2 fc2,.slice ra2 rn2 rc2,.slice oa2 on2 oc2,.int .i64 B.ticks,.int .i64 B.parse,.int .i64 B.word,.int .i64 B.drops,.int .i64 B.vers] 31)=w5;have b45:=zb hw5;have kX:=zk hw5;have d:=zd hb4 b45;have oX:=oX.below b45;have kB:=ze kB d;have rO:=rO.below d;have oB:=oB.below d;have u5:=zd u3 d;clear x0 x1 x2 x3 x4 x5 x6 x7 x8 x9 x10;obtain ⟨x0,x1,x2,x3,x4,x5,x6,x7,x8,x9,x10⟩:=zj kB;go_upto_region 5 with fail
 try rw [hw5]
 clear hw5 b45 hb4 d u3;generalize hXb:w4.heap.size=Xb at *;clear hXb;go_wp2_with fail
 refine (zdE a m c fa fn fc ra rn rc oa on oc B no nq ncp zs _ oB.row (by omega) HRV.out rO).mono ?_;rintro e w6 ⟨rfl,hb6⟩;generalize hGK:(zbW (zal B) zs).K=GK at *;generalize (zbW (zal B) zs).N=GN at *;generalize (zbW (zal B) zs).S=GS at *;clear hGK;go_upto_region 6 with fail
 generalize hw7:w6.alloc (Obj.cells #[.int .i64 GK,.int .i64 GN,.string GS,.slice none 0 0] 35)=w7;have b67:=zb hw7;have kV:=zk hw7;have d:=zd hb6 b67;have oX:=oX.below d;have kB:=ze kB d;have kX:=ze kX d;have oB:=oB.below d;have u7:=zd u5 d;clear x0 x1 x2 x3 x4 x5 x6 x7 x8 x9 x10;obtain ⟨x0,x1,x2,x3,x4,x5,x6,x7,x8,x9,x10⟩:=zj kB;obtain ⟨y0,y1,y2,y3,y4,y5,y6,y7,y8,y9,y10⟩:=zj kX;obtain ⟨⟨v0,v1,v2,v3⟩,-⟩:=zah kV;clear hw7 b67 hb6 d u5 rO;rcases HCS.out with ⟨e1,e2⟩ | ⟨e1,e2⟩ | e1
 ·subst e1;have e3:(GK != 128)=true:=by simpa using e2
  (go_wp2_with fail);refine (zb1 a2 n2 c2 fa2 fn2 fc2 ra2 rn2 rc2 oa2 on2 oc2 B a m c fa fn fc ra rn rc oa on oc B _ oX.row oB.row).mono ?_;rintro e w8 ⟨q,rfl,hq,hb8⟩;have hqt:q=true:=hq.2 rfl;subst hqt;have HB:=hide (zd u7 hb8);clear hb8 hq x0 x1 x2 x3 x4 x5 x6 x7 x8 x9 x10 y0 y1 y2 y3 y4 y5 y6 y7 y8 y9 y10;go_wp2;go_ret;exact ⟨rfl,HB.out⟩
 ·subst e1;subst e2;(go_wp2_with fail);refine (zb1 a2 n2 c2 fa2 fn2 fc2 ra2 rn2 rc2 oa2 on2 oc2 B a m c fa fn fc ra rn rc oa on oc B _ oX.row oB.row).mono ?_;rintro e w8 ⟨q,rfl,hq,hb8⟩;have hqt:q=true:=hq.2 rfl;subst hqt;have HB:=hide (zd u7 hb8);clear hb8 hq x0 x1 x2 x3 x4 x5 x6 x7 x8 x9 x10 y0 y1 y2 y3 y4 y5 y6 y7 y8 y9 y10;go_wp2;go_ret;exact ⟨rfl,HB.out⟩
 ·subst e1;(go_wp2_with fail);refine (zb1 a2 n2 c2 fa2 fn2 fc2 ra2 rn2 rc2 oa2 on2 oc2 B a m c fa fn fc ra rn rc oa on oc B _ oX.row oB.row).mono ?_;rintro e w8 ⟨q,rfl,hq,hb8⟩;have hqt:q=true:=hq.2 rfl;subst hqt;have HB:=hide (zd u7 hb8);clear hb8 hq x0 x1 x2 x3 x4 x5 x6 x7 x8 x9 x10 y0 y1 y2 y3 y4 y5 y6 y7 y8 y9 y10;go_wp2;go_ret;exact ⟨rfl,HB.out⟩

theorem fnReadOnly_own:ownKnob Tryz.prog.godebug=none:=by kernel_rfl
theorem fnReadOnly_laid:laidOutB Tryz.prog=true:=by kernel_rfl

open Go.ChangeShapes Go.WideShapes Go.ChangeAt in
open Go.ChangeMaps (open_string shut_string) in
theorem fnReadOnly_lifted (os:Os) (started:os.Started) (H:Type) (enc:TypeId × Value→H) :
  ReturnsInHanded {} Tryz.checked os 6 .any (Rows.fnReadOnlySpec.pre6 enc Tryz.prog Tryz.f6 Rows.fnReadOnlyRow.domain false) (Rows.fnReadOnlySpec.post enc Tryz.prog Tryz.f6 false true false false):=by
 refine returnsInHanded_of_change (C:=Tryz.checked) fnReadOnly_own started (by kernel_rfl) Tryz.func6
  (ChangeSpec.witness6 (enc:=enc) (C:=Tryz.checked) false ⟨#[],#[.slice none 0 0],[]⟩ 8 (by kernel_rfl) (by kernel_rfl) (by kernel_rfl) (by kernel_rfl)) ?_
 intro W base args ds gs before hval0 hW hcnd _;have hval:∀(j:Nat) t v,Tryz.f6.params[j]? = some t→args[j]? = some v→Value.okWide Tryz.prog W .any base t v:=hval0;have hW':=hW;obtain ⟨p,q,hA0,hV,rfl,hfz,hnd⟩:=hW;have hA:DataW.TrodAll enc Tryz.prog W 0 (fun _=>true) true Tryz.f6.params.toList args.toList ds p:=hA0;rw [Tryz.params6] at hA hval;obtain ⟨v0,vs0,d0,ds0,p0,q0,hargs,rfl,rfl,h0,r0⟩:=trodAll_cons hA;obtain ⟨rfl,rfl,rfl⟩:=trodAll_nil r0;obtain rfl:args=#[v0]:=by cases args; simp_all
 obtain ⟨rfl,rfl⟩:=trodVars_none hV;obtain ⟨a0,len0,cap0,rfl⟩:=okWide_slice Tryz.underlying22 (hval 0 22 v0 rfl rfl);have k0:=h0;have lt0:∀x∈p0,x.block < W.heap.size:=by obtain ⟨m,hm⟩:=k0; exact DataW.trod_lt m _ _ _ hm
 obtain ⟨z0,w0⟩:∃zs,Row W a0 len0 cap0 zs:=by
  obtain ⟨fuel,hf⟩:=h0;rcases open_ints Tryz.underlying22 Tryz.underlying5 (by kernel_rfl) hf with ⟨hcs,_⟩ | ⟨x,l,c,zs,hcs,_,hl,hm,hz,_,hcell,hwz⟩
  ·simp [Value.cells] at hcs
   obtain ⟨rfl,rfl,rfl⟩:=hcs;exact ⟨[],zja W⟩
  ·simp [Value.cells] at hcs
   obtain ⟨rfl,rfl,rfl⟩:=hcs;exact ⟨zs.take len0,ziF hl hm (by simpa using hz) hcell hwz⟩
 clear hA0 hval0;refine (zez a0 len0 cap0 z0 W w0).mono fun e W' ⟨he,bel⟩ => ?_
 subst he;exact ⟨_,rfl,_,_,_,[],_,[],hW',trodAll_mk1 (shut_bool Tryz.underlying4 _),(trodAll_cons_mk (Below.trod fnReadOnly_laid (by kernel_rfl) (of_decide_eq_true (by kernel_rfl)) k0 bel lt0) trodAll_mk0),rfl,bel.frame _,fun h=>by cases h⟩

theorem fnReadOnly_holds:Rows.FnReadOnlySaid :=
 OpenClaim.holds_of_wide 6 Tryz.f6 rfl rfl rfl rfl rfl rfl rfl ⟨rfl,rfl,rfl,rfl,rfl⟩ rfl rfl rfl rfl rfl (by kernel_rfl) Tryz.func6 (by kernel_rfl)
  (of_decide_eq_true (by kernel_rfl)) (by unfold Func.isWrapper; first | (rw [if_pos (by decide +kernel)]; kernel_rfl) | (rw [if_neg (by decide +kernel)]; exact ⟨rfl,rfl⟩))
  (fun os started H enc _=>fnReadOnly_lifted os started H enc)

#print axioms fnReadOnly_holds

end Go.Proofs.YtcpdkcdfnpcemaaGreat
