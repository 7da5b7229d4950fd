/-
  FnExactMibList answers true at all arguments: MibList answers as the specification; it writes into no argument and keeps nothing of one; its answer owns its memory, behind another call too.
-/
import Derived.Test.YtcpdkcdfnpcemaaGreatPHBrHelp
import Derived.Test.YtcpdkcdfnpcemaaGreatPHK26
namespace Go.Proofs.YtcpdkcdfnpcemaaGreat
set_option maxRecDepth 100000
set_option maxHeartbeats 16000000
open Go.RowKit

theorem zcF (a0:Option Addr) (n0 c0:Nat) (fa0:Option Addr) (fn0 fc0:Nat) (ra0:Option Addr) (rn0 rc0:Nat) (oa0:Option Addr) (on0 oc0:Nat) (B0:BR) (w:World) (h0:BrRow w a0 n0 c0 fa0 fn0 fc0 ra0 rn0 rc0 oa0 on0 oc0 B0) (g0:B0.Rng) :
  Calls Tryz.prog 8 #[.agg #[.int .i64 B0.id,.string B0.name,.slice a0 n0 c0,.slice fa0 fn0 fc0,.slice ra0 rn0 rc0,.slice oa0 on0 oc0,.int .i64 B0.ticks,.int .i64 B0.parse,.int .i64 B0.word,.int .i64 B0.drops,.int .i64 B0.vers]] w fun e w'=>e=.returned (.bool true)∧Below w.heap.size w w':=by
 generalize hwA:w.alloc (Obj.cells #[.int .i64 B0.id,.string B0.name,.slice a0 n0 c0,.slice fa0 fn0 fc0,.slice ra0 rn0 rc0,.slice oa0 on0 oc0,.int .i64 B0.ticks,.int .i64 B0.parse,.int .i64 B0.word,.int .i64 B0.drops,.int .i64 B0.vers] 76)=wA;have uA:=zb hwA;have kA:=zk hwA;obtain ⟨x0,x1,x2,x3,x4,x5,x6,x7,x8,x9,x10⟩:=zj kA;by_cases gb:¬sizeB B0≤1048576
 ·go_enter Tryz.func8,Tryz.ntmps8;(go_wp2_with fail);refine (zcz 1048576 (by omega) (by omega) a0 n0 c0 fa0 fn0 fc0 ra0 rn0 rc0 oa0 on0 oc0 B0 _ (h0.below uA) g0.name).mono ?_;rintro e w1 ⟨rfl,hb1⟩;rw [if_neg (show ¬sizeB B0≤1048576 by omega)];have HB:=hide (zd uA hb1);clear x0 x1 x2 x3 x4 x5 x6 x7 x8 x9 x10;go_wp2;go_ret;exact ⟨rfl,HB.out⟩
 have hsz:sizeB B0=(B0.name.size:Int)+n0+fn0+(rn0+on0):=by unfold sizeB; rw [h0.ports.size,h0.f.size,h0.v.rows.size,h0.v.own.size]
 have gb:sizeB B0≤1048576:=by omega
 have gn:n0≤1048576:=by omega
 have gf:fn0≤1048576:=by omega
 have gr:rn0≤1048576:=by omega
 have go:on0≤1048576:=by omega
 have gs0:0≤sizeB B0:=by omega
 have gs:¬((1048576:Int) - sizeB B0 < 0):=by omega
 clear hsz;go_enter Tryz.func8,Tryz.ntmps8;go_wp2_with fail
 refine (zcz 1048576 (by omega) (by omega) a0 n0 c0 fa0 fn0 fc0 ra0 rn0 rc0 oa0 on0 oc0 B0 _ (h0.below uA) g0.name).mono ?_;rintro e w1 ⟨rfl,hb1⟩;rw [if_pos gb];have kA:=ze kA hb1;have u1:=zd uA hb1;clear hb1 x0 x1 x2 x3 x4 x5 x6 x7 x8 x9 x10 uA hwA;generalize hSZ:sizeB B0=SZ at *;clear hSZ;obtain ⟨x0,x1,x2,x3,x4,x5,x6,x7,x8,x9,x10⟩:=zj kA;go_wp2_with fail
 refine (zbi a0 n0 c0 fa0 fn0 fc0 ra0 rn0 rc0 oa0 on0 oc0 B0 _ (h0.below u1) gn gf gr go).mono ?_;rintro e w2 ⟨a2,c2,fa2,fc2,ra2,rc2,oa2,oc2,rfl,t2,hb2⟩;go_wp2_with fail
 refine (zbU _ _ _ _ _ _ _ _ _ _ _ _ B0 _ t2.row).mono ?_;rintro e w3 ⟨aS,cS,lS,rfl,dS,oS,hb3⟩;have DS:=hide dS;have d3:=zd hb2 hb3;obtain ⟨wS,hwS⟩:∃x,x=w3:=⟨_,rfl⟩;subst hwS;have kA:=ze kA d3;have uS:=zd u1 d3;have pS:Below wS.heap.size wS wS:=Below.refl _ _;clear hb2 hb3 t2 x0 x1 x2 x3 x4 x5 x6 x7 x8 x9 x10 u1 d3  dS;obtain ⟨x0,x1,x2,x3,x4,x5,x6,x7,x8,x9,x10⟩:=zj kA;go_wp2_with fail
 refine (zbi a0 n0 c0 fa0 fn0 fc0 ra0 rn0 rc0 oa0 on0 oc0 B0 _ (h0.below uS) gn gf gr go).mono ?_;rintro e w4 ⟨a4,c4,fa4,fc4,ra4,rc4,oa4,oc4,rfl,t4,hb4⟩;have EX:=hide t4.under;generalize hwX:w4.alloc (Obj.cells #[.int .i64 B0.id,.string B0.name,.slice a4 n0 c4,.slice fa4 fn0 fc4,.slice ra4 rn0 rc4,.slice oa4 on0 oc4,.int .i64 B0.ticks,.int .i64 B0.parse,.int .i64 B0.word,.int .i64 B0.drops,.int .i64 B0.vers] 31)=wX;have b4X:=zb hwX;have kX:=zk hwX;have tX:=t4.below b4X;have pS:Below wS.heap.size wS wX:=zd hb4 b4X;clear x0 x1 x2 x3 x4 x5 x6 x7 x8 x9 x10 t4 hb4;go_upto_region 7 with fail
 try rw [hwX]
 clear hwX;obtain ⟨y0,y1,y2,y3,y4,y5,y6,y7,y8,y9,y10⟩:=zj kX;go_wp2_with fail
 refine (zba _ _ _ _ _ _ _ _ _ _ _ _ B0 _ tX.row (by omega) g0.v).mono ?_;rintro e w6 ⟨aG,cG,lG,rfl,dG,oG,hb6⟩;have BK:=hide (zh3 oG dG);have DG:=hide dG;have SG:Hid (wS.heap.size≤wX.heap.size):=hide pS.size;have GX:Hid (w4.heap.size≤wX.heap.size):=hide b4X.size;have tX:=tX.below hb6;have kX:=ze kX hb6;have pS:=zd pS hb6;clear hb6 dG y0 y1 y2 y3 y4 y5 y6 y7 y8 y9 y10;go_wp2_with fail
 refine (zbX aG lG.length cG lG aS lS.length cS lS (DG.out.trans DS.out.symm) _ oG.brow (oS.below pS).brow).mono ?_;rintro e w8 ⟨rfl,hb⟩;have pS:=zd pS hb;have tX:=tX.below hb;have kX:=ze kX hb;have oG:=oG.below hb;clear hb  ;have vv:Below w8.heap.size w8 w8.drew:=zv (Below.refl _ _);go_wp2_with fail
 refine wp_region_held_drew (S:=(fun W=>(zcc W w.heap.size 0 (.int .i64 B0.id)∧zcc W w.heap.size 1 (.string B0.name)∧zcc W w.heap.size 2 (.slice a0 n0 c0)∧zcc W w.heap.size 3 (.slice fa0 fn0 fc0)∧zcc W w.heap.size 4 (.slice ra0 rn0 rc0)∧zcc W w.heap.size 5 (.slice oa0 on0 oc0)∧zcc W w.heap.size 6 (.int .i64 B0.ticks)∧zcc W w.heap.size 7 (.int .i64 B0.parse)∧zcc W w.heap.size 8 (.int .i64 B0.word)∧zcc W w.heap.size 9 (.int .i64 B0.drops)∧zcc W w.heap.size 10 (.int .i64 B0.vers))∧(zcc W w4.heap.size 0 (.int .i64 B0.id)∧zcc W w4.heap.size 1 (.string B0.name)∧zcc W w4.heap.size 2 (.slice a4 n0 c4)∧zcc W w4.heap.size 3 (.slice fa4 fn0 fc4)∧zcc W w4.heap.size 4 (.slice ra4 rn0 rc4)∧zcc W w4.heap.size 5 (.slice oa4 on0 oc4)∧zcc W w4.heap.size 6 (.int .i64 B0.ticks)∧zcc W w4.heap.size 7 (.int .i64 B0.parse)∧zcc W w4.heap.size 8 (.int .i64 B0.word)∧zcc W w4.heap.size 9 (.int .i64 B0.drops)∧zcc W w4.heap.size 10 (.int .i64 B0.vers)))) (by kernel_rfl) (⟨zj (ze kA (zd pS vv)),zj (ze kX vv)⟩) (fun hHeld => ?_);refine kK 0 ?_;refine kK 1 ?_;refine kR 2 fun K hK => ?_
 go_simp;refine (zbi a0 n0 c0 fa0 fn0 fc0 ra0 rn0 rc0 oa0 on0 oc0 B0 _ (h0.below (zd uS (zd pS vv))) gn gf gr go).mono ?_;rintro e wt ⟨a7,c7,fa7,fc7,ra7,rc7,oa7,oc7,rfl,t7,hb7⟩;have vv:=zd vv hb7;go_wp2_with fail
 refine kO hK (⟨zj (ze kA (zd pS vv)),zj (ze kX vv)⟩) fun hHeld => ?_
 clear hK K;refine kR 3 fun K hK => ?_
 go_simp;refine (zeb _ _ _ _ _ _ _ _ _ _ _ _ _ _ _ _ _ _ _ _ _ _ _ _ B0 _ (tX.below vv).row t7.row).mono ?_;rintro e wt ⟨rfl,hb8⟩;have vv:=zd vv hb8;clear t7;go_wp2_with fail
 refine kO hK (⟨zj (ze kA (zd pS vv)),zj (ze kX vv)⟩) fun hHeld => ?_
 clear hK K;refine kK 4 ?_;refine wpAnyH_done (by kernel_rfl) ?_ _;clear hHeld;have pS:=zd pS vv;have tX:=tX.below vv;have kX:=ze kX vv;have oG:=oG.below vv;clear vv;obtain ⟨y0,y1,y2,y3,y4,y5,y6,y7,y8,y9,y10⟩:=zj kX;go_wp2_with fail
 refine (zdp 1 (by omega) (by omega) _ w4.heap.size _ _ _ _ _ _ _ _ _ _ _ _ B0 _ tX pS.size EX.out (by omega) (by omega) (by omega) (by omega)).mono ?_;rintro e w9 ⟨rfl,-,bt⟩;have pS:=pS.trans bt.below;have oG:=oG.between bt GX.out;clear tX bt kX y0 y1 y2 y3 y4 y5 y6 y7 y8 y9 y10;generalize hK1:(1:Int)+8*(n0:Int)+5*(fn0:Int)+3*(rn0:Int)+(on0:Int)=K1;have hk1a:0≤K1:=by omega
 have hk1b:K1≤100000000:=by omega
 have hk1c:¬(K1 < 0):=by omega
 clear hK1;go_wp2_with fail
 refine (zbX aG lG.length cG lG aS lS.length cS lS (DG.out.trans DS.out.symm) _ oG.brow (oS.below pS).brow).mono ?_;rintro e w10 ⟨rfl,hb⟩;have pS:=zd pS hb;have oG:=oG.below hb;clear hb  ;go_wp2_with fail
 refine (zdo wX.heap.size aG lG.length cG lG 1 _ oG BK.out (by omega) (by omega)).mono ?_;rintro e w11 ⟨rfl,oM,hon⟩;have pS:=pS.trans (hon.below pS.size (fun b hb=>Nat.le_trans SG.out (oG.blk b hb).1));clear oG hon;have hend:=(zcm lG 1).1;generalize hEO:endBs 1 lG=EO at *;have HEO:=hide hEO;have heo0:¬(EO < 0):=by omega
 clear hEO;go_wp2_with fail
 refine (zcp aG lG.length cG lG 1 _ oM.brow BK.out (by omega) (by omega)).mono ?_;rintro e w12 ⟨rfl,hb⟩;rw [HEO.out];have pS:=zd pS hb;have oM:=oM.below hb;clear hb;have kA:=ze kA pS;obtain ⟨x0,x1,x2,x3,x4,x5,x6,x7,x8,x9,x10⟩:=zj kA;go_wp2_with fail
 refine (zbi a0 n0 c0 fa0 fn0 fc0 ra0 rn0 rc0 oa0 on0 oc0 B0 _ (h0.below (zd uS pS)) gn gf gr go).mono ?_;rintro e w13 ⟨a13,c13,fa13,fc13,ra13,rc13,oa13,oc13,rfl,t13,hb⟩;have pS:=zd pS hb;have oM:=oM.below hb;clear hb x0 x1 x2 x3 x4 x5 x6 x7 x8 x9 x10;go_wp2_with fail
 refine (zba _ _ _ _ _ _ _ _ _ _ _ _ B0 _ t13.row (by omega) g0.v).mono ?_;rintro e w14 ⟨aH,cH,lH,rfl,dH,oH,hb⟩;have pS:=zd pS hb;have oM:=oM.below hb;have DH:=hide dH;clear hb t13 dH;go_wp2_with fail
 refine (zbX aH lH.length cH lH aS lS.length cS lS (DH.out.trans DS.out.symm) _ oH.brow (oS.below pS).brow).mono ?_;rintro e w15 ⟨rfl,hb⟩;have pS:=zd pS hb;have oM:=oM.below hb;clear hb oH;go_wp2_with fail
 refine (zcp aG lG.length cG lG 1 _ oM.brow BK.out (by omega) (by omega)).mono ?_;rintro e w16 ⟨rfl,hb⟩;rw [HEO.out];have pS:=zd pS hb;have oM:=oM.below hb;have HB:=hide (zd uS pS);clear hb pS;go_wp2;go_ret;exact ⟨rfl,HB.out⟩

theorem fnExactMibList_own:ownKnob Tryz.prog.godebug=none:=by kernel_rfl
theorem fnExactMibList_laid:laidOutB Tryz.prog=true:=by kernel_rfl

open Go.ChangeShapes Go.WideShapes Go.ChangeAt in
open Go.ChangeMaps (open_string shut_string) in
theorem fnExactMibList_lifted (os:Os) (started:os.Started) (H:Type) (enc:TypeId × Value→H) :
  ReturnsInHanded {} Tryz.checked os 8 .any (Rows.fnExactMibListSpec.pre6 enc Tryz.prog Tryz.f8 Rows.fnExactMibListRow.domain false) (Rows.fnExactMibListSpec.post enc Tryz.prog Tryz.f8 false true false false):=by
 refine returnsInHanded_of_change (C:=Tryz.checked) fnExactMibList_own started (by kernel_rfl) Tryz.func8
  (ChangeSpec.witness6 (enc:=enc) (C:=Tryz.checked) false ⟨#[],#[.agg #[.int .i64 0,.string ByteArray.empty,.slice none 0 0,.slice none 0 0,.slice none 0 0,.slice none 0 0,.int .i64 0,.int .i64 0,.int .i64 0,.int .i64 0,.int .i64 0]],[]⟩ 8 (by kernel_rfl) (by kernel_rfl) (by kernel_rfl) (by kernel_rfl)) ?_
 intro W base args ds gs before hval0 hW hcnd _;have hval:∀(j:Nat) t v,Tryz.f8.params[j]? = some t→args[j]? = some v→Value.okWide Tryz.prog W .any base t v:=hval0;have hW':=hW;obtain ⟨p,q,hA0,hV,rfl,hfz,hnd⟩:=hW;have hA:DataW.TrodAll enc Tryz.prog W 0 (fun _=>true) true Tryz.f8.params.toList args.toList ds p:=hA0;rw [Tryz.params8] at hA hval;obtain ⟨v0,vs0,d0,ds0,p0,q0,hargs,rfl,rfl,h0,r0⟩:=trodAll_cons hA;obtain ⟨rfl,rfl,rfl⟩:=trodAll_nil r0;obtain rfl:args=#[v0]:=by cases args; simp_all
 obtain ⟨rfl,rfl⟩:=trodVars_none hV;have k0:=h0;have lt0:∀x∈p0,x.block < W.heap.size:=by obtain ⟨m,hm⟩:=k0; exact DataW.trod_lt m _ _ _ hm
 have bt:zgL Tryz.prog 76 9 70 225 223 71 227 74 72 277 27 3 4 _ _ _ _ _ _ _ _ _ _ _ _ _ _ _ _ _ _ _ _ _ _ _ _ _ _ _ _ _:=⟨Tryz.underlying76,Tryz.underlying9,Tryz.underlying70,Tryz.underlying225,Tryz.underlying223,Tryz.underlying71,Tryz.underlying227,Tryz.underlying74,Tryz.underlying72,Tryz.underlying277,Tryz.underlying27,Tryz.underlying3,Tryz.underlying4,⟨rfl,rfl⟩,⟨rfl,rfl⟩,⟨rfl,rfl⟩,⟨rfl,rfl⟩,⟨rfl,rfl⟩,⟨rfl,rfl⟩,⟨rfl,rfl⟩,⟨rfl,rfl⟩,⟨rfl,rfl⟩,⟨rfl,rfl⟩,⟨rfl,rfl⟩,⟨rfl,rfl⟩,⟨rfl,rfl⟩,⟨rfl,rfl⟩,⟨rfl,rfl⟩,⟨rfl,rfl⟩,⟨rfl,rfl⟩,⟨rfl,rfl⟩,⟨rfl,rfl⟩,⟨rfl,rfl⟩,⟨rfl,rfl⟩,⟨rfl,rfl⟩,⟨rfl,rfl⟩,⟨rfl,rfl⟩,⟨rfl,rfl⟩,⟨rfl,rfl⟩,⟨rfl,rfl⟩,⟨rfl,rfl⟩,⟨rfl,rfl⟩,(by kernel_rfl),(by kernel_rfl),(by kernel_rfl),(by kernel_rfl),(by kernel_rfl),(by kernel_rfl),(by kernel_rfl),(by kernel_rfl),(by kernel_rfl),(by kernel_rfl),(by kernel_rfl),(by kernel_rfl),(by kernel_rfl)⟩;obtain ⟨a0,n0,c0,fa0,fn0,fc0,ra0,rn0,rc0,oa0,on0,oc0,B0,rfl,w0,g0⟩:=zfB bt (hval 0 76 v0 rfl rfl) h0;clear hA0 hval0;refine (zcF a0 n0 c0 fa0 fn0 fc0 ra0 rn0 rc0 oa0 on0 oc0 B0 W w0 g0).mono fun e W' ⟨he,bel⟩ => ?_
 subst he;exact ⟨_,rfl,_,_,_,[],_,[],hW',trodAll_mk1 (shut_bool Tryz.underlying4 _),(trodAll_cons_mk (Below.trod fnExactMibList_laid (by kernel_rfl) (of_decide_eq_true (by kernel_rfl)) k0 bel lt0) trodAll_mk0),rfl,bel.frame _,fun h=>by cases h⟩

theorem fnExactMibList_holds:Rows.FnExactMibListSaid :=
 OpenClaim.holds_of_wide 8 Tryz.f8 rfl rfl rfl rfl rfl rfl rfl ⟨rfl,rfl,rfl,rfl,rfl⟩ rfl rfl rfl rfl rfl (by kernel_rfl) Tryz.func8 (by kernel_rfl)
  (of_decide_eq_true (by kernel_rfl)) (by unfold Func.isWrapper; first | (rw [if_pos (by decide +kernel)]; kernel_rfl) | (rw [if_neg (by decide +kernel)]; exact ⟨rfl,rfl⟩))
  (fun os started H enc _=>fnExactMibList_lifted os started H enc)

#print axioms fnExactMibList_holds

end Go.Proofs.YtcpdkcdfnpcemaaGreat
