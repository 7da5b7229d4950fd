/-
  FnExactMibGet answers true at all arguments: MibGet answers as the specification; it writes into no argument and keeps nothing of one; its answer owns its memory, behind another call too.
-/
import Derived.Test.YtcpdkcdfnpcemabGreatPGBrHelp
import Derived.Test.YtcpdkcdfnpcemabGreatPGK19
namespace Go.Proofs.YtcpdkcdfnpcemabGreat
set_option maxRecDepth 100000
set_option maxHeartbeats 16000000
open Go.RowKit

theorem zb5 (a0:Option Addr) (n0 c0:Nat) (fa0:Option Addr) (fn0 fc0:Nat) (ra0:Option Addr) (rn0 rc0:Nat) (oa0:Option Addr) (on0 oc0:Nat) (B0:BR) (i1:Option Addr) (l1 c1:Nat) (z1:List Int) (w:World) (h0:BrRow w a0 n0 c0 fa0 fn0 fc0 ra0 rn0 rc0 oa0 on0 oc0 B0) (g0:B0.Rng) (h1:IRow w i1 l1 c1 z1) :
  Calls Tryz.prog 3 #[.agg #[.int .i64 B0.id,.string B0.name,.slice a0 n0 c0,.slice fa0 fn0 fc0,.slice ra0 rn0 rc0,.slice oa0 on0 oc0,.int .i64 B0.ticks,.int .i64 B0.parse,.int .i64 B0.word,.int .i64 B0.drops,.int .i64 B0.vers],.slice i1 l1 c1] w fun e w'=>e=.returned (.bool true)∧Below w.heap.size w w':=by
 generalize hwA:w.alloc (Obj.cells #[.int .i64 B0.id,.string B0.name,.slice a0 n0 c0,.slice fa0 fn0 fc0,.slice ra0 rn0 rc0,.slice oa0 on0 oc0,.int .i64 B0.ticks,.int .i64 B0.parse,.int .i64 B0.word,.int .i64 B0.drops,.int .i64 B0.vers] 29)=wA;have uA:=zb hwA;have kA:=zk hwA;obtain ⟨x0,x1,x2,x3,x4,x5,x6,x7,x8,x9,x10⟩:=zh kA;by_cases gl:1048576 < l1
 ·go_enter Tryz.func3,Tryz.ntmps3;go_wp2;go_ret;exact ⟨rfl,uA⟩
 by_cases gb:¬sizeB B0≤1048576
 ·go_enter Tryz.func3,Tryz.ntmps3;(go_wp2_with fail);refine (zaH 1048576 (by omega) (by omega) a0 n0 c0 fa0 fn0 fc0 ra0 rn0 rc0 oa0 on0 oc0 B0 _ (h0.below uA) g0.name).mono ?_;rintro e w1 ⟨rfl,hb1⟩;rw [if_neg (show ¬sizeB B0≤1048576 by omega)];have HB:=hide (ze uA hb1);clear x0 x1 x2 x3 x4 x5 x6 x7 x8 x9 x10;go_wp2;go_ret;exact ⟨rfl,HB.out⟩
 have hsz:sizeB B0=(B0.name.size:Int)+n0+fn0+(rn0+on0):=by unfold sizeB; rw [h0.ports.size,h0.f.size,h0.v.rows.size,h0.v.own.size]
 have gb:sizeB B0≤1048576:=by omega
 have gn:n0≤1048576:=by omega
 have gf:fn0≤1048576:=by omega
 have gr:rn0≤1048576:=by omega
 have go:on0≤1048576:=by omega
 have gs0:0≤sizeB B0:=by omega
 have gs:¬((1048576:Int) - sizeB B0 < 0):=by omega
 clear hsz;generalize hD:zbl (zw B0) z1=D;have HD:=hide hD;clear hD;go_enter Tryz.func3,Tryz.ntmps3;go_wp2_with fail
 refine (zaH 1048576 (by omega) (by omega) a0 n0 c0 fa0 fn0 fc0 ra0 rn0 rc0 oa0 on0 oc0 B0 _ (h0.below uA) g0.name).mono ?_;rintro e w1 ⟨rfl,hb1⟩;rw [if_pos gb];have kA:=zd kA hb1;have u1:=ze uA hb1;clear hb1 x0 x1 x2 x3 x4 x5 x6 x7 x8 x9 x10 uA hwA;generalize hSZ:sizeB B0=SZ at *;clear hSZ;obtain ⟨x0,x1,x2,x3,x4,x5,x6,x7,x8,x9,x10⟩:=zh kA;go_wp2_with fail
 refine (zZ a0 n0 c0 fa0 fn0 fc0 ra0 rn0 rc0 oa0 on0 oc0 B0 _ (h0.below u1) gn gf gr go).mono ?_;rintro e w2 ⟨a2,c2,fa2,fc2,ra2,rc2,oa2,oc2,rfl,t2,hb2⟩;go_wp2_with fail
 refine (zaj i1 l1 c1 z1 _ ((h1.below u1).below hb2) (by omega)).mono ?_;rintro e w2b ⟨ia2,ic2,rfl,-,ir2,hb2b⟩;go_wp2_with fail
 have hsp:=zcz _ _ _ _ _ _ _ _ _ _ _ _ B0 ia2 l1 ic2 z1 _ (t2.below hb2b).row ir2;rw [HD.out] at hsp;refine hsp.mono ?_;rintro e w3 ⟨za,zc,rfl,oS,hb3⟩;clear hsp;generalize hwS:w3.alloc (Obj.cells #[.int .i64 D.K,.int .i64 D.N,.string D.S,.slice za 0 zc] 32)=wS;have bS:=zb hwS;have kS:=zk hwS;have oS:=zY oS bS;have d3:=ze (ze (ze hb2 hb2b) hb3) bS;have kA:=zd kA d3;have uS:=ze u1 d3;have pS:Below wS.heap.size wS wS:=Below.refl _ _;clear hb2 hb3 t2 x0 x1 x2 x3 x4 x5 x6 x7 x8 x9 x10 u1 d3 hb2b ir2 bS ;go_upto_region 8 with fail
 try rw [hwS]
 clear hwS;obtain ⟨x0,x1,x2,x3,x4,x5,x6,x7,x8,x9,x10⟩:=zh kA;go_wp2_with fail
 refine (zZ a0 n0 c0 fa0 fn0 fc0 ra0 rn0 rc0 oa0 on0 oc0 B0 _ (h0.below uS) gn gf gr go).mono ?_;rintro e w4 ⟨a4,c4,fa4,fc4,ra4,rc4,oa4,oc4,rfl,t4,hb4⟩;have EX:=hide t4.under;generalize hwX:w4.alloc (Obj.cells #[.int .i64 B0.id,.string B0.name,.slice a4 n0 c4,.slice fa4 fn0 fc4,.slice ra4 rn0 rc4,.slice oa4 on0 oc4,.int .i64 B0.ticks,.int .i64 B0.parse,.int .i64 B0.word,.int .i64 B0.drops,.int .i64 B0.vers] 40)=wX;have b4X:=zb hwX;have kX:=zk hwX;have tX:=t4.below b4X;have pS:Below wS.heap.size wS wX:=ze hb4 b4X;clear x0 x1 x2 x3 x4 x5 x6 x7 x8 x9 x10 t4 hb4;go_upto_region 9 with fail
 try rw [hwX]
 clear hwX;go_wp2_with fail
 refine (zaj i1 l1 c1 z1 _ (h1.below (ze uS pS)) (by omega)).mono ?_;rintro e w5 ⟨xa,xc,rfl,oX,irX,hb5⟩;have G4X:Hid (w4.heap.size≤wX.heap.size):=hide b4X.size;have GSX:Hid (wS.heap.size≤wX.heap.size):=hide pS.size;have XLT:Hid (∀b,(Value.slice xa l1 xc).ownBlock=some b→b < w5.heap.size):=hide (fun b hb=>(oX.lt b hb).2);have G45:Hid (wX.heap.size≤w5.heap.size):=hide hb5.size;have pS:=ze pS hb5;have tX:=tX.below hb5;have kX:=zd kX hb5;clear hb5;obtain ⟨y0,y1,y2,y3,y4,y5,y6,y7,y8,y9,y10⟩:=zh kX;go_wp2_with fail
 have hip:=zbh _ _ _ _ _ _ _ _ _ _ _ _ B0 xa l1 xc z1 _ tX.row (by omega) g0.v irX;rw [HD.out] at hip;refine hip.mono ?_;rintro e w6 ⟨rfl,hb6⟩;clear hip;have SG:Hid (wS.heap.size≤w5.heap.size):=hide pS.size;have GX:Hid (w4.heap.size≤w5.heap.size):=hide (Nat.le_trans b4X.size G45.out);have GGE0:=hb6.size;go_upto_region 11 with fail
 generalize hwG:w6.alloc (Obj.cells #[.int .i64 D.K,.int .i64 D.N,.string D.S,.slice none 0 0] 32)=wG;have bG:=zb hwG;have kG:=zk hwG;have d6:=ze hb6 bG;have tX:=tX.below d6;have kX:=zd kX d6;have oX:=zE oX d6;have pS:=ze pS d6;clear hwG bG hb6 d6 irX y0 y1 y2 y3 y4 y5 y6 y7 y8 y9 y10;generalize hgG:w6.heap.size=gG at *;have GGE:=hide GGE0;clear hgG GGE0;obtain ⟨⟨s0,s1,s2,s3⟩,-⟩:=zK (zd kS pS);obtain ⟨⟨z0,z1,z2,z3⟩,-⟩:=zK kG;go_wp2_with fail
 refine (zbn D.K D.N D.S none 0 0 za 0 zc [] _ (zaF _) (zO (zY oS pS) (by intro z hz; cases hz))).mono ?_;rintro e w8 ⟨rfl,hb⟩;have pS:=ze pS hb;have tX:=tX.below hb;have kX:=zd kX hb;have oX:=zE oX hb;have kG:=zd kG hb;clear hb s0 s1 s2 s3 z0 z1 z2 z3 ;have vv:Below w8.heap.size w8 w8.drew:=zR (Below.refl _ _);go_wp2_with fail
 refine wp_region_held_drew (S:=(fun W=>(zcc W w.heap.size 0 (.int .i64 B0.id)∧zcc W w.heap.size 1 (.string B0.name)∧zcc W w.heap.size 2 (.slice a0 n0 c0)∧zcc W w.heap.size 3 (.slice fa0 fn0 fc0)∧zcc W w.heap.size 4 (.slice ra0 rn0 rc0)∧zcc W w.heap.size 5 (.slice oa0 on0 oc0)∧zcc W w.heap.size 6 (.int .i64 B0.ticks)∧zcc W w.heap.size 7 (.int .i64 B0.parse)∧zcc W w.heap.size 8 (.int .i64 B0.word)∧zcc W w.heap.size 9 (.int .i64 B0.drops)∧zcc W w.heap.size 10 (.int .i64 B0.vers))∧(zcc W w4.heap.size 0 (.int .i64 B0.id)∧zcc W w4.heap.size 1 (.string B0.name)∧zcc W w4.heap.size 2 (.slice a4 n0 c4)∧zcc W w4.heap.size 3 (.slice fa4 fn0 fc4)∧zcc W w4.heap.size 4 (.slice ra4 rn0 rc4)∧zcc W w4.heap.size 5 (.slice oa4 on0 oc4)∧zcc W w4.heap.size 6 (.int .i64 B0.ticks)∧zcc W w4.heap.size 7 (.int .i64 B0.parse)∧zcc W w4.heap.size 8 (.int .i64 B0.word)∧zcc W w4.heap.size 9 (.int .i64 B0.drops)∧zcc W w4.heap.size 10 (.int .i64 B0.vers)))) (by kernel_rfl) (⟨zh (zd kA (ze pS vv)),zh (zd kX vv)⟩) (fun hHeld => ?_);refine kK 0 ?_;refine kK 1 ?_;refine kR 2 fun K hK => ?_
 go_simp;refine (zZ a0 n0 c0 fa0 fn0 fc0 ra0 rn0 rc0 oa0 on0 oc0 B0 _ (h0.below (ze uS (ze pS vv))) gn gf gr go).mono ?_;rintro e wt ⟨a7,c7,fa7,fc7,ra7,rc7,oa7,oc7,rfl,t7,hb7⟩;have vv:=ze vv hb7;go_wp2_with fail
 refine kO hK (⟨zh (zd kA (ze pS vv)),zh (zd kX vv)⟩) fun hHeld => ?_
 clear hK K;refine kR 3 fun K hK => ?_
 go_simp;refine (zbD _ _ _ _ _ _ _ _ _ _ _ _ _ _ _ _ _ _ _ _ _ _ _ _ B0 _ (tX.below vv).row t7.row).mono ?_;rintro e wt ⟨rfl,hb8⟩;have vv:=ze vv hb8;clear t7;go_wp2_with fail
 refine kO hK (⟨zh (zd kA (ze pS vv)),zh (zd kX vv)⟩) fun hHeld => ?_
 clear hK K;refine kK 4 ?_;refine wpAnyH_done (by kernel_rfl) ?_ _;clear hHeld;have pS:=ze pS vv;have tX:=tX.below vv;have kX:=zd kX vv;have oX:=zE oX vv;have kG:=zd kG vv;clear vv;go_wp2_with fail
 refine (zaj i1 l1 c1 z1 _ (h1.below (ze uS pS)) (by omega)).mono ?_;rintro e wc1 ⟨ea,ec,rfl,-,er,hb⟩;have pS:=ze pS hb;have tX:=tX.below hb;have kX:=zd kX hb;have oX:=zE oX hb;have kG:=zd kG hb;clear hb;go_wp2_with fail
 refine (zcg xa l1 xc ea l1 ec z1 _ (zO oX h1.byte) er).mono ?_;rintro e wc2 ⟨rfl,nd,ewc⟩;have hb:Below wc1.heap.size wc1 wc2:=by rw [ewc]; exact zU (Below.refl _ _) nd
 have pS:=ze pS hb;have tX:=tX.below hb;have kX:=zd kX hb;have oX:=zE oX hb;have kG:=zd kG hb;clear hb er ewc;obtain ⟨y0,y1,y2,y3,y4,y5,y6,y7,y8,y9,y10⟩:=zh kX;go_wp2_with fail
 refine (zbj 1 (by omega) (by omega) _ w4.heap.size _ _ _ _ _ _ _ _ _ _ _ _ B0 _ tX pS.size EX.out (by omega) (by omega) (by omega) (by omega)).mono ?_;rintro e w9 ⟨rfl,-,bt⟩;have pS:=pS.trans bt.below;have oX:=bt.own oX G4X.out;have kG:w9.heap[gG]? = _:=(bt.block _ (Array.getElem?_eq_some_iff.1 kG).1 (Nat.le_trans GX.out GGE.out)).trans kG;clear tX bt kX y0 y1 y2 y3 y4 y5 y6 y7 y8 y9 y10;generalize hK1:(1:Int)+8*(n0:Int)+5*(fn0:Int)+3*(rn0:Int)+(on0:Int)=K1;have hk1a:0≤K1:=by omega
 have hk1b:K1≤100000000:=by omega
 have hk1c:¬(K1 < 0):=by omega
 clear hK1;go_wp2_with fail
 refine (zaO _ xa l1 xc z1 K1 _ oX (by omega) hk1a (by omega)).mono ?_;rintro e w9b ⟨rfl,-,hg⟩;have pS:=pS.trans ((Below.refl _ _).grown hg pS.size (fun b hb=>Nat.le_trans GSX.out (oX.lt b hb).1));have kG:=zA kG hg (fun b hb=>by have h2:=XLT.out b hb; have h3:=GGE.out; omega);clear hg oX;have hk2:¬(K1+(l1:Int) < 0):=by omega
 obtain ⟨⟨s0,s1,s2,s3⟩,-⟩:=zK (zd kS pS);obtain ⟨⟨z0,z1,z2,z3⟩,-⟩:=zK kG;go_wp2_with fail
 refine (zbn D.K D.N D.S none 0 0 za 0 zc [] _ (zaF _) (zO (zY oS pS) (by intro z hz; cases hz))).mono ?_;rintro e w10 ⟨rfl,hb⟩;have pS:=ze pS hb;have kG:=zd kG hb;clear hb s0 s1 s2 s3 z0 z1 z2 z3 ;obtain ⟨⟨z0,z1,z2,z3⟩,-⟩:=zK kG;go_wp2_with fail
 refine (zbK D.K D.N D.S w.heap.size none 0 0 [] 1 _ (World.ownsRow_nil _ _ _ _) (by omega) (by omega) (by omega)).mono ?_;rintro e w11 ⟨rfl,-,hg⟩;have hb:Below _ _ w11:=(Below.refl _ _).grown hg (Nat.le_refl _) (by intro b hb; cases hb);have pS:=ze pS hb;have kG:=zd kG hb;clear hg hb z0 z1 z2 z3;obtain ⟨⟨z0,z1,z2,z3⟩,-⟩:=zK kG;go_wp2_with fail
 refine (zbA D.K D.N D.S none 0 0 1 _ (by simpa [zae] using zaF _) (by omega) (by omega) (by omega)).mono ?_;rintro e w12 ⟨rfl,hb⟩;clear z0 z1 z2 z3;have pS:=ze pS hb;have kG:=zd kG hb;clear hb;have kA:=zd kA pS;obtain ⟨x0,x1,x2,x3,x4,x5,x6,x7,x8,x9,x10⟩:=zh kA;go_wp2_with fail
 refine (zZ a0 n0 c0 fa0 fn0 fc0 ra0 rn0 rc0 oa0 on0 oc0 B0 _ (h0.below (ze uS pS)) gn gf gr go).mono ?_;rintro e w13 ⟨a13,c13,fa13,fc13,ra13,rc13,oa13,oc13,rfl,t13,hb⟩;have pS:=ze pS hb;have kG:=zd kG hb;clear hb x0 x1 x2 x3 x4 x5 x6 x7 x8 x9 x10;go_wp2_with fail
 refine (zaj i1 l1 c1 z1 _ (h1.below (ze uS pS)) (by omega)).mono ?_;rintro e w13b ⟨ja,jc,rfl,-,jr,hb⟩;have t13:=t13.below hb;have pS:=ze pS hb;have kG:=zd kG hb;clear hb;go_wp2_with fail
 have hip:=zbh _ _ _ _ _ _ _ _ _ _ _ _ B0 ja l1 jc z1 _ t13.row (by omega) g0.v jr;rw [HD.out] at hip;refine hip.mono ?_;rintro e w14 ⟨rfl,hb⟩;have pS:=ze pS hb;have kG:=zd kG hb;clear hip hb t13 jr;go_upto_region 31 with fail
 generalize hwH:w14.alloc (Obj.cells #[.int .i64 D.K,.int .i64 D.N,.string D.S,.slice none 0 0] 32)=wH;have bH:=zb hwH;have kH:=zk hwH;have pS:=ze pS bH;have kG:=zd kG bH;clear hwH bH;obtain ⟨⟨s0,s1,s2,s3⟩,-⟩:=zK (zd kS pS);obtain ⟨⟨z0,z1,z2,z3⟩,-⟩:=zK kH;go_wp2_with fail
 refine (zbn D.K D.N D.S none 0 0 za 0 zc [] _ (zaF _) (zO (zY oS pS) (by intro z hz; cases hz))).mono ?_;rintro e w15 ⟨rfl,hb⟩;have pS:=ze pS hb;have kG:=zd kG hb;clear hb kH s0 s1 s2 s3 z0 z1 z2 z3;obtain ⟨⟨z0,z1,z2,z3⟩,-⟩:=zK kG;go_wp2_with fail
 refine (zbA D.K D.N D.S none 0 0 1 _ (by simpa [zae] using zaF _) (by omega) (by omega) (by omega)).mono ?_;rintro e w16 ⟨rfl,hb⟩;clear z0 z1 z2 z3;have pS:=ze pS hb;have kG:=zd kG hb;have HB:=hide (ze uS pS);clear hb pS;go_wp2;go_ret;exact ⟨rfl,HB.out⟩

theorem fnExactMibGet_own:ownKnob Tryz.prog.godebug=none:=by kernel_rfl
theorem fnExactMibGet_laid:laidOutB Tryz.prog=true:=by kernel_rfl

open Go.ChangeShapes Go.WideShapes Go.ChangeAt in
open Go.ChangeMaps (open_string shut_string) in
theorem fnExactMibGet_lifted (os:Os) (started:os.Started) (H:Type) (enc:TypeId × Value→H) :
  ReturnsInHanded {} Tryz.checked os 3 .any (Rows.fnExactMibGetSpec.pre6 enc Tryz.prog Tryz.f3 Rows.fnExactMibGetRow.domain false) (Rows.fnExactMibGetSpec.post enc Tryz.prog Tryz.f3 false true false false):=by
 refine returnsInHanded_of_change (C:=Tryz.checked) fnExactMibGet_own started (by kernel_rfl) Tryz.func3
  (ChangeSpec.witness6 (enc:=enc) (C:=Tryz.checked) false ⟨#[],#[.agg #[.int .i64 0,.string ByteArray.empty,.slice none 0 0,.slice none 0 0,.slice none 0 0,.slice none 0 0,.int .i64 0,.int .i64 0,.int .i64 0,.int .i64 0,.int .i64 0],.slice none 0 0],[]⟩ 8 (by kernel_rfl) (by kernel_rfl) (by kernel_rfl) (by kernel_rfl)) ?_
 intro W base args ds gs before hval0 hW hcnd _;have hval:∀(j:Nat) t v,Tryz.f3.params[j]? = some t→args[j]? = some v→Value.okWide Tryz.prog W .any base t v:=hval0;have hW':=hW;obtain ⟨p,q,hA0,hV,rfl,hfz,hnd⟩:=hW;have hA:DataW.TrodAll enc Tryz.prog W 0 (fun _=>true) true Tryz.f3.params.toList args.toList ds p:=hA0;rw [Tryz.params3] at hA hval;obtain ⟨v0,vs0,d0,ds0,p0,q0,hargs,rfl,rfl,h0,r0⟩:=trodAll_cons hA;obtain ⟨v1,vs1,d1,ds1,p1,q1,rfl,rfl,rfl,h1,r1⟩:=trodAll_cons r0;obtain ⟨rfl,rfl,rfl⟩:=trodAll_nil r1;obtain rfl:args=#[v0,v1]:=by cases args; simp_all
 obtain ⟨rfl,rfl⟩:=trodVars_none hV;have k0:=h0;have lt0:∀x∈p0,x.block < W.heap.size:=by obtain ⟨m,hm⟩:=k0; exact DataW.trod_lt m _ _ _ hm
 have bt:zdU Tryz.prog 29 9 22 124 122 23 126 27 24 165 25 3 4 _ _ _ _ _ _ _ _ _ _ _ _ _ _ _ _ _ _ _ _ _ _ _ _ _ _ _ _ _:=⟨Tryz.underlying29,Tryz.underlying9,Tryz.underlying22,Tryz.underlying124,Tryz.underlying122,Tryz.underlying23,Tryz.underlying126,Tryz.underlying27,Tryz.underlying24,Tryz.underlying165,Tryz.underlying25,Tryz.underlying3,Tryz.underlying4,⟨rfl,rfl⟩,⟨rfl,rfl⟩,⟨rfl,rfl⟩,⟨rfl,rfl⟩,⟨rfl,rfl⟩,⟨rfl,rfl⟩,⟨rfl,rfl⟩,⟨rfl,rfl⟩,⟨rfl,rfl⟩,⟨rfl,rfl⟩,⟨rfl,rfl⟩,⟨rfl,rfl⟩,⟨rfl,rfl⟩,⟨rfl,rfl⟩,⟨rfl,rfl⟩,⟨rfl,rfl⟩,⟨rfl,rfl⟩,⟨rfl,rfl⟩,⟨rfl,rfl⟩,⟨rfl,rfl⟩,⟨rfl,rfl⟩,⟨rfl,rfl⟩,⟨rfl,rfl⟩,⟨rfl,rfl⟩,⟨rfl,rfl⟩,⟨rfl,rfl⟩,⟨rfl,rfl⟩,⟨rfl,rfl⟩,⟨rfl,rfl⟩,(by kernel_rfl),(by kernel_rfl),(by kernel_rfl),(by kernel_rfl),(by kernel_rfl),(by kernel_rfl),(by kernel_rfl),(by kernel_rfl),(by kernel_rfl),(by kernel_rfl),(by kernel_rfl),(by kernel_rfl),(by kernel_rfl)⟩;obtain ⟨a0,n0,c0,fa0,fn0,fc0,ra0,rn0,rc0,oa0,on0,oc0,B0,rfl,w0,g0⟩:=zcw bt (hval 0 29 v0 rfl rfl) h0;obtain ⟨a1,len1,cap1,rfl⟩:=okWide_slice Tryz.underlying25 (hval 1 25 v1 rfl rfl);have k1:=h1;have lt1:∀x∈p1,x.block < W.heap.size:=by obtain ⟨m,hm⟩:=k1; exact DataW.trod_lt m _ _ _ hm
 obtain ⟨z1,w1⟩:∃zs,IRow W a1 len1 cap1 zs:=by
  obtain ⟨fuel,hf⟩:=h1;rcases open_ints Tryz.underlying25 Tryz.underlying3 (by kernel_rfl) hf with ⟨hcs,_⟩ | ⟨x,l,c,zs,hcs,_,hl,hm,hz,_,hcell,hwz⟩
  ·simp [Value.cells] at hcs
   obtain ⟨rfl,rfl,rfl⟩:=hcs;exact ⟨[],zaF W⟩
  ·simp [Value.cells] at hcs
   obtain ⟨rfl,rfl,rfl⟩:=hcs;exact ⟨zs.take len1,zcs hl hm (by simpa using hz) hcell hwz⟩
 clear hA0 hval0;refine (zb5 a0 n0 c0 fa0 fn0 fc0 ra0 rn0 rc0 oa0 on0 oc0 B0 a1 len1 cap1 z1 W w0 g0 w1).mono fun e W' ⟨he,bel⟩ => ?_
 subst he;exact ⟨_,rfl,_,_,_,[],_,[],hW',trodAll_mk1 (shut_bool Tryz.underlying4 _),(trodAll_cons_mk (Below.trod fnExactMibGet_laid (by kernel_rfl) (of_decide_eq_true (by kernel_rfl)) k0 bel lt0) (trodAll_cons_mk (Below.trod fnExactMibGet_laid (by kernel_rfl) (of_decide_eq_true (by kernel_rfl)) k1 bel lt1) trodAll_mk0)),rfl,bel.frame _,fun h=>by cases h⟩

theorem fnExactMibGet_holds:Rows.FnExactMibGetSaid :=
 OpenClaim.holds_of_wide 3 Tryz.f3 rfl rfl rfl rfl rfl rfl rfl ⟨rfl,rfl,rfl,rfl,rfl⟩ rfl rfl rfl rfl rfl (by kernel_rfl) Tryz.func3 (by kernel_rfl)
  (of_decide_eq_true (by kernel_rfl)) (by unfold Func.isWrapper; first | (rw [if_pos (by decide +kernel)]; kernel_rfl) | (rw [if_neg (by decide +kernel)]; exact ⟨rfl,rfl⟩))
  (fun os started H enc _=>fnExactMibGet_lifted os started H enc)

#print axioms fnExactMibGet_holds

end Go.Proofs.YtcpdkcdfnpcemabGreat
