/-
  A link is cut, or joined, as the specification has it.
-/
import Derived.Test.YtkaefmfopejbaaaGreatPAK31
namespace Go.Proofs.YtkaefmfopejbaaaGreat
set_option maxRecDepth 100000
set_option maxHeartbeats 16000000
open Go.RowKit

theorem zfz (M:NV) (base X k:Nat) (up:Bool) (w:World) (h:NbSt w base X M) (hu:zT M.brs M.ls (k:Int)=up) :
  Calls Tryz.prog 79 #[.pointer (some ⟨X,0,none⟩),.int .i64 (k:Int),.bool up] w fun e w'=>e=.returned (.tuple #[])∧NbSt w' base X M∧Below base w w':=by
 obtain ⟨x0,x1,x2⟩:=zd h.box;go_enter Tryz.func79,Tryz.ntmps79;go_wp2_with fail
 refine (zbc M (k:Int) _ h.own.row).mono ?_;rintro e w1 ⟨rfl,b01⟩;rw [hu];have HST:=hide (h.later b01);have HB:=hide (b01.mono h.size);clear h b01 x0 x1 x2 hu;cases up <;> go_wp2 <;> exact bodyPost_ret (v:=.tuple #[]) (by simp [results,Tryz.results79,go_sem, *]) rfl ⟨rfl,HST.out,HB.out⟩

theorem zfA (M:NV) (base X k i j:Nat) (x:LK) (y z:BV) (up:Bool) (w:World) (h:NbSt w base X M) (hu:zT M.brs M.ls (k:Int)≠up) (hx:M.ls[k]? = some x) (hy0:M.bs[i]? = some y) (hz0:M.bs[j]? = some z) (hi:x.a=(i:Int)) (hj:x.b=(j:Int)) (hne:i≠j) (hsm:y.Small20) (hsm2:z.Small20) :
  Calls Tryz.prog 79 #[.pointer (some ⟨X,0,none⟩),.int .i64 (k:Int),.bool up] w fun e w'=>e=.returned (.tuple #[])∧∃y2 z2:BV,y2.B=linkB y.B x.p up∧z2.B=linkB z.B x.q up∧NbSt w' base X { M with bs:=(M.bs.set i y2).set j z2 }∧Below base w w':=by
 obtain ⟨ba,bn,bc,bs,la,ln,lc,ls,sa,sn,sc,ss⟩:=M;obtain ⟨xa,xp,xb,xq⟩:=x;generalize hU:zT _ _ _=U at hu;dsimp only at hx hy0 hz0 hi hj ⊢;subst hi hj;have hk:k < ln:=by have h1:=(List.getElem?_eq_some_iff.1 hx).1; have h2:ls.length=ln:=h.own.row.l.size; omega
 have hib:i < bn:=by have h1:=(List.getElem?_eq_some_iff.1 hy0).1; have h2:bs.length=bn:=h.own.b.grow.size; omega
 have hjb:j < bn:=by have h1:=(List.getElem?_eq_some_iff.1 hz0).1; have h2:bs.length=bn:=h.own.b.grow.size; omega
 obtain ⟨g,hg⟩:∃g,ba=some ⟨g,0,none⟩:=zbP h.own.b.row (show 0 < bn by omega);subst hg;obtain ⟨pre,post,hsp,hpl,hset⟩:=zdp hy0;have HSET:=hide hset;have HPL:=hide hpl;have HNE:=hide hne;subst hsp;have HG:Hid (g < w.heap.size):=hide (h.own.b.row.lt g rfl).2;have HAT:Hid ((pre++y::post)[i]? = some y):=hide hy0;have HZ:Hid ((pre++y::post)[j]? = some z):=hide hz0;have HSM:=hide hsm;have HSM2:=hide hsm2;clear hset hpl hy0 hz0 hsm hsm2;have i1:(0:Int)≤(k:Int):=by omega
 have i2:(k:Int) < (ln:Int):=by omega
 have i3:(0:Int)≤(i:Int):=by omega
 have i4:(i:Int) < (bn:Int):=by omega
 have i5:(0:Int)≤(j:Int):=by omega
 have i6:(j:Int) < (bn:Int):=by omega
 clear hib hjb hne;obtain ⟨x0,x1,x2⟩:=zd h.box;go_enter Tryz.func79,Tryz.ntmps79;go_wp2_with fail
 refine (zbc _ (k:Int) _ h.own.row).mono ?_;rintro e w1 ⟨rfl,b01⟩;rw [hU];have HZ1:Hid (w.heap.size≤w1.heap.size):=hide b01.size;have HB0:=hide (b01.mono h.size);have st:=h.later b01;clear h b01 x0 x1 x2 hU;obtain ⟨x',lb,lo,hx',hla,a0,a1,a2,a3⟩:=zao st.own.row.l k hk;dsimp only at hx' hla;rw [hx] at hx';cases hx';subst hla;obtain ⟨x0,x1,x2⟩:=zd st.box;clear hx hk;dsimp only at a0 a1 a2 a3 x0 x1 x2;have hq:(U == up)=false:=by cases U <;> cases up <;> simp_all
 go_upto_region 2 with fail
 generalize hw2:w1.alloc (Obj.cells #[.int .i64 (i:Int),.int .i64 xp,.int .i64 (j:Int),.int .i64 xq] 66)=w2;have b12:=zb hw2;have kL:=zk hw2;have HB2:=hide (HB0.out.trans (b12.mono st.size));have st:=st.later b12;have vv:Below w2.heap.size w2 w2.drew:=zq (Below.refl _ _);have kX:=za st.box vv;have kL:=za kL vv;have hyr:=(st.own.b.item y (by simp)).row;obtain ⟨⟨ca0,ca1,ca2,ca3,ca4,ca5,ca6,ca7,ca8,ca9,ca10⟩,-⟩:=zal (st.own.b.below vv).row HAT.out;clear hw2 b12 x0 x1 x2 a0 a1 a2 a3 HB0;refine wp_region_held_drew (S:=(fun W=>(zcc W X 0 (.slice (some ⟨g,0,none⟩) bn bc)∧zcc W X 1 (.slice (some ⟨lb,lo,none⟩) ln lc)∧zcc W X 2 (.slice sa sn sc))∧(zcc W w1.heap.size 0 (.int .i64 (i:Int))∧zcc W w1.heap.size 1 (.int .i64 xp)∧zcc W w1.heap.size 2 (.int .i64 (j:Int))∧zcc W w1.heap.size 3 (.int .i64 xq)))) (by kernel_rfl) (⟨zd kX,zE kL⟩) (fun hHeld => ?_);refine kK 0 ?_;refine kK 1 ?_;refine kK 2 ?_;refine kK 3 ?_;refine kK 4 ?_;refine kK 5 ?_;refine kK 6 ?_;refine kK 7 ?_;refine kK 8 ?_;refine kK 9 ?_;refine kK 10 ?_;refine kK 11 ?_;refine kK 12 ?_;refine kK 14 ?_;refine kK 15 ?_;refine kK 16 ?_;refine kR 13 fun K hK => ?_
 go_simp;refine kO hK (⟨zd kX,zE kL⟩) fun hHeld => ?_
 clear hK K;refine kR 17 fun K hK => ?_
 go_simp;refine (zcL y.a y.n y.c y.fa y.fn y.fc y.ra y.rn y.rc y.oa y.on y.oc y.B xp up _ ((hyr).below vv) HSM.out.1 HSM.out.2.1 HSM.out.2.2.1 HSM.out.2.2.2).mono ?_;rintro e wz ⟨a2,n2,c2,fa2,fn2,fc2,ra2,rn2,rc2,oa2,on2,oc2,rfl,ow2,hbz⟩;have ow2:=BrOwn.lt ow2 (base':=w2.heap.size) vv.size;have vv:=zc vv hbz;have kX:=za st.box vv;have kL:=za kL hbz;have hrow:=(st.own.b.below vv).row;obtain ⟨⟨t0,t1,t2,t3,t4,t5,t6,t7,t8,t9,t10⟩,f0,f1,f2,f3,f4,f5,f6,f7,f8,f9,f10⟩:=zal hrow HAT.out;go_wp2_with fail
 refine kO hK (⟨zd kX,zE kL⟩) fun hHeld => ?_
 clear hK K;refine kK 18 ?_;refine kR 19 fun K hK => ?_
 go_simp;refine zbi (⟨a2,n2,c2,fa2,fn2,fc2,ra2,rn2,rc2,oa2,on2,oc2,(linkB y.B xp up)⟩:BV) HPL.out (K:=K _) hrow (fun wq2 hq hgq => ?_);have stN:=st.put (y:=(⟨a2,n2,c2,fa2,fn2,fc2,ra2,rn2,rc2,oa2,on2,oc2,(linkB y.B xp up)⟩:BV)) rfl rfl vv ow2 hgq hq;have kX:=stN.1.box;have kL:=ze kL hgq (by intro j e; cases e; have:=HG.out; have:=HZ1.out; omega);refine kO hK (⟨zd kX,zE kL⟩) fun hHeld => ?_
 clear hK K;refine wpAnyH_done (by kernel_rfl) ?_ _;obtain ⟨y2,hy2,st2,hB2⟩:∃y2:BV,y2.B=linkB y.B xp up∧NbSt wq2 base X ⟨some ⟨g,0,none⟩,bn,bc,pre++y2::post,some ⟨lb,lo,none⟩,ln,lc,ls,sa,sn,sc,ss⟩∧Below base w2 wq2:=⟨(⟨a2,n2,c2,fa2,fn2,fc2,ra2,rn2,rc2,oa2,on2,oc2,(linkB y.B xp up)⟩:BV),rfl,stN.1,stN.2⟩;have HY2:=hide hy2;have HB3:=hide (HB2.out.trans hB2);have hz2:(pre++y2::post)[j]? = some z:=by
  rw [← HSET.out y2,List.getElem?_set_ne HNE.out];exact HZ.out
 obtain ⟨pre2,post2,hsp2,hpl2,hset2⟩:=zdp hz2;have HSET2:=hide hset2;have HPL2:=hide hpl2;have HAT2:Hid ((pre2++z::post2)[j]? = some z):=hide (by rw [← hsp2]; exact hz2);rw [hsp2] at st2;have vv2:Below wq2.heap.size wq2 wq2.drew:=zq (Below.refl _ _);have kX2:=za st2.box vv2;have kL2:=za kL vv2;have hyr2:=(st2.own.b.item z (by simp)).row;have hrow2:=(st2.own.b.below vv2).row;clear hHeld kX kL hq hgq hrow ow2 vv stN st hyr hy2 hB2 hz2 hset2 hpl2 hsp2 hbz;clear t0 t1 t2 t3 t4 t5 t6 t7 t8 t9 t10 ca0 ca1 ca2 ca3 ca4 ca5 ca6 ca7 ca8 ca9 ca10 f0 f1 f2 f3 f4 f5 f6 f7 f8 f9 f10;obtain ⟨⟨cb0,cb1,cb2,cb3,cb4,cb5,cb6,cb7,cb8,cb9,cb10⟩,-⟩:=zal hrow2 HAT2.out;clear hrow2;have st:=st2;have vv:=vv2;have kX:=kX2;have kL:=kL2;have hyr:=hyr2;clear st2 vv2 kX2 kL2 hyr2;go_upto_region 3 with fail
 refine wp_region_held_drew (S:=(fun W=>(zcc W X 0 (.slice (some ⟨g,0,none⟩) bn bc)∧zcc W X 1 (.slice (some ⟨lb,lo,none⟩) ln lc)∧zcc W X 2 (.slice sa sn sc))∧(zcc W w1.heap.size 0 (.int .i64 (i:Int))∧zcc W w1.heap.size 1 (.int .i64 xp)∧zcc W w1.heap.size 2 (.int .i64 (j:Int))∧zcc W w1.heap.size 3 (.int .i64 xq)))) (by kernel_rfl) (⟨zd kX,zE kL⟩) (fun hHeld => ?_);refine kK 0 ?_;refine kK 1 ?_;refine kK 2 ?_;refine kK 3 ?_;refine kK 4 ?_;refine kK 5 ?_;refine kK 6 ?_;refine kK 7 ?_;refine kK 8 ?_;refine kK 9 ?_;refine kK 10 ?_;refine kK 11 ?_;refine kK 12 ?_;refine kK 14 ?_;refine kK 15 ?_;refine kK 16 ?_;refine kR 13 fun K hK => ?_
 go_simp;refine kO hK (⟨zd kX,zE kL⟩) fun hHeld => ?_
 clear hK K;refine kR 17 fun K hK => ?_
 go_simp;refine (zcL z.a z.n z.c z.fa z.fn z.fc z.ra z.rn z.rc z.oa z.on z.oc z.B xq up _ ((hyr).below vv) HSM2.out.1 HSM2.out.2.1 HSM2.out.2.2.1 HSM2.out.2.2.2).mono ?_;rintro e wz ⟨a2,n2,c2,fa2,fn2,fc2,ra2,rn2,rc2,oa2,on2,oc2,rfl,ow2,hbz⟩;have ow2:=BrOwn.lt ow2 (base':=wq2.heap.size) vv.size;have vv:=zc vv hbz;have kX:=za st.box vv;have kL:=za kL hbz;have hrow:=(st.own.b.below vv).row;obtain ⟨⟨t0,t1,t2,t3,t4,t5,t6,t7,t8,t9,t10⟩,f0,f1,f2,f3,f4,f5,f6,f7,f8,f9,f10⟩:=zal hrow HAT2.out;go_wp2_with fail
 refine kO hK (⟨zd kX,zE kL⟩) fun hHeld => ?_
 clear hK K;refine kK 18 ?_;refine kR 19 fun K hK => ?_
 go_simp;refine zbi (⟨a2,n2,c2,fa2,fn2,fc2,ra2,rn2,rc2,oa2,on2,oc2,(linkB z.B xq up)⟩:BV) HPL2.out (K:=K _) hrow (fun wq3 hq hgq => ?_);have stN:=st.put (y:=(⟨a2,n2,c2,fa2,fn2,fc2,ra2,rn2,rc2,oa2,on2,oc2,(linkB z.B xq up)⟩:BV)) rfl rfl vv ow2 hgq hq;have kX:=stN.1.box;have kL:=ze kL hgq (by intro j e; cases e; have:=HG.out; have:=HZ1.out; omega);refine kO hK (⟨zd kX,zE kL⟩) fun hHeld => ?_
 clear hK K;refine wpAnyH_done (by kernel_rfl) ?_ _;have HST2:=hide stN;clear hHeld kX kL hq hgq hrow ow2 vv stN;go_wp2;refine bodyPost_end (v:=.tuple #[]) (by simp [results,Tryz.results79,go_sem, *]) rfl ?_;refine ⟨rfl,y2,HY2.out,(⟨a2,n2,c2,fa2,fn2,fc2,ra2,rn2,rc2,oa2,on2,oc2,(linkB z.B xq up)⟩:BV),rfl, ?_,HB3.out.trans HST2.out.2⟩;rw [HSET.out,HSET2.out];exact HST2.out.1

end Go.Proofs.YtkaefmfopejbaaaGreat
