/-
  Packed: StepDel NetIn.
-/
import Derived.Test.YtkaefmfopejbaaaGreatPAK20
import Derived.Test.YtkaefmfopejbaaaGreatPAK33
namespace Go.Proofs.YtkaefmfopejbaaaGreat
set_option maxRecDepth 100000
set_option maxHeartbeats 16000000
open Go.RowKit

def BR.Rg (B:BR):Prop:=(∀x∈B.f,x.Rng)∧∀r∈B.v.rows,r.Rng

theorem zgi (M:NV) (base X k:Nat) (back:Bool) (v:VD) (w:World) (h:NiSt w base X M) (hu:zT M.brs M.ls (k:Int)=false) :
  Calls Tryz.prog 49 #[.pointer (some ⟨X,0,none⟩),.agg #[.int .i64 (k:Int),.bool back,.int .i64 v.r,.int .i64 v.c,.int .i64 v.h,.int .i64 v.b,.int .i64 v.p]] w fun e w'=>e=.returned (.tuple #[])∧NiSt w' base X M∧Below base w w':=by
 have HU:=hide hu;clear hu;generalize hw1:w.alloc (Obj.cells #[.int .i64 (k:Int),.bool back,.int .i64 v.r,.int .i64 v.c,.int .i64 v.h,.int .i64 v.b,.int .i64 v.p] 99)=w1;have b01:=zb hw1;have kS:=zk hw1;have HZ1:Hid (w1.heap.size=w.heap.size+1):=hide (by rw [← hw1]; simp);have HSZ:=hide h.size;have st:=h.later b01;have HB1:=hide (b01.mono h.size);clear h b01;go_enter Tryz.func49,Tryz.ntmps49;go_upto_region 1 with fail
 clear hw1;have vv:Below w1.heap.size w1 w1.drew:=zq (Below.refl _ _);refine wp_region_held_drew (S:=(fun W=>(zcc W X 0 (.slice M.ba M.bn M.bc)∧zcc W X 1 (.slice M.la M.ln M.lc)∧zcc W X 2 (.slice M.sa M.sn M.sc))∧(zcc W w.heap.size 0 (.int .i64 (k:Int))∧zcc W w.heap.size 1 (.bool back)∧zcc W w.heap.size 2 (.int .i64 v.r)∧zcc W w.heap.size 3 (.int .i64 v.c)∧zcc W w.heap.size 4 (.int .i64 v.h)∧zcc W w.heap.size 5 (.int .i64 v.b)∧zcc W w.heap.size 6 (.int .i64 v.p)))) (by kernel_rfl) (⟨zd (za st.box vv),zag (za kS vv)⟩) (fun hHeld => ?_);refine kK 0 ?_;refine kK 1 ?_;refine kK 2 ?_;refine kK 3 ?_;refine kK 4 ?_;refine kK 5 ?_;refine kR 6 fun K hK => ?_
 go_simp;refine (za9 M (k:Int) _ (st.own.below vv).row).mono ?_;rintro e wz ⟨rfl,hbz⟩;rw [HU.out];have vv:=zc vv hbz;go_wp2_with fail
 refine kO hK (⟨zd (za st.box vv),zag (za kS vv)⟩) fun hHeld => ?_
 clear hK K;refine kK 7 ?_;refine wpAnyH_done (by kernel_rfl) ?_ _;have HST:=hide (st.later vv);have HB:=hide (HB1.out.trans (vv.mono st.size));clear hHeld st vv kS;go_wp2;exact bodyPost_ret (v:=.tuple #[]) (by simp [results,Tryz.results49,go_sem, *]) rfl ⟨rfl,HST.out,HB.out⟩

theorem zfg (M:NV) (base X k i:Nat) (back:Bool) (v:VD) (x:LK) (y:BV) (fb fp tp:Int) (w:World) (h:NiSt w base X M) (hu:zT M.brs M.ls (k:Int)=true) (hx:M.ls[k]? = some x) (hway:Way x back fb fp (i:Int) tp) (hy0:M.bs[i]? = some y) (hsm:y.Small20) (hrg:y.B.Rg) :
  Calls Tryz.prog 49 #[.pointer (some ⟨X,0,none⟩),.agg #[.int .i64 (k:Int),.bool back,.int .i64 v.r,.int .i64 v.c,.int .i64 v.h,.int .i64 v.b,.int .i64 v.p]] w fun e w'=>e=.returned (.tuple #[])∧∃y2:BV,y2.B=hearB y.B tp v∧NiSt w' base X { M with bs:=M.bs.set i y2 }∧Below base w w':=by
 obtain ⟨ba,bn,bc,bs,la,ln,lc,ls,sa,sn,sc,ss⟩:=M;obtain ⟨xa,xp,xb,xq⟩:=x;have HU:=hide hu;dsimp only at hx hy0 ⊢;have hk:k < ln:=by have h1:=(List.getElem?_eq_some_iff.1 hx).1; have h2:ls.length=ln:=h.own.row.l.size; omega
 have hib:i < bn:=by have h1:=(List.getElem?_eq_some_iff.1 hy0).1; have h2:bs.length=bn:=h.own.b.grow.size; omega
 have hle:bn≤9223372036854775807:=by have h1:=Nat.le_trans h.own.b.grow.le h.own.b.grow.top; unfold maxLen at h1; exact h1
 obtain ⟨g,hg⟩:∃g,ba=some ⟨g,0,none⟩:=zbP h.own.b.row (show 0 < bn by omega);subst hg;obtain ⟨x',lb,lo,hx',hla,-⟩:=zao h.own.row.l k hk;dsimp only at hx' hla;subst hla;clear hx';obtain ⟨pre,post,hsp,hpl,hset⟩:=zdp hy0;have HSET:=hide hset;have HPL:=hide hpl;subst hsp;have HG:Hid (g < w.heap.size):=hide (h.own.b.row.lt g rfl).2;have HAT:Hid ((pre++y::post)[i]? = some y):=hide hy0;have HSM:=hide hsm;have HRG:=hide hrg;have HLK:=hide hx;have HWAY:=hide hway;clear hset hpl hy0 hsm hrg hx hway hu;have i1:(0:Int)≤(k:Int):=by omega
 have i2:(k:Int) < (ln:Int):=by omega
 generalize hw1:w.alloc (Obj.cells #[.int .i64 (k:Int),.bool back,.int .i64 v.r,.int .i64 v.c,.int .i64 v.h,.int .i64 v.b,.int .i64 v.p] 99)=w1;have b01:=zb hw1;have kS:=zk hw1;have HZ1:Hid (w1.heap.size=w.heap.size+1):=hide (by rw [← hw1]; simp);have HSZ:=hide h.size;have st:=h.later b01;have HB1:=hide (b01.mono h.size);clear h b01;go_enter Tryz.func49,Tryz.ntmps49;go_upto_region 1 with fail
 clear hw1;have vv:Below w1.heap.size w1 w1.drew:=zq (Below.refl _ _);refine wp_region_held_drew (S:=(fun W=>(zcc W X 0 (.slice (some ⟨g,0,none⟩) bn bc)∧zcc W X 1 (.slice (some ⟨lb,lo,none⟩) ln lc)∧zcc W X 2 (.slice sa sn sc))∧(zcc W w.heap.size 0 (.int .i64 (k:Int))∧zcc W w.heap.size 1 (.bool back)∧zcc W w.heap.size 2 (.int .i64 v.r)∧zcc W w.heap.size 3 (.int .i64 v.c)∧zcc W w.heap.size 4 (.int .i64 v.h)∧zcc W w.heap.size 5 (.int .i64 v.b)∧zcc W w.heap.size 6 (.int .i64 v.p)))) (by kernel_rfl) (⟨zd (za st.box vv),zag (za kS vv)⟩) (fun hHeld => ?_);refine kK 0 ?_;refine kK 1 ?_;refine kK 2 ?_;refine kK 3 ?_;refine kK 4 ?_;refine kK 5 ?_;refine kR 6 fun K hK => ?_
 go_simp;refine (za9 ⟨some ⟨g,0,none⟩,bn,bc,pre++y::post,some ⟨lb,lo,none⟩,ln,lc,ls,sa,sn,sc,ss⟩ (k:Int) _ (st.own.below vv).row).mono ?_;rintro e wz ⟨rfl,hbz⟩;rw [HU.out];have vv:=zc vv hbz;go_wp2_with fail
 refine kO hK (⟨zd (za st.box vv),zag (za kS vv)⟩) fun hHeld => ?_
 clear hK K;refine kK 7 ?_;refine wpAnyH_done (by kernel_rfl) ?_ _;have HB2:=hide (HB1.out.trans (vv.mono st.size));have st2:=st.later vv;have kS2:=za kS vv;have HZ2:Hid (w.heap.size < wz.heap.size):=hide (by have:=vv.size; have:=HZ1.out; omega);obtain ⟨w2,hw2⟩:∃u,u=wz:=⟨_,rfl⟩;subst hw2;clear hHeld st kS vv hbz HB1 HZ1;have st:=st2;have kS:=kS2;clear st2 kS2;have HLC:Hid (∀W,Below w2.heap.size w2 W→zcc W lb (lo+k*4) (.int .i64 xa)∧zcc W lb (lo+k*4+1) (.int .i64 xp)∧zcc W lb (lo+k*4+2) (.int .i64 xb)∧zcc W lb (lo+k*4+3) (.int .i64 xq)):=hide (fun W hW=>by
  have h2:GRow linkF w2 (some ⟨lb,lo,none⟩) ln lc ls:=st.own.row.l
  have:=zj4 h2 hW HLK.out
  simpa using this)
 go_upto_region 2 with fail
 go_cut [4,5] from 15 to 29 (fun _ u wx=>∃Y:Nat,u=.pointer (some ⟨Y,0,none⟩)∧NiSt wx base X ⟨some ⟨g,0,none⟩,bn,bc,pre++y::post,some ⟨lb,lo,none⟩,ln,lc,ls,sa,sn,sc,ss⟩∧wx.heap[w.heap.size]? = some (.cells #[.int .i64 (k:Int),.bool back,.int .i64 v.r,.int .i64 v.c,.int .i64 v.h,.int .i64 v.b,.int .i64 v.p] 99)∧wx.heap[Y]? = some (.cells #[.int .i64 (i:Int),.int .i64 tp] 68)∧w.heap.size < Y∧Below base w wx)
 case first =>
  have vv:Below w2.heap.size w2 w2.drew:=zq (Below.refl _ _);refine wp_region_held_drew (S:=(fun W=>(zcc W X 0 (.slice (some ⟨g,0,none⟩) bn bc)∧zcc W X 1 (.slice (some ⟨lb,lo,none⟩) ln lc)∧zcc W X 2 (.slice sa sn sc))∧(zcc W w.heap.size 0 (.int .i64 (k:Int))∧zcc W w.heap.size 1 (.bool back)∧zcc W w.heap.size 2 (.int .i64 v.r)∧zcc W w.heap.size 3 (.int .i64 v.c)∧zcc W w.heap.size 4 (.int .i64 v.h)∧zcc W w.heap.size 5 (.int .i64 v.b)∧zcc W w.heap.size 6 (.int .i64 v.p))∧(zcc W lb (lo+k*4) (.int .i64 xa)∧zcc W lb (lo+k*4+1) (.int .i64 xp)∧zcc W lb (lo+k*4+2) (.int .i64 xb)∧zcc W lb (lo+k*4+3) (.int .i64 xq)))) (by kernel_rfl) (⟨zd (za st.box vv),zag (za kS vv),HLC.out _ vv⟩) (fun hHeld => ?_);refine kK 0 ?_;refine kK 1 ?_;refine kK 2 ?_;refine kK 3 ?_;refine kK 4 ?_;refine kK 5 ?_;refine kK 6 ?_;refine kK 7 ?_;refine kK 8 ?_;refine kK 9 ?_;refine kK 10 ?_;refine tR [11,15,16] ?_;refine kC (fun K hK => ?_) ?_
  ·go_simp;refine (zb7 ⟨xa,xp,xb,xq⟩ back fb fp (i:Int) tp _ HWAY.out).mono ?_;rintro e wz ⟨rfl,hbz⟩;(try have kA:=za kA hbz);(try have kE:=za kE hbz);have vv:=zc vv hbz;(go_wp2_with fail);refine kO hK (⟨zd (za st.box vv),zag (za kS vv),HLC.out _ vv⟩) fun hHeld => ?_
   clear hK K;refine kK 12 ?_;refine kK 13 ?_;refine kK 14 ?_;refine tR [15,16] ?_;refine kC (fun K hK => ?_) ?_
   ·go_simp
    first
    | refine zw (K:=K _) (fun wx4 kA hbx => ?_)
    | refine zo (K:=K _) (fun wx4 kA hbx => ?_)
    have gA:w2.heap.size≤_:=vv.size;(try have dA:=zaX kE);(try have kE:=za kE hbx);have vv:=zc vv hbx;clear hbx;refine kO hK (⟨zd (za st.box vv),zag (za kS vv),HLC.out _ vv⟩) fun hHeld => ?_
    clear hK K;refine kR 16 fun K hK => ?_
    go_simp
    first
    | refine zw (K:=K _) (fun wx5 kE hbx => ?_)
    | refine zo (K:=K _) (fun wx5 kE hbx => ?_)
    have gC:w2.heap.size≤_:=vv.size;(try have dC:=zaX kA);(try have kA:=za kA hbx);have vv:=zc vv hbx;clear hbx;refine kO hK (⟨zd (za st.box vv),zag (za kS vv),HLC.out _ vv⟩) fun hHeld => ?_
    clear hK K;refine kR 17 fun K hK => ?_
    obtain ⟨xx0,xx1⟩:=zm kA;have ff0:=zf kA 0;have ff1:=zf kA 1;go_simp;refine zN (K:=K _) kA _ _ (fun wq4 kQ hgq => ?_);have vv:=vv.grown hgq vv.size (by intro j e; cases e; exact gA);have kE:=ze kE hgq (by intro j e; cases e; first | (clear dA; omega) | omega);clear xx0 xx1 ff0 ff1 kQ hgq;refine kO hK (⟨zd (za st.box vv),zag (za kS vv),HLC.out _ vv⟩) fun hHeld => ?_
    clear hK K;refine kR 18 fun K hK => ?_
    obtain ⟨xx0,xx1⟩:=zm kE;have ff0:=zf kE 0;have ff1:=zf kE 1;go_simp;refine zN (K:=K _) kE _ _ (fun wq5 kQ hgq => ?_);have vv:=vv.grown hgq vv.size (by intro j e; cases e; exact gC);clear xx0 xx1 ff0 ff1;refine kO hK (⟨zd (za st.box vv),zag (za kS vv),HLC.out _ vv⟩) fun hHeld => ?_
    clear hK K;refine wpAnyH_done (by kernel_rfl) ?_ _;clear hHeld;(go_wp2_with fail)
    go_meet
    exact ⟨_,rfl,st.later vv,za kS vv,kQ,by have:=HZ2.out; omega,HB2.out.trans (vv.mono st.size)⟩
   refine kC (fun K hK => ?_) ?_
   ·go_simp
    first
    | refine zw (K:=K _) (fun wx5 kE hbx => ?_)
    | refine zo (K:=K _) (fun wx5 kE hbx => ?_)
    have gC:w2.heap.size≤_:=vv.size;(try have dC:=zaX kA);(try have kA:=za kA hbx);have vv:=zc vv hbx;clear hbx;refine kO hK (⟨zd (za st.box vv),zag (za kS vv),HLC.out _ vv⟩) fun hHeld => ?_
    clear hK K;refine kR 15 fun K hK => ?_
    go_simp
    first
    | refine zw (K:=K _) (fun wx4 kA hbx => ?_)
    | refine zo (K:=K _) (fun wx4 kA hbx => ?_)
    have gA:w2.heap.size≤_:=vv.size;(try have dA:=zaX kE);(try have kE:=za kE hbx);have vv:=zc vv hbx;clear hbx;refine kO hK (⟨zd (za st.box vv),zag (za kS vv),HLC.out _ vv⟩) fun hHeld => ?_
    clear hK K;refine kR 17 fun K hK => ?_
    obtain ⟨xx0,xx1⟩:=zm kA;have ff0:=zf kA 0;have ff1:=zf kA 1;go_simp;refine zN (K:=K _) kA _ _ (fun wq4 kQ hgq => ?_);have vv:=vv.grown hgq vv.size (by intro j e; cases e; exact gA);have kE:=ze kE hgq (by intro j e; cases e; first | (clear dA; omega) | omega);clear xx0 xx1 ff0 ff1 kQ hgq;refine kO hK (⟨zd (za st.box vv),zag (za kS vv),HLC.out _ vv⟩) fun hHeld => ?_
    clear hK K;refine kR 18 fun K hK => ?_
    obtain ⟨xx0,xx1⟩:=zm kE;have ff0:=zf kE 0;have ff1:=zf kE 1;go_simp;refine zN (K:=K _) kE _ _ (fun wq5 kQ hgq => ?_);have vv:=vv.grown hgq vv.size (by intro j e; cases e; exact gC);clear xx0 xx1 ff0 ff1;refine kO hK (⟨zd (za st.box vv),zag (za kS vv),HLC.out _ vv⟩) fun hHeld => ?_
    clear hK K;refine wpAnyH_done (by kernel_rfl) ?_ _;clear hHeld;(go_wp2_with fail)
    go_meet
    exact ⟨_,rfl,st.later vv,za kS vv,kQ,by have:=HZ2.out; omega,HB2.out.trans (vv.mono st.size)⟩
   exact AllReadyH.nil
  refine kC (fun K hK => ?_) ?_
  ·go_simp
   first
   | refine zw (K:=K _) (fun wx4 kA hbx => ?_)
   | refine zo (K:=K _) (fun wx4 kA hbx => ?_)
   have gA:w2.heap.size≤_:=vv.size;(try have dA:=zaX kE);(try have kE:=za kE hbx);have vv:=zc vv hbx;clear hbx;refine kO hK (⟨zd (za st.box vv),zag (za kS vv),HLC.out _ vv⟩) fun hHeld => ?_
   clear hK K;refine tR [11,16] ?_;refine kC (fun K hK => ?_) ?_
   ·go_simp;refine (zb7 ⟨xa,xp,xb,xq⟩ back fb fp (i:Int) tp _ HWAY.out).mono ?_;rintro e wz ⟨rfl,hbz⟩;(try have kA:=za kA hbz);(try have kE:=za kE hbz);have vv:=zc vv hbz;(go_wp2_with fail);refine kO hK (⟨zd (za st.box vv),zag (za kS vv),HLC.out _ vv⟩) fun hHeld => ?_
    clear hK K;refine kK 12 ?_;refine kK 13 ?_;refine kK 14 ?_;refine kR 16 fun K hK => ?_
    go_simp
    first
    | refine zw (K:=K _) (fun wx5 kE hbx => ?_)
    | refine zo (K:=K _) (fun wx5 kE hbx => ?_)
    have gC:w2.heap.size≤_:=vv.size;(try have dC:=zaX kA);(try have kA:=za kA hbx);have vv:=zc vv hbx;clear hbx;refine kO hK (⟨zd (za st.box vv),zag (za kS vv),HLC.out _ vv⟩) fun hHeld => ?_
    clear hK K;refine kR 17 fun K hK => ?_
    obtain ⟨xx0,xx1⟩:=zm kA;have ff0:=zf kA 0;have ff1:=zf kA 1;go_simp;refine zN (K:=K _) kA _ _ (fun wq4 kQ hgq => ?_);have vv:=vv.grown hgq vv.size (by intro j e; cases e; exact gA);have kE:=ze kE hgq (by intro j e; cases e; first | (clear dA; omega) | omega);clear xx0 xx1 ff0 ff1 kQ hgq;refine kO hK (⟨zd (za st.box vv),zag (za kS vv),HLC.out _ vv⟩) fun hHeld => ?_
    clear hK K;refine kR 18 fun K hK => ?_
    obtain ⟨xx0,xx1⟩:=zm kE;have ff0:=zf kE 0;have ff1:=zf kE 1;go_simp;refine zN (K:=K _) kE _ _ (fun wq5 kQ hgq => ?_);have vv:=vv.grown hgq vv.size (by intro j e; cases e; exact gC);clear xx0 xx1 ff0 ff1;refine kO hK (⟨zd (za st.box vv),zag (za kS vv),HLC.out _ vv⟩) fun hHeld => ?_
    clear hK K;refine wpAnyH_done (by kernel_rfl) ?_ _;clear hHeld;(go_wp2_with fail)
    go_meet
    exact ⟨_,rfl,st.later vv,za kS vv,kQ,by have:=HZ2.out; omega,HB2.out.trans (vv.mono st.size)⟩
   refine kC (fun K hK => ?_) ?_
   ·go_simp
    first
    | refine zw (K:=K _) (fun wx5 kE hbx => ?_)
    | refine zo (K:=K _) (fun wx5 kE hbx => ?_)
    have gC:w2.heap.size≤_:=vv.size;(try have dC:=zaX kA);(try have kA:=za kA hbx);have vv:=zc vv hbx;clear hbx;refine kO hK (⟨zd (za st.box vv),zag (za kS vv),HLC.out _ vv⟩) fun hHeld => ?_
    clear hK K;refine kR 11 fun K hK => ?_
    go_simp;refine (zb7 ⟨xa,xp,xb,xq⟩ back fb fp (i:Int) tp _ HWAY.out).mono ?_;rintro e wz ⟨rfl,hbz⟩;(try have kA:=za kA hbz);(try have kE:=za kE hbz);have vv:=zc vv hbz;(go_wp2_with fail);refine kO hK (⟨zd (za st.box vv),zag (za kS vv),HLC.out _ vv⟩) fun hHeld => ?_
    clear hK K;refine kK 12 ?_;refine kK 13 ?_;refine kK 14 ?_;refine kR 17 fun K hK => ?_
    obtain ⟨xx0,xx1⟩:=zm kA;have ff0:=zf kA 0;have ff1:=zf kA 1;go_simp;refine zN (K:=K _) kA _ _ (fun wq4 kQ hgq => ?_);have vv:=vv.grown hgq vv.size (by intro j e; cases e; exact gA);have kE:=ze kE hgq (by intro j e; cases e; first | (clear dA; omega) | omega);clear xx0 xx1 ff0 ff1 kQ hgq;refine kO hK (⟨zd (za st.box vv),zag (za kS vv),HLC.out _ vv⟩) fun hHeld => ?_
    clear hK K;refine kR 18 fun K hK => ?_
    obtain ⟨xx0,xx1⟩:=zm kE;have ff0:=zf kE 0;have ff1:=zf kE 1;go_simp;refine zN (K:=K _) kE _ _ (fun wq5 kQ hgq => ?_);have vv:=vv.grown hgq vv.size (by intro j e; cases e; exact gC);clear xx0 xx1 ff0 ff1;refine kO hK (⟨zd (za st.box vv),zag (za kS vv),HLC.out _ vv⟩) fun hHeld => ?_
    clear hK K;refine wpAnyH_done (by kernel_rfl) ?_ _;clear hHeld;(go_wp2_with fail)
    go_meet
    exact ⟨_,rfl,st.later vv,za kS vv,kQ,by have:=HZ2.out; omega,HB2.out.trans (vv.mono st.size)⟩
   exact AllReadyH.nil
  refine kC (fun K hK => ?_) ?_
  ·go_simp
   first
   | refine zw (K:=K _) (fun wx5 kE hbx => ?_)
   | refine zo (K:=K _) (fun wx5 kE hbx => ?_)
   have gC:w2.heap.size≤_:=vv.size;(try have dC:=zaX kA);(try have kA:=za kA hbx);have vv:=zc vv hbx;clear hbx;refine kO hK (⟨zd (za st.box vv),zag (za kS vv),HLC.out _ vv⟩) fun hHeld => ?_
   clear hK K;refine tR [11,15] ?_;refine kC (fun K hK => ?_) ?_
   ·go_simp;refine (zb7 ⟨xa,xp,xb,xq⟩ back fb fp (i:Int) tp _ HWAY.out).mono ?_;rintro e wz ⟨rfl,hbz⟩;(try have kA:=za kA hbz);(try have kE:=za kE hbz);have vv:=zc vv hbz;(go_wp2_with fail);refine kO hK (⟨zd (za st.box vv),zag (za kS vv),HLC.out _ vv⟩) fun hHeld => ?_
    clear hK K;refine kK 12 ?_;refine kK 13 ?_;refine kK 14 ?_;refine kR 15 fun K hK => ?_
    go_simp
    first
    | refine zw (K:=K _) (fun wx4 kA hbx => ?_)
    | refine zo (K:=K _) (fun wx4 kA hbx => ?_)
    have gA:w2.heap.size≤_:=vv.size;(try have dA:=zaX kE);(try have kE:=za kE hbx);have vv:=zc vv hbx;clear hbx;refine kO hK (⟨zd (za st.box vv),zag (za kS vv),HLC.out _ vv⟩) fun hHeld => ?_
    clear hK K;refine kR 17 fun K hK => ?_
    obtain ⟨xx0,xx1⟩:=zm kA;have ff0:=zf kA 0;have ff1:=zf kA 1;go_simp;refine zN (K:=K _) kA _ _ (fun wq4 kQ hgq => ?_);have vv:=vv.grown hgq vv.size (by intro j e; cases e; exact gA);have kE:=ze kE hgq (by intro j e; cases e; first | (clear dA; omega) | omega);clear xx0 xx1 ff0 ff1 kQ hgq;refine kO hK (⟨zd (za st.box vv),zag (za kS vv),HLC.out _ vv⟩) fun hHeld => ?_
    clear hK K;refine kR 18 fun K hK => ?_
    obtain ⟨xx0,xx1⟩:=zm kE;have ff0:=zf kE 0;have ff1:=zf kE 1;go_simp;refine zN (K:=K _) kE _ _ (fun wq5 kQ hgq => ?_);have vv:=vv.grown hgq vv.size (by intro j e; cases e; exact gC);clear xx0 xx1 ff0 ff1;refine kO hK (⟨zd (za st.box vv),zag (za kS vv),HLC.out _ vv⟩) fun hHeld => ?_
    clear hK K;refine wpAnyH_done (by kernel_rfl) ?_ _;clear hHeld;(go_wp2_with fail)
    go_meet
    exact ⟨_,rfl,st.later vv,za kS vv,kQ,by have:=HZ2.out; omega,HB2.out.trans (vv.mono st.size)⟩
   refine kC (fun K hK => ?_) ?_
   ·go_simp
    first
    | refine zw (K:=K _) (fun wx4 kA hbx => ?_)
    | refine zo (K:=K _) (fun wx4 kA hbx => ?_)
    have gA:w2.heap.size≤_:=vv.size;(try have dA:=zaX kE);(try have kE:=za kE hbx);have vv:=zc vv hbx;clear hbx;refine kO hK (⟨zd (za st.box vv),zag (za kS vv),HLC.out _ vv⟩) fun hHeld => ?_
    clear hK K;refine kR 11 fun K hK => ?_
    go_simp;refine (zb7 ⟨xa,xp,xb,xq⟩ back fb fp (i:Int) tp _ HWAY.out).mono ?_;rintro e wz ⟨rfl,hbz⟩;(try have kA:=za kA hbz);(try have kE:=za kE hbz);have vv:=zc vv hbz;(go_wp2_with fail);refine kO hK (⟨zd (za st.box vv),zag (za kS vv),HLC.out _ vv⟩) fun hHeld => ?_
    clear hK K;refine kK 12 ?_;refine kK 13 ?_;refine kK 14 ?_;refine kR 17 fun K hK => ?_
    obtain ⟨xx0,xx1⟩:=zm kA;have ff0:=zf kA 0;have ff1:=zf kA 1;go_simp;refine zN (K:=K _) kA _ _ (fun wq4 kQ hgq => ?_);have vv:=vv.grown hgq vv.size (by intro j e; cases e; exact gA);have kE:=ze kE hgq (by intro j e; cases e; first | (clear dA; omega) | omega);clear xx0 xx1 ff0 ff1 kQ hgq;refine kO hK (⟨zd (za st.box vv),zag (za kS vv),HLC.out _ vv⟩) fun hHeld => ?_
    clear hK K;refine kR 18 fun K hK => ?_
    obtain ⟨xx0,xx1⟩:=zm kE;have ff0:=zf kE 0;have ff1:=zf kE 1;go_simp;refine zN (K:=K _) kE _ _ (fun wq5 kQ hgq => ?_);have vv:=vv.grown hgq vv.size (by intro j e; cases e; exact gC);clear xx0 xx1 ff0 ff1;refine kO hK (⟨zd (za st.box vv),zag (za kS vv),HLC.out _ vv⟩) fun hHeld => ?_
    clear hK K;refine wpAnyH_done (by kernel_rfl) ?_ _;clear hHeld;(go_wp2_with fail)
    go_meet
    exact ⟨_,rfl,st.later vv,za kS vv,kQ,by have:=HZ2.out; omega,HB2.out.trans (vv.mono st.size)⟩
   exact AllReadyH.nil
  exact AllReadyH.nil
 case rest =>
  obtain ⟨Y,rfl,st3,kS3,kE,hYL,hB3⟩:=hcut;obtain ⟨w3,hw3⟩:∃u,u=wc:=⟨_,rfl⟩;subst hw3;have HYL:Hid (w.heap.size < Y):=hide hYL;have HB3:=hide hB3;clear st kS HLC hYL hB3 HB2 HZ2;have st:=st3;have kS:=kS3;clear st3 kS3;have vv:Below w3.heap.size w3 w3.drew:=zq (Below.refl _ _);(go_upto_region 3 with fail);refine wp_region_held_drew (S:=(fun W=>(zcc W X 0 (.slice (some ⟨g,0,none⟩) bn bc)∧zcc W X 1 (.slice (some ⟨lb,lo,none⟩) ln lc)∧zcc W X 2 (.slice sa sn sc))∧(zcc W Y 0 (.int .i64 (i:Int))∧zcc W Y 1 (.int .i64 tp)))) (by kernel_rfl) (⟨zd (za st.box vv),zm (za kE vv)⟩) (fun hHeld => ?_);refine kK 0 ?_;refine kK 1 ?_;refine kK 2 ?_;refine kK 3 ?_;refine kK 4 ?_;refine kK 5 ?_;refine kR 6 fun K hK => ?_
  go_simp;refine (zbm ⟨some ⟨g,0,none⟩,bn,bc,pre++y::post,some ⟨lb,lo,none⟩,ln,lc,ls,sa,sn,sc,ss⟩ i g 0 _ hle hib rfl).mono ?_;rintro e wz ⟨rfl,hbz⟩;have vv:=zc vv hbz;(go_wp2_with fail);refine kO hK (⟨zd (za st.box vv),zm (za kE vv)⟩) fun hHeld => ?_
  clear hK K;refine kK 7 ?_;refine wpAnyH_done (by kernel_rfl) ?_ _;have HB4:=hide (HB3.out.trans (vv.mono st.size));have st4:=st.later vv;have kS4:=za kS vv;have kC4:=za kE vv;obtain ⟨w4,hw4⟩:∃u,u=wz:=⟨_,rfl⟩;subst hw4;clear hHeld st kS kE vv hbz HB3;have st:=st4;have vv:Below w4.heap.size w4 w4.drew:=zq (Below.refl _ _);have kS:=za kS4 vv;have kE:=za kC4 vv;have hyr:=(st.own.b.item y (by simp)).row;obtain ⟨⟨ca0,ca1,ca2,ca3,ca4,ca5,ca6,ca7,ca8,ca9,ca10⟩,-⟩:=zal (st.own.b.below vv).row HAT.out;(try rw [Nat.zero_add]);clear st4 kS4 kC4;(go_upto_region 4 with fail);refine wp_region_held_drew (S:=(fun W=>(zcc W w.heap.size 0 (.int .i64 (k:Int))∧zcc W w.heap.size 1 (.bool back)∧zcc W w.heap.size 2 (.int .i64 v.r)∧zcc W w.heap.size 3 (.int .i64 v.c)∧zcc W w.heap.size 4 (.int .i64 v.h)∧zcc W w.heap.size 5 (.int .i64 v.b)∧zcc W w.heap.size 6 (.int .i64 v.p))∧(zcc W Y 0 (.int .i64 (i:Int))∧zcc W Y 1 (.int .i64 tp)))) (by kernel_rfl) (⟨zag kS,zm kE⟩) (fun hHeld => ?_);refine kK 0 ?_;refine kK 1 ?_;refine kK 2 ?_;refine kK 4 ?_;refine kK 5 ?_;refine kK 6 ?_;refine kK 7 ?_;refine kR 3 fun K hK => ?_
  go_simp;refine kO hK (⟨zag kS,zm kE⟩) fun hHeld => ?_
  clear hK K;refine kR 8 fun K hK => ?_
  go_simp;refine (zgP y.a y.n y.c y.fa y.fn y.fc y.ra y.rn y.rc y.oa y.on y.oc y.B tp v _ (hyr.below vv) HSM.out.1 HSM.out.2.1 HSM.out.2.2.1 HSM.out.2.2.2 HRG.out.1 HRG.out.2).mono ?_;rintro e wz ⟨a2,n2,c2,fa2,fn2,fc2,ra2,rn2,rc2,oa2,on2,oc2,rfl,ow2,hbz⟩;have ow2:=BrOwn.lt ow2 (base':=w4.heap.size) vv.size;have vv:=zc vv hbz;have kS:=za kS hbz;have kE:=za kE hbz;have hrow:=(st.own.b.below vv).row;obtain ⟨⟨t0,t1,t2,t3,t4,t5,t6,t7,t8,t9,t10⟩,f0,f1,f2,f3,f4,f5,f6,f7,f8,f9,f10⟩:=zal hrow HAT.out;(go_wp2_with fail);refine kO hK (⟨zag kS,zm kE⟩) fun hHeld => ?_
  clear hK K;refine kK 9 ?_;refine kR 10 fun K hK => ?_
  go_simp;refine zbi (⟨a2,n2,c2,fa2,fn2,fc2,ra2,rn2,rc2,oa2,on2,oc2,(hearB y.B tp v)⟩:BV) HPL.out (K:=K _) hrow (fun wq hq hgq => ?_);have stN:=st.put (y:=(⟨a2,n2,c2,fa2,fn2,fc2,ra2,rn2,rc2,oa2,on2,oc2,(hearB y.B tp v)⟩:BV)) rfl rfl vv ow2 hgq hq;have kS:=ze kS hgq (by intro j e; cases e; have:=HG.out; omega);have kE:=ze kE hgq (by intro j e; cases e; have:=HG.out; have:=HYL.out; omega);refine kO hK (⟨zag kS,zm kE⟩) fun hHeld => ?_
  clear hK K;refine wpAnyH_done (by kernel_rfl) ?_ _;have HST:=hide stN;clear hHeld kS kE hq hgq hrow ow2 vv stN;go_wp2;refine bodyPost_end (v:=.tuple #[]) (by simp [results,Tryz.results49,go_sem, *]) rfl ?_;refine ⟨rfl,(⟨a2,n2,c2,fa2,fn2,fc2,ra2,rn2,rc2,oa2,on2,oc2,(hearB y.B tp v)⟩:BV),rfl, ?_,HB4.out.trans HST.out.2⟩;rw [HSET.out];exact HST.out.1

theorem zaq {w:World} {g:Nat} {T:TypeId} {c0 c1 c2 c3 c4 c5 c6 c7 c8 c9 c10:Value} (h:w.heap[g]? = some (.cells #[c0,c1,c2,c3,c4,c5,c6,c7,c8,c9,c10] T)):w.cell? ⟨g,0,none⟩=some c0∧w.cell? ⟨g,1,none⟩=some c1∧w.cell? ⟨g,2,none⟩=some c2∧w.cell? ⟨g,3,none⟩=some c3∧w.cell? ⟨g,4,none⟩=some c4∧w.cell? ⟨g,5,none⟩=some c5∧w.cell? ⟨g,6,none⟩=some c6∧w.cell? ⟨g,7,none⟩=some c7∧w.cell? ⟨g,8,none⟩=some c8∧w.cell? ⟨g,9,none⟩=some c9∧w.cell? ⟨g,10,none⟩=some c10:=by
 simp [World.cell?,h]

theorem zdz (N:NV) (w:World) (h:zaa w N) (hn:N.bn≤16777216) (hl:N.ln≤16777216) (hs:N.sn≤16777216) (hm:∀x∈N.bs,x.n≤16777216∧x.fn≤16777216∧x.rn≤16777216∧x.on≤16777216) :
  Calls Tryz.prog 23 #[.agg #[.slice N.ba N.bn N.bc,.slice N.la N.ln N.lc,.slice N.sa N.sn N.sc]] w fun e w'=>∃(X base:Nat) (M:NV),e=.returned (.pointer (some ⟨X,0,none⟩))∧NiSt w' base X M∧M.Same N∧w.heap.size≤base∧Below w.heap.size w w':=by
 generalize hw1:w.alloc (Obj.cells #[.slice N.ba N.bn N.bc,.slice N.la N.ln N.lc,.slice N.sa N.sn N.sc] 28)=w1;have b01:=zb hw1;have kP:=zk hw1;have HZ:Hid (w1.heap.size=w.heap.size+1):=hide (by rw [← hw1]; simp);have hbl:=Nat.le_trans h.b.le h.b.top;unfold maxLen at hbl;go_enter Tryz.func23,Tryz.ntmps23;go_upto_region 1 with fail
 clear hw1;have vv:Below w1.heap.size w1 w1.drew:=zq (Below.refl _ _);refine wp_region_held_drew (S:=(fun W=>zcc W w.heap.size 0 (.slice N.ba N.bn N.bc)∧zcc W w.heap.size 1 (.slice N.la N.ln N.lc)∧zcc W w.heap.size 2 (.slice N.sa N.sn N.sc))) (by kernel_rfl) (zd (za kP vv)) (fun hHeld => ?_);refine kK 0 ?_;refine kK 1 ?_;refine kK 3 ?_;refine kK 4 ?_;refine kR 2 fun K hK => ?_
 go_simp;refine (zjQ N.la N.ln N.lc N.ls _ (h.l.below (zc b01 vv)) (by omega)).mono ?_;rintro e wz ⟨la,lc,rfl,oL,hbz⟩;have oL:=zH oL vv.size;have vv:=zc vv hbz;go_wp2_with fail
 refine kO hK (zd (za kP vv)) fun hHeld => ?_
 clear hK K;refine kR 5 fun K hK => ?_
 go_simp;refine (zjR N.sa N.sn N.sc N.ss _ (h.s.below (zc b01 vv)) (by omega)).mono ?_;rintro e wz2 ⟨sa,sc,rfl,oS,hbz⟩;have oS:=zH oS vv.size;have oL:=zh oL hbz;have vv:=zc vv hbz;go_wp2_with fail
 refine kO hK (zd (za kP vv)) fun hHeld => ?_
 clear hK K;refine kK 6 ?_;refine kK 7 ?_;refine kR 8 fun K hK => ?_
 go_simp
 first
 | refine zw (K:=K _) (fun wx kX hbx => ?_)
 | refine zo (K:=K _) (fun wx kX hbx => ?_)
 have gX:=vv.size;have oS:=zh oS hbx;have oL:=zh oL hbx;have vv:=zc vv hbx;clear hbx;refine kO hK (zd (za kP vv)) fun hHeld => ?_
 clear hK K;refine kK 9 ?_;refine wpAnyH_done (by kernel_rfl) ?_ _;have st0:NiSt wx w1.heap.size _ ⟨none,0,0,[],la,N.ln,lc,N.ls,sa,N.sn,sc,N.ss⟩:=⟨kX,⟨zaT _ _,oL,oS⟩,gX⟩;have hB0:=zc b01 vv;generalize hXX:wz2.heap.size=X at *;have HZB:Hid (w.heap.size≤w1.heap.size):=hide (by have:=HZ.out; omega);obtain ⟨x0,x1,x2⟩:=zd (za kP vv);generalize hbase:w1.heap.size=base at *;clear hHeld oL oS kX gX vv;go_wp2_with fail
 go_loopw [18] (fun i wr=>∃(k:Nat) (M:NV),k≤N.bn∧i=.int .i64 k∧NiSt wr base X M∧Below w.heap.size w wr∧M.bn=k∧M.bs.map BV.B=(N.bs.take k).map BV.B∧(M.ls=N.ls∧M.ss=N.ss)) (fun i _=>N.bn - (intOf i).toNat)
 case atStart=>exact ⟨0,_,Nat.zero_le _,rfl,st0,hB0,rfl,by simp,rfl,rfl⟩
 case round =>
  clear st0 hB0 x0 x1 x2;obtain ⟨k,M,hk,rfl,st,hB,hMn,hM,hLS⟩:=hrel;have HMN:=hide hMn;have HM:=hide hM;have HLS:=hide hLS;clear hM hLS;by_cases hlt:k < N.bn
  ·obtain ⟨x,bb,off,hxx,hba,hcells⟩:=br_at (h.b.below hB) k hlt;have hx:=h.item x (List.mem_of_getElem? hxx);have hsm:=hm x (List.mem_of_getElem? hxx);have HX:=hide hxx;have i1:(0:Int)≤(k:Int):=by omega
   have i2:(k:Int) < (N.bn:Int):=by omega
   have hMk:M.bn≤16777216:=by omega
   have HB:=hide hB;have HXL:Hid (X < wr.heap.size):=hide (zaX st.box);have HLT:Hid (∀j,(Value.slice M.ba M.bn M.bc).ownBlock=some j→j < wr.heap.size):=hide (fun j hj=>(st.own.b.row.lt j hj).2);obtain ⟨ca0,ca1,ca2,ca3,ca4,ca5,ca6,ca7,ca8,ca9,ca10⟩:=hcells;have HBA:=hide hba;rw [hba];clear hxx hMn hba;(go_upto_region 5 with fail);generalize hwb:wr.alloc (Obj.cells #[.int .i64 x.B.id,.string x.B.name,.slice x.a x.n x.c,.slice x.fa x.fn x.fc,.slice x.ra x.rn x.rc,.slice x.oa x.on x.oc,.int .i64 x.B.ticks,.int .i64 x.B.parse,.int .i64 x.B.word,.int .i64 x.B.drops,.int .i64 x.B.vers] 44)=wb;have b1:=zb hwb;have kB:=zk hwb;have HBL:=HZB;have vv:Below wb.heap.size wb wb.drew:=zq (Below.refl _ _);have vv:=zc b1 vv;have kB:=za kB (zq (Below.refl _ wb));have x0:=(zd (za st.box vv)).1;clear hwb b1 ca0 ca1 ca2 ca3 ca4 ca5 ca6 ca7 ca8 ca9 ca10 hB;refine wp_region_held_drew (S:=(fun W=>zcc W wr.heap.size 0 (.int .i64 x.B.id)∧zcc W wr.heap.size 1 (.string x.B.name)∧zcc W wr.heap.size 2 (.slice x.a x.n x.c)∧zcc W wr.heap.size 3 (.slice x.fa x.fn x.fc)∧zcc W wr.heap.size 4 (.slice x.ra x.rn x.rc)∧zcc W wr.heap.size 5 (.slice x.oa x.on x.oc)∧zcc W wr.heap.size 6 (.int .i64 x.B.ticks)∧zcc W wr.heap.size 7 (.int .i64 x.B.parse)∧zcc W wr.heap.size 8 (.int .i64 x.B.word)∧zcc W wr.heap.size 9 (.int .i64 x.B.drops)∧zcc W wr.heap.size 10 (.int .i64 x.B.vers))) (by kernel_rfl) ((zaq kB)) (fun hHeld => ?_);refine kK 0 ?_;refine kK 1 ?_;refine kK 2 ?_;refine kK 3 ?_;refine kK 4 ?_;refine kK 6 ?_;refine tR [5,7] ?_;refine kC (fun K hK => ?_) ?_
   ·go_simp;refine kO hK ((zaq kB)) fun hHeld => ?_
    clear hK K;refine kR 7 fun K hK => ?_
    go_simp;refine (zce x.a x.n x.c x.fa x.fn x.fc x.ra x.rn x.rc x.oa x.on x.oc x.B _ (hx.below (zc HB.out vv)) (by omega) (by omega) (by omega) (by omega)).mono ?_;rintro e wz ⟨a2,c2,fa2,fc2,ra2,rc2,oa2,oc2,rfl,ow2,hbz⟩;have ow2:=BrOwn.lt ow2 (base':=wr.heap.size) vv.size;have vv:=zc vv hbz;have x0:=(zd (za st.box vv)).1;have kB:=za kB hbz;(go_wp2_with fail);refine kO hK ((zaq kB)) fun hHeld => ?_
    clear hK K;refine kR 8 fun K hK => ?_
    go_simp;refine (zaP a2 x.n c2 fa2 x.fn fc2 ra2 x.rn rc2 oa2 x.on oc2 x.B _).mono ?_;rintro e wz2 ⟨rfl,hbz⟩;have ow2:=BrOwn.below ow2 hbz;have vv:=zc vv hbz;have x0:=(zd (za st.box vv)).1;have kB:=za kB hbz;(go_wp2_with fail);refine kO hK ((zaq kB)) fun hHeld => ?_
    clear hK K;refine kR 9 fun K hK => ?_
    go_simp
    first
    | refine zw (K:=K _) (fun wx kY hbz => ?_)
    | refine zo (K:=K _) (fun wx kY hbz => ?_)
    have ow2:=BrOwn.below ow2 hbz;have vv:=zc vv hbz;have x0:=(zd (za st.box vv)).1;have kB:=za kB hbz;refine kO hK ((zaq kB)) fun hHeld => ?_
    clear hK K;refine kR 10 fun K hK => ?_
    have gn1:GRow brF wx (some ⟨_,0,none⟩) 1 1 [(⟨a2,x.n,c2,fa2,x.fn,fc2,ra2,x.rn,rc2,oa2,x.on,oc2,x.B⟩:BV)]:=zC (F:=brF) (zaV brF (base:=0) (l:=[(⟨a2,x.n,c2,fa2,x.fn,fc2,ra2,x.rn,rc2,oa2,x.on,oc2,x.B⟩:BV)]) kY rfl (Nat.zero_le _) (by simp));have hoN:=st.own.b.below vv;refine zi (F:=brF) rfl _ _ 24 44 rfl base Tryz.underlying24 zds rfl (by decide) _ M.bn M.bs rfl hoN.row _ 1 1 _ rfl gn1 (by omega) (Nat.le_trans st.size vv.size) ?_;intro aL cL wL how _ hgr hbL;obtain ⟨kX,stN,hBN⟩:=st.push (y:=(⟨a2,x.n,c2,fa2,x.fn,fc2,ra2,x.rn,rc2,oa2,x.on,oc2,x.B⟩:BV)) vv ow2 hgr how;have x0:=(zd kX).1;have fz:=zf kX 0;have kB:=ze kB hgr (fun k hk=>by have:=HLT.out k hk; omega);refine kO hK ((zaq kB)) fun hHeld => ?_
    clear hK K;refine kK 11 ?_;refine kK 12 ?_;refine kK 13 ?_;refine kR 14 fun K hK => ?_
    go_simp;have kB:=ze kB (zj (rb:=X) 0 (.slice aL (M.bn+1) cL)) (by intro k e; cases e; have:=HXL.out; omega);refine kO hK ((zaq kB)) fun hHeld => ?_
    clear hK K;refine wpAnyH_done (by kernel_rfl) ?_ _;have HST:=hide stN;have HBN:=hide (HB.out.trans (hBN.mono HBL.out));clear hHeld how hgr hbL hoN kX x0 fz kY gn1 ow2 vv kB stN hBN;go_wp2
    go_roundw
    case rel=>exact ⟨k+1,_,by omega,by go_num,HST.out,HBN.out,by show M.bn+1=k+1; rw [HMN.out],by rw [List.map_append,HM.out,List.take_add_one,HX.out,List.map_append]; rfl,HLS.out⟩
    case measure=>simp [intOf]; omega
   refine kC (fun K hK => ?_) ?_
   ·go_simp;refine (zce x.a x.n x.c x.fa x.fn x.fc x.ra x.rn x.rc x.oa x.on x.oc x.B _ (hx.below (zc HB.out vv)) (by omega) (by omega) (by omega) (by omega)).mono ?_;rintro e wz ⟨a2,c2,fa2,fc2,ra2,rc2,oa2,oc2,rfl,ow2,hbz⟩;have ow2:=BrOwn.lt ow2 (base':=wr.heap.size) vv.size;have vv:=zc vv hbz;have x0:=(zd (za st.box vv)).1;have kB:=za kB hbz;(go_wp2_with fail);refine kO hK ((zaq kB)) fun hHeld => ?_
    clear hK K;refine tR [5,8] ?_;refine kC (fun K hK => ?_) ?_
    ·go_simp;refine kO hK ((zaq kB)) fun hHeld => ?_
     clear hK K;refine kR 8 fun K hK => ?_
     go_simp;refine (zaP a2 x.n c2 fa2 x.fn fc2 ra2 x.rn rc2 oa2 x.on oc2 x.B _).mono ?_;rintro e wz2 ⟨rfl,hbz⟩;have ow2:=BrOwn.below ow2 hbz;have vv:=zc vv hbz;have x0:=(zd (za st.box vv)).1;have kB:=za kB hbz;(go_wp2_with fail);refine kO hK ((zaq kB)) fun hHeld => ?_
     clear hK K;refine kR 9 fun K hK => ?_
     go_simp
     first
     | refine zw (K:=K _) (fun wx kY hbz => ?_)
     | refine zo (K:=K _) (fun wx kY hbz => ?_)
     have ow2:=BrOwn.below ow2 hbz;have vv:=zc vv hbz;have x0:=(zd (za st.box vv)).1;have kB:=za kB hbz;refine kO hK ((zaq kB)) fun hHeld => ?_
     clear hK K;refine kR 10 fun K hK => ?_
     have gn1:GRow brF wx (some ⟨_,0,none⟩) 1 1 [(⟨a2,x.n,c2,fa2,x.fn,fc2,ra2,x.rn,rc2,oa2,x.on,oc2,x.B⟩:BV)]:=zC (F:=brF) (zaV brF (base:=0) (l:=[(⟨a2,x.n,c2,fa2,x.fn,fc2,ra2,x.rn,rc2,oa2,x.on,oc2,x.B⟩:BV)]) kY rfl (Nat.zero_le _) (by simp));have hoN:=st.own.b.below vv;refine zi (F:=brF) rfl _ _ 24 44 rfl base Tryz.underlying24 zds rfl (by decide) _ M.bn M.bs rfl hoN.row _ 1 1 _ rfl gn1 (by omega) (Nat.le_trans st.size vv.size) ?_;intro aL cL wL how _ hgr hbL;obtain ⟨kX,stN,hBN⟩:=st.push (y:=(⟨a2,x.n,c2,fa2,x.fn,fc2,ra2,x.rn,rc2,oa2,x.on,oc2,x.B⟩:BV)) vv ow2 hgr how;have x0:=(zd kX).1;have fz:=zf kX 0;have kB:=ze kB hgr (fun k hk=>by have:=HLT.out k hk; omega);refine kO hK ((zaq kB)) fun hHeld => ?_
     clear hK K;refine kK 11 ?_;refine kK 12 ?_;refine kK 13 ?_;refine kR 14 fun K hK => ?_
     go_simp;have kB:=ze kB (zj (rb:=X) 0 (.slice aL (M.bn+1) cL)) (by intro k e; cases e; have:=HXL.out; omega);refine kO hK ((zaq kB)) fun hHeld => ?_
     clear hK K;refine wpAnyH_done (by kernel_rfl) ?_ _;have HST:=hide stN;have HBN:=hide (HB.out.trans (hBN.mono HBL.out));clear hHeld how hgr hbL hoN kX x0 fz kY gn1 ow2 vv kB stN hBN;go_wp2
     go_roundw
     case rel=>exact ⟨k+1,_,by omega,by go_num,HST.out,HBN.out,by show M.bn+1=k+1; rw [HMN.out],by rw [List.map_append,HM.out,List.take_add_one,HX.out,List.map_append]; rfl,HLS.out⟩
     case measure=>simp [intOf]; omega
    refine kC (fun K hK => ?_) ?_
    ·go_simp;refine (zaP a2 x.n c2 fa2 x.fn fc2 ra2 x.rn rc2 oa2 x.on oc2 x.B _).mono ?_;rintro e wz2 ⟨rfl,hbz⟩;have ow2:=BrOwn.below ow2 hbz;have vv:=zc vv hbz;have x0:=(zd (za st.box vv)).1;have kB:=za kB hbz;(go_wp2_with fail);refine kO hK ((zaq kB)) fun hHeld => ?_
     clear hK K;refine tR [5,9] ?_;refine kC (fun K hK => ?_) ?_
     ·go_simp;refine kO hK ((zaq kB)) fun hHeld => ?_
      clear hK K;refine kR 9 fun K hK => ?_
      go_simp
      first
      | refine zw (K:=K _) (fun wx kY hbz => ?_)
      | refine zo (K:=K _) (fun wx kY hbz => ?_)
      have ow2:=BrOwn.below ow2 hbz;have vv:=zc vv hbz;have x0:=(zd (za st.box vv)).1;have kB:=za kB hbz;refine kO hK ((zaq kB)) fun hHeld => ?_
      clear hK K;refine kR 10 fun K hK => ?_
      have gn1:GRow brF wx (some ⟨_,0,none⟩) 1 1 [(⟨a2,x.n,c2,fa2,x.fn,fc2,ra2,x.rn,rc2,oa2,x.on,oc2,x.B⟩:BV)]:=zC (F:=brF) (zaV brF (base:=0) (l:=[(⟨a2,x.n,c2,fa2,x.fn,fc2,ra2,x.rn,rc2,oa2,x.on,oc2,x.B⟩:BV)]) kY rfl (Nat.zero_le _) (by simp));have hoN:=st.own.b.below vv;refine zi (F:=brF) rfl _ _ 24 44 rfl base Tryz.underlying24 zds rfl (by decide) _ M.bn M.bs rfl hoN.row _ 1 1 _ rfl gn1 (by omega) (Nat.le_trans st.size vv.size) ?_;intro aL cL wL how _ hgr hbL;obtain ⟨kX,stN,hBN⟩:=st.push (y:=(⟨a2,x.n,c2,fa2,x.fn,fc2,ra2,x.rn,rc2,oa2,x.on,oc2,x.B⟩:BV)) vv ow2 hgr how;have x0:=(zd kX).1;have fz:=zf kX 0;have kB:=ze kB hgr (fun k hk=>by have:=HLT.out k hk; omega);refine kO hK ((zaq kB)) fun hHeld => ?_
      clear hK K;refine kK 11 ?_;refine kK 12 ?_;refine kK 13 ?_;refine kR 14 fun K hK => ?_
      go_simp;have kB:=ze kB (zj (rb:=X) 0 (.slice aL (M.bn+1) cL)) (by intro k e; cases e; have:=HXL.out; omega);refine kO hK ((zaq kB)) fun hHeld => ?_
      clear hK K;refine wpAnyH_done (by kernel_rfl) ?_ _;have HST:=hide stN;have HBN:=hide (HB.out.trans (hBN.mono HBL.out));clear hHeld how hgr hbL hoN kX x0 fz kY gn1 ow2 vv kB stN hBN;go_wp2
      go_roundw
      case rel=>exact ⟨k+1,_,by omega,by go_num,HST.out,HBN.out,by show M.bn+1=k+1; rw [HMN.out],by rw [List.map_append,HM.out,List.take_add_one,HX.out,List.map_append]; rfl,HLS.out⟩
      case measure=>simp [intOf]; omega
     refine kC (fun K hK => ?_) ?_
     ·go_simp
      first
      | refine zw (K:=K _) (fun wx kY hbz => ?_)
      | refine zo (K:=K _) (fun wx kY hbz => ?_)
      have ow2:=BrOwn.below ow2 hbz;have vv:=zc vv hbz;have x0:=(zd (za st.box vv)).1;have kB:=za kB hbz;refine kO hK ((zaq kB)) fun hHeld => ?_
      clear hK K;refine kR 5 fun K hK => ?_
      go_simp;refine kO hK ((zaq kB)) fun hHeld => ?_
      clear hK K;refine kR 10 fun K hK => ?_
      have gn1:GRow brF wx (some ⟨_,0,none⟩) 1 1 [(⟨a2,x.n,c2,fa2,x.fn,fc2,ra2,x.rn,rc2,oa2,x.on,oc2,x.B⟩:BV)]:=zC (F:=brF) (zaV brF (base:=0) (l:=[(⟨a2,x.n,c2,fa2,x.fn,fc2,ra2,x.rn,rc2,oa2,x.on,oc2,x.B⟩:BV)]) kY rfl (Nat.zero_le _) (by simp));have hoN:=st.own.b.below vv;refine zi (F:=brF) rfl _ _ 24 44 rfl base Tryz.underlying24 zds rfl (by decide) _ M.bn M.bs rfl hoN.row _ 1 1 _ rfl gn1 (by omega) (Nat.le_trans st.size vv.size) ?_;intro aL cL wL how _ hgr hbL;obtain ⟨kX,stN,hBN⟩:=st.push (y:=(⟨a2,x.n,c2,fa2,x.fn,fc2,ra2,x.rn,rc2,oa2,x.on,oc2,x.B⟩:BV)) vv ow2 hgr how;have x0:=(zd kX).1;have fz:=zf kX 0;have kB:=ze kB hgr (fun k hk=>by have:=HLT.out k hk; omega);refine kO hK ((zaq kB)) fun hHeld => ?_
      clear hK K;refine kK 11 ?_;refine kK 12 ?_;refine kK 13 ?_;refine kR 14 fun K hK => ?_
      go_simp;have kB:=ze kB (zj (rb:=X) 0 (.slice aL (M.bn+1) cL)) (by intro k e; cases e; have:=HXL.out; omega);refine kO hK ((zaq kB)) fun hHeld => ?_
      clear hK K;refine wpAnyH_done (by kernel_rfl) ?_ _;have HST:=hide stN;have HBN:=hide (HB.out.trans (hBN.mono HBL.out));clear hHeld how hgr hbL hoN kX x0 fz kY gn1 ow2 vv kB stN hBN;go_wp2
      go_roundw
      case rel=>exact ⟨k+1,_,by omega,by go_num,HST.out,HBN.out,by show M.bn+1=k+1; rw [HMN.out],by rw [List.map_append,HM.out,List.take_add_one,HX.out,List.map_append]; rfl,HLS.out⟩
      case measure=>simp [intOf]; omega
     exact AllReadyH.nil
    exact AllReadyH.nil
   exact AllReadyH.nil
  ·have hkn:k=N.bn:=by omega
   have hlen:N.bs.length=N.bn:=h.b.size;have HM2:Hid (M.bs.map BV.B=N.bs.map BV.B):=hide (by rw [HM.out,List.take_of_length_le (by omega)]);have HST:=hide st;have HB:=hide hB;clear st hB hMn;go_wp2;go_ret;exact ⟨X,base,M,rfl,HST.out,⟨HM2.out,HLS.out.1,HLS.out.2⟩,HZB.out,HB.out⟩

end Go.Proofs.YtkaefmfopejbaaaGreat
