/-
  Packed: PtBest PtRole PtLaws PtSends MadeSet VecNums VecNear VecOk.
-/
import Derived.Test.YtgmkhoakindpkaaPGKW
import Derived.Test.YtgmkhoakindpkaaPGK01
import Derived.Test.YtgmkhoakindpkaaPGK03
import Derived.Deep.CutRange
import Derived.Deep.RegionHeld3
import Derived.Lib.MinMax
namespace Go.Proofs.Ytgmkhoakindpkaa
set_option maxRecDepth 100000
set_option maxHeartbeats 16000000
open Go.RowKit

abbrev q13:Oper:=⟨some 47,.call ⟨.value (.func 118),#[.tmp 41,.tmp 46],#[89,3]⟩,176,"l10_role.go:23",#[⟨4,.data⟩,⟨9,.data⟩],none⟩
abbrev q14:Oper:=⟨some 36,.move (.tmp 47),176,"l10_role.go:23",#[⟨10,.data⟩],none⟩
abbrev q15:Oper:=⟨some 48,.extract (.tmp 36) 0,89,"l10_role.go:23",#[⟨11,.data⟩],none⟩
abbrev q16:Oper:=⟨some 49,.extract (.tmp 36) 1,4,"l10_role.go:23",#[⟨11,.data⟩,{ on:=15,ground:=Ground.gcOnly Departure.lateStores }],none⟩
abbrev q17:Oper:=⟨some 10,.alloc 89,0,"l10_role.go:23",#[],none⟩
abbrev q18:Oper:=⟨none,.store 89 (.tmp 10) (.tmp 48),0,"l10_role.go:23",#[⟨14,.data⟩,⟨12,.data⟩,⟨10,.chain⟩,⟨0,.phase⟩,⟨1,.phase⟩,⟨2,.phase⟩,⟨3,.phase⟩,⟨4,.phase⟩,⟨5,.phase⟩,⟨6,.phase⟩,⟨7,.phase⟩,⟨8,.phase⟩,⟨9,.phase⟩,⟨10,.phase⟩,⟨11,.phase⟩,⟨12,.phase⟩,{ on:=13,ground:=Ground.textOnly Departure.lateStores },⟨14,.phase⟩],none⟩
abbrev q19:Oper:=⟨some 11,.assign (.tmp 49),4,"l10_role.go:23",#[⟨13,.data⟩,⟨15,.chain⟩,⟨0,.phase⟩,⟨1,.phase⟩,⟨2,.phase⟩,⟨3,.phase⟩,⟨4,.phase⟩,⟨5,.phase⟩,⟨6,.phase⟩,⟨7,.phase⟩,⟨8,.phase⟩,⟨9,.phase⟩,⟨10,.phase⟩,⟨11,.phase⟩,⟨12,.phase⟩,⟨13,.phase⟩,⟨14,.phase⟩,⟨15,.phase⟩],none⟩

theorem za2 {w:World} {g:Nat} {c0 c1 c2 c3 c4:Value} {T:TypeId} (h:w.heap[g]?=some (.cells #[c0,c1,c2,c3,c4] T)) (u0 u1 u2 u3 u4:Value):(((((w.setCell ⟨g,0,none⟩ u0).setCell ⟨g,1,none⟩ u1).setCell ⟨g,2,none⟩ u2).setCell ⟨g,3,none⟩ u3).setCell ⟨g,4,none⟩ u4).heap[g]?=some (.cells #[u0,u1,u2,u3,u4] T) :=
 zj (j:=4) (zj (j:=3) (zj (j:=2) (zj (j:=1) (zj (j:=0) h u0) u1) u2) u3) u4

theorem zay {w:World} {i g:Nat} {o:Obj} (h:w.heap[i]?=some o) (hne:i≠g) (u0 u1 u2 u3 u4:Value):(((((w.setCell ⟨g,0,none⟩ u0).setCell ⟨g,1,none⟩ u1).setCell ⟨g,2,none⟩ u2).setCell ⟨g,3,none⟩ u3).setCell ⟨g,4,none⟩ u4).heap[i]?=some o :=
 zM (zM (zM (zM (zM h hne) hne) hne) hne) hne

structure BvSt (w W:World) (v f:VD):Prop where
 res:W.heap[w.heap.size]?=some (.cells #[.int .i64 0,.int .i64 0,.int .i64 0,.int .i64 0,.int .i64 0] 89)
 best:W.heap[w.heap.size+1]?=some (.cells #[.int .i64 v.r,.int .i64 v.c,.int .i64 v.h,.int .i64 v.b,.int .i64 v.p] 89)
 frm:W.heap[w.heap.size+1+1]?=some (.cells #[.int .i64 f.r,.int .i64 f.c,.int .i64 f.h,.int .i64 f.b,.int .i64 f.p] 89)
 below:Below w.heap.size w W

theorem BvSt.later {w W W':World} {v f:VD} (h:BvSt w W v f) (hb:Below W.heap.size W W'):BvSt w W' v f :=
 ⟨za h.res hb,za h.best hb,za h.frm hb,zc h.below hb⟩

theorem BvSt.setBest {w W:World} {v f:VD} (h:BvSt w W v f) (u:VD):BvSt w (((((W.setCell ⟨w.heap.size+1,0,none⟩ (.int .i64 u.r)).setCell ⟨w.heap.size+1,1,none⟩ (.int .i64 u.c)).setCell ⟨w.heap.size+1,2,none⟩ (.int .i64 u.h)).setCell ⟨w.heap.size+1,3,none⟩ (.int .i64 u.b)).setCell ⟨w.heap.size+1,4,none⟩ (.int .i64 u.p)) u f :=
 ⟨zay h.res (by omega) _ _ _ _ _,za2 h.best _ _ _ _ _,zay h.frm (by omega) _ _ _ _ _,zB h.below (by omega) _ _ _ _ _⟩

theorem BvSt.setFrom {w W:World} {v f:VD} (h:BvSt w W v f) (u:VD):BvSt w (((((W.setCell ⟨w.heap.size+1+1,0,none⟩ (.int .i64 u.r)).setCell ⟨w.heap.size+1+1,1,none⟩ (.int .i64 u.c)).setCell ⟨w.heap.size+1+1,2,none⟩ (.int .i64 u.h)).setCell ⟨w.heap.size+1+1,3,none⟩ (.int .i64 u.b)).setCell ⟨w.heap.size+1+1,4,none⟩ (.int .i64 u.p)) v u :=
 ⟨zay h.res (by omega) _ _ _ _ _,zay h.best (by omega) _ _ _ _ _,za2 h.frm _ _ _ _ _,zB h.below (by omega) _ _ _ _ _⟩

theorem zaA (id:Int) (a:Option Addr) (n c:Nat) (l:List PT) (w:World) (h:GRow ptF w a n c l) :
  Calls Try.prog 97 #[.int .i64 id,.slice a n c] w fun e w'=>e=.returned (.tuple #[.agg #[.int .i64 (bestV id (zw id l)).r,.int .i64 (bestV id (zw id l)).c,.int .i64 (bestV id (zw id l)).h,.int .i64 (bestV id (zw id l)).b,.int .i64 (bestV id (zw id l)).p],.int .i64 (bestP (zw id l))])∧Below w.heap.size w w':=by
 have hle:=h.le;have htop:=h.top;unfold maxLen at htop;have hsz:=hide h.size;go_enter Try.func97,Try.ntmps97;go_wp2_with fail
 generalize hw3:((w.alloc (Obj.cells #[.int .i64 0,.int .i64 0,.int .i64 0,.int .i64 0,.int .i64 0] 89)).alloc (Obj.cells #[.int .i64 id,.int .i64 0,.int .i64 0,.int .i64 id,.int .i64 0] 89)).alloc (Obj.cells #[.int .i64 0,.int .i64 0,.int .i64 0,.int .i64 0,.int .i64 0] 89)=w3;have st3:BvSt w w3 (bestV id none) (fromV none):=by
  subst hw3;obtain ⟨k0,k1,k2⟩:=zV (Below.refl _ (((w.alloc (Obj.cells #[.int .i64 0,.int .i64 0,.int .i64 0,.int .i64 0,.int .i64 0] 89)).alloc (Obj.cells #[.int .i64 id,.int .i64 0,.int .i64 0,.int .i64 id,.int .i64 0] 89)).alloc (Obj.cells #[.int .i64 0,.int .i64 0,.int .i64 0,.int .i64 0,.int .i64 0] 89)));exact ⟨k0,k1,k2,zy _ _ _ _⟩
 clear hw3
 go_loopw [8,9] (fun p i wr=>∃(k:Nat) (s:Option (VD × Nat)),k≤n∧i=.int .i64 k∧p=.int .i64 (bestP s)∧zas id l k=s∧BvSt w wr (bestV id s) (fromV s)) (fun _ i _=>n - (intOf i).toNat)
 case atStart=>exact ⟨0,none,Nat.zero_le _,rfl,rfl,rfl,st3⟩
 case round =>
  obtain ⟨k,s,hk,rfl,rfl,hs,st⟩:=hrel;obtain ⟨bv,hbv⟩:∃y,y=bestV id s:=⟨_,rfl⟩;obtain ⟨fv,hfv⟩:∃y,y=fromV s:=⟨_,rfl⟩;have BACK:Hid (∀W,BvSt w W bv fv→BvSt w W (bestV id s) (fromV s)):=hide (by subst hbv hfv; exact fun W h=>h);rw [← hbv,← hfv] at st;have HBV:=hide hbv;have HFV:=hide hfv;clear hbv hfv;by_cases hlt:k < n
  ·obtain ⟨x,b,off,hx,rfl,c0,c1,c2,c3,c4,c5,c6,c7⟩:=pt_at (h.below st.below) k hlt;have hnx:=zbu (id:=id) hx;rw [hs] at hnx;have i1:(0:Int)≤(k:Int):=by omega
   have i2:(k:Int) < (n:Int):=by omega
   have NX:=hide hnx;clear hs hnx hx;cases hu:x.up
   ·rw [hu] at c0;have HE:=hide (NX.out.trans (zao (by unfold offers; rw [hu]; rfl)));clear hu c1 c2 c3 c4 c5 c6 c7;go_wp2
    go_roundw
    case rel=>exact ⟨k+1,s,by omega,by go_num,rfl,HE.out,BACK.out _ st⟩
    case measure=>simp [intOf]; omega
   cases hh:x.has
   ·rw [hu] at c0;rw [hh] at c2;have HE:=hide (NX.out.trans (zao (by unfold offers; rw [hu,hh]; rfl)));clear hu hh c1 c3 c4 c5 c6 c7;go_wp2
    go_roundw
    case rel=>exact ⟨k+1,s,by omega,by go_num,rfl,HE.out,BACK.out _ st⟩
    case measure=>simp [intOf]; omega
   rw [hu] at c0;rw [hh] at c2;have HUH:Hid (x.up=true∧x.has=true):=hide ⟨hu,hh⟩;have HSS:Hid (∀W',Below wr.heap.size wr W'→W'.cell? ⟨b,off+k*8+1,none⟩=some (.int .i64 x.k)∧W'.cell? ⟨b,off+k*8+3,none⟩=some (.int .i64 x.v.r)∧W'.cell? ⟨b,off+k*8+4,none⟩=some (.int .i64 x.v.c)∧W'.cell? ⟨b,off+k*8+5,none⟩=some (.int .i64 x.v.h)∧W'.cell? ⟨b,off+k*8+6,none⟩=some (.int .i64 x.v.b)∧W'.cell? ⟨b,off+k*8+7,none⟩=some (.int .i64 x.v.p)):=hide (fun W' hb=>⟨(hb.cell (zp c1)).trans c1,(hb.cell (zp c3)).trans c3,(hb.cell (zp c4)).trans c4,(hb.cell (zp c5)).trans c5,(hb.cell (zp c6)).trans c6,(hb.cell (zp c7)).trans c7⟩);obtain ⟨q,hq⟩:∃q,zam x.v.r x.v.c x.v.h x.v.b x.v.p x.k=q:=⟨_,rfl⟩;obtain ⟨u,hu'⟩:∃u,u=(if q=true then stepV x.v x.k else x.v):=⟨_,rfl⟩;have HST:=hide hq;have HQ:Hid ((if q=true then Value.agg #[.int .i64 x.v.r,.int .i64 (x.v.c+x.k),.int .i64 (x.v.h+1),.int .i64 x.v.b,.int .i64 x.v.p] else Value.agg #[.int .i64 x.v.r,.int .i64 x.v.c,.int .i64 x.v.h,.int .i64 x.v.b,.int .i64 x.v.p])=.agg #[.int .i64 u.r,.int .i64 u.c,.int .i64 u.h,.int .i64 u.b,.int .i64 u.p]):=hide (by subst hu'; cases q <;> rfl);have HU:=hide hu';have ST:=hide st;clear hq hu' hu hh c1 c3 c4 c5 c6 c7;(go_upto_region 8 with fail);clear c0 c2
   go_cut [10,11] from 16 to 75 (fun s10 s11 wx=>∃g:Nat,s10=.pointer (some ⟨g,0,none⟩)∧s11=.bool q∧wr.heap.size≤g∧wx.heap[g]?=some (.cells #[.int .i64 u.r,.int .i64 u.c,.int .i64 u.h,.int .i64 u.b,.int .i64 u.p] 89)∧Below wr.heap.size wr wx)
   case first =>
    have vv:Below wr.heap.size wr wr.drew:=zC (Below.refl _ _);(go_wp2_with fail);refine wp_region_held_drew (S:=(fun W=>W.cell? ⟨b,off+k*8+1,none⟩=some (.int .i64 x.k)∧W.cell? ⟨b,off+k*8+3,none⟩=some (.int .i64 x.v.r)∧W.cell? ⟨b,off+k*8+4,none⟩=some (.int .i64 x.v.c)∧W.cell? ⟨b,off+k*8+5,none⟩=some (.int .i64 x.v.h)∧W.cell? ⟨b,off+k*8+6,none⟩=some (.int .i64 x.v.b)∧W.cell? ⟨b,off+k*8+7,none⟩=some (.int .i64 x.v.p))) (by kernel_rfl) (HSS.out _ vv) (fun hHeld => ?_);refine kK 0 ⟨some 37,.move (.tmp 1),92,"l10_role.go:23",#[],none⟩ ?_;refine kK 1 ⟨some 38,.move (.tmp 9),3,"l10_role.go:23",#[],none⟩ ?_;refine kK 2 ⟨some 39,.indexAddr 92 (.tmp 37) (.tmp 38),0,"l10_role.go:23",#[⟨0,.data⟩,⟨1,.data⟩],none⟩ ?_;refine kK 3 ⟨some 40,.fieldAddr 91 (.tmp 39) 3,0,"l10_role.go:23",#[⟨2,.data⟩],none⟩ ?_;refine kK 4 ⟨some 41,.load 89 (.tmp 40),89,"l10_role.go:23",#[⟨3,.data⟩],none⟩ ?_;refine kK 5 ⟨some 42,.move (.tmp 1),92,"l10_role.go:23",#[],none⟩ ?_;refine kK 6 ⟨some 43,.move (.tmp 9),3,"l10_role.go:23",#[],none⟩ ?_;refine kK 7 ⟨some 44,.indexAddr 92 (.tmp 42) (.tmp 43),0,"l10_role.go:23",#[⟨5,.data⟩,⟨6,.data⟩],none⟩ ?_;refine kK 8 ⟨some 45,.fieldAddr 91 (.tmp 44) 1,0,"l10_role.go:23",#[⟨7,.data⟩],none⟩ ?_;refine kK 9 ⟨some 46,.load 3 (.tmp 45),3,"l10_role.go:23",#[⟨8,.data⟩],none⟩ ?_;refine tR [10,14] ?_;refine AllReadyH.cons (o:=q13) rfl (fun K hK => ?_) ?_
    ·go_simp;refine (zaT x.v.r x.v.c x.v.h x.v.b x.v.p x.k _).mono ?_;rintro e wx ⟨rfl,hbx⟩;rw [HST.out,HQ.out];(try have kB:=za kB hbx);have vv:=zc vv hbx;clear hbx;(go_wp2_with fail);refine hK.out _ _ (HSS.out _ vv) (fun hHeld => ?_);clear hK K;(try simp only [Act.put,lA,lB,lC]);refine kK 11 q14 ?_;refine kK 12 q15 ?_;refine kK 13 q16 ?_;refine kR 14 q17 (fun K hK => ?_);go_simp
     first
     | refine zdU (K:=K _) (fun wx kB hbx => ?_)
     | refine zcR (K:=K _) (fun wx kB hbx => ?_)
     have gB:=vv.size;have vv:=zc vv hbx;clear hbx;refine hK.out _ _ (HSS.out _ vv) (fun hHeld => ?_);clear hK K;(try simp only [Act.put,lA,lB,lC]);refine kR 15 q18 (fun K hK => ?_);obtain ⟨⟨b0,b1,b2,b3,b4⟩,f0,f1,f2,f3,f4⟩:=zt kB;go_simp;have vv:=zB vv gB (.int .i64 u.r) (.int .i64 u.c) (.int .i64 u.h) (.int .i64 u.b) (.int .i64 u.p);have kB:=za2 kB (.int .i64 u.r) (.int .i64 u.c) (.int .i64 u.h) (.int .i64 u.b) (.int .i64 u.p);clear b0 b1 b2 b3 b4 f0 f1 f2 f3 f4;refine hK.out _ _ (HSS.out _ vv) (fun hHeld => ?_);clear hK K;(try simp only [Act.put,lA,lB,lC]);refine kK 16 q19 ?_;refine wpAnyH_done (by kernel_rfl) ?_ _;clear hHeld;(go_wp2_with fail)
     go_meet
     exact ⟨_,rfl,rfl,gB,kB,vv⟩
    refine AllReadyH.cons (o:=q17) rfl (fun K hK => ?_) ?_
    ·go_simp
     first
     | refine zdU (K:=K _) (fun wx kB hbx => ?_)
     | refine zcR (K:=K _) (fun wx kB hbx => ?_)
     have gB:=vv.size;have vv:=zc vv hbx;clear hbx;refine hK.out _ _ (HSS.out _ vv) (fun hHeld => ?_);clear hK K;(try simp only [Act.put,lA,lB,lC]);refine kR 10 q13 (fun K hK => ?_);go_simp;refine (zaT x.v.r x.v.c x.v.h x.v.b x.v.p x.k _).mono ?_;rintro e wx ⟨rfl,hbx⟩;rw [HST.out,HQ.out];(try have kB:=za kB hbx);have vv:=zc vv hbx;clear hbx;(go_wp2_with fail);refine hK.out _ _ (HSS.out _ vv) (fun hHeld => ?_);clear hK K;(try simp only [Act.put,lA,lB,lC]);refine kK 11 q14 ?_;refine kK 12 q15 ?_;refine kK 13 q16 ?_;refine kR 15 q18 (fun K hK => ?_);obtain ⟨⟨b0,b1,b2,b3,b4⟩,f0,f1,f2,f3,f4⟩:=zt kB;go_simp;have vv:=zB vv gB (.int .i64 u.r) (.int .i64 u.c) (.int .i64 u.h) (.int .i64 u.b) (.int .i64 u.p);have kB:=za2 kB (.int .i64 u.r) (.int .i64 u.c) (.int .i64 u.h) (.int .i64 u.b) (.int .i64 u.p);clear b0 b1 b2 b3 b4 f0 f1 f2 f3 f4;refine hK.out _ _ (HSS.out _ vv) (fun hHeld => ?_);clear hK K;(try simp only [Act.put,lA,lB,lC]);refine kK 16 q19 ?_;refine wpAnyH_done (by kernel_rfl) ?_ _;clear hHeld;(go_wp2_with fail)
     go_meet
     exact ⟨_,rfl,rfl,gB,kB,vv⟩
    exact AllReadyH.nil
   case rest =>
    obtain ⟨g,rfl,rfl,hg,kX,hb⟩:=hcut;obtain ⟨wS,hwS⟩:∃x,x=wc:=⟨_,rfl⟩;subst hwS;have st:=ST.out.later hb;have hz:=ST.out.frm;have hlt2:=(Array.getElem?_eq_some_iff.1 hz).1;have ne1:¬g=w.heap.size+1+1:=by omega
    have ne2:¬w.heap.size+1+1=g:=by omega
    have ne3:¬g=w.heap.size+1:=by omega
    have ne4:¬w.heap.size+1=g:=by omega
    obtain ⟨⟨x0,x1,x2,x3,x4⟩,-⟩:=zt kX;have KX:=hide kX;clear hb hz hlt2 hg kX;cases q
    ·have HE:=hide (NX.out.trans (zao (by unfold offers zbj; rw [HST.out]; simp)));go_wp2
     go_roundw
     case rel=>exact ⟨k+1,s,by omega,by go_num,rfl,HE.out,BACK.out _ st⟩
     case measure=>simp [intOf]; omega
    have hur:u.r=x.v.r:=by rw [HU.out]; rfl
    cases hlr:decide (u.r < id)
    ·have HE:=hide (NX.out.trans (zao (by unfold offers; rw [← hur,hlr]; simp)));have hlr:¬u.r < id:=by simpa using hlr
     clear hur;go_wp2
     go_roundw
     case rel=>exact ⟨k+1,s,by omega,by go_num,rfl,HE.out,BACK.out _ st⟩
     case measure=>simp [intOf]; omega
    have ho:offers id x=true:=by unfold offers zbj; rw [HUH.out.1,HUH.out.2,HST.out,← hur,hlr]; rfl
    have hlr:u.r < id:=by simpa using hlr
    have huu:stepV x.v x.k=u:=HU.out.symm;have HO:=hide ho;have HUU:=hide huu;clear hur ho huu;clear ne3 ne4;cases s with
    | none =>
     have HE:Hid (zas id l (k+1)=some (u,k)):=hide (by rw [NX.out]; unfold zau; rw [if_pos HO.out,HUU.out]);rw [show bestP none = -1 from rfl];have SL:=hide st;obtain ⟨⟨z0,z1,z2,z3,z4⟩,v0,v1,v2,v3,v4⟩:=zt st.frm;clear st;(go_upto_region 11 with fail);generalize hwf:((((wS.setCell ⟨w.heap.size+1+1,0,none⟩ (.int .i64 u.r)).setCell ⟨w.heap.size+1+1,1,none⟩ (.int .i64 u.c)).setCell ⟨w.heap.size+1+1,2,none⟩ (.int .i64 u.h)).setCell ⟨w.heap.size+1+1,3,none⟩ (.int .i64 u.b)).setCell ⟨w.heap.size+1+1,4,none⟩ (.int .i64 u.p)=wf;have stf:BvSt w wf bv u:=by rw [← hwf]; exact SL.out.setFrom u
     have kf:wf.heap[g]?=some (.cells #[.int .i64 u.r,.int .i64 u.c,.int .i64 u.h,.int .i64 u.b,.int .i64 u.p] 89):=by rw [← hwf]; exact zay KX.out (by omega) _ _ _ _ _
     clear hwf x0 x1 x2 x3 x4 v0 v1 v2 v3 v4 z0 z1 z2 z3 z4;obtain ⟨⟨x0,x1,x2,x3,x4⟩,-⟩:=zt kf;obtain ⟨⟨n0,n1,n2,n3,n4⟩,m0,m1,m2,m3,m4⟩:=zt stf.best;have HSET:Hid (BvSt w _ ⟨u.r,u.c,u.h,id,0⟩ u):=hide (stf.setBest ⟨u.r,u.c,u.h,id,0⟩);clear stf kf;go_wp2
     go_roundw
     case rel=>exact ⟨k+1,some (u,k),by omega,by go_num,rfl,HE.out,HSET.out⟩
     case measure=>simp [intOf]; omega
    | some fj =>
     obtain ⟨f,j⟩:=fj;rw [show bestP (some (f,j))=(j:Int) from rfl];have hneg:¬((j:Int) < 0):=by omega
     have hff:fv=f:=HFV.out;subst hff;obtain ⟨⟨z0,z1,z2,z3,z4⟩,-⟩:=zt st.frm;cases hl:lessV u fv
     ·have HE:Hid (zas id l (k+1)=some (fv,j)):=hide (by rw [NX.out]; unfold zau; rw [if_pos HO.out,HUU.out]; simp only; rw [if_neg (by rw [hl]; decide)]);have HL:Hid (zY u.r u.c u.b u.p fv.r fv.c fv.b fv.p=false):=hide hl;clear hl;(go_wp2_with fail);refine (zal u.r u.c u.h u.b u.p fv.r fv.c fv.h fv.b fv.p _).mono ?_;rintro e wl ⟨rfl,hbl⟩;rw [HL.out];have SL:=hide (st.later hbl);clear hbl st z0 z1 z2 z3 z4 x0 x1 x2 x3 x4;go_wp2
      go_roundw
      case rel=>exact ⟨k+1,some (fv,j),by omega,by go_num,rfl,HE.out,BACK.out _ SL.out⟩
      case measure=>simp [intOf]; omega
     ·have HE:Hid (zas id l (k+1)=some (u,k)):=hide (by rw [NX.out]; unfold zau; rw [if_pos HO.out,HUU.out]; simp only; rw [if_pos hl]);have HL:Hid (zY u.r u.c u.b u.p fv.r fv.c fv.b fv.p=true):=hide hl;clear hl;(go_wp2_with fail);refine (zal u.r u.c u.h u.b u.p fv.r fv.c fv.h fv.b fv.p _).mono ?_;rintro e wl ⟨rfl,hbl⟩;rw [HL.out];have SL:=hide (st.later hbl);have KX:=hide (za KX.out hbl);clear hbl st z0 z1 z2 z3 z4 x0 x1 x2 x3 x4;obtain ⟨⟨x0,x1,x2,x3,x4⟩,-⟩:=zt KX.out;obtain ⟨⟨z0,z1,z2,z3,z4⟩,v0,v1,v2,v3,v4⟩:=zt SL.out.frm;(go_upto_region 11 with fail);generalize hwf:((((wl.setCell ⟨w.heap.size+1+1,0,none⟩ (.int .i64 u.r)).setCell ⟨w.heap.size+1+1,1,none⟩ (.int .i64 u.c)).setCell ⟨w.heap.size+1+1,2,none⟩ (.int .i64 u.h)).setCell ⟨w.heap.size+1+1,3,none⟩ (.int .i64 u.b)).setCell ⟨w.heap.size+1+1,4,none⟩ (.int .i64 u.p)=wf;have stf:BvSt w wf bv u:=by rw [← hwf]; exact SL.out.setFrom u
      have kf:wf.heap[g]?=some (.cells #[.int .i64 u.r,.int .i64 u.c,.int .i64 u.h,.int .i64 u.b,.int .i64 u.p] 89):=by rw [← hwf]; exact zay KX.out (by omega) _ _ _ _ _
      clear hwf x0 x1 x2 x3 x4 v0 v1 v2 v3 v4 z0 z1 z2 z3 z4;obtain ⟨⟨x0,x1,x2,x3,x4⟩,-⟩:=zt kf;obtain ⟨⟨n0,n1,n2,n3,n4⟩,m0,m1,m2,m3,m4⟩:=zt stf.best;have HSET:Hid (BvSt w _ ⟨u.r,u.c,u.h,id,0⟩ u):=hide (stf.setBest ⟨u.r,u.c,u.h,id,0⟩);clear stf kf;go_wp2
      go_roundw
      case rel=>exact ⟨k+1,some (u,k),by omega,by go_num,rfl,HE.out,HSET.out⟩
      case measure=>simp [intOf]; omega
  ·have hkn:k=n:=by omega
   subst hkn;have HB:Hid (zw id l=s):=hide (by unfold zw; rw [hsz.out]; exact hs);obtain ⟨⟨x0,x1,x2,x3,x4⟩,y0,y1,y2,y3,y4⟩:=zt st.best;obtain ⟨⟨r0,r1,r2,r3,r4⟩,z0,z1,z2,z3,z4⟩:=zt st.res;have ne:¬w.heap.size=w.heap.size+1:=by omega
   have hb:=zB st.below (Nat.le_refl w.heap.size) (.int .i64 bv.r) (.int .i64 bv.c) (.int .i64 bv.h) (.int .i64 bv.b) (.int .i64 bv.p);clear hs st;go_wp2;exact bodyPost_ret (v:=.tuple #[.agg #[.int .i64 bv.r,.int .i64 bv.c,.int .i64 bv.h,.int .i64 bv.b,.int .i64 bv.p],.int .i64 (bestP s)]) (by simp [results,Try.results97,go_sem, *]) rfl ⟨(by rw [HB.out,← HBV.out]),hb⟩

abbrev q20:Oper:=⟨some 34,.move (.tmp 1),92,"l10_role.go:47",#[],none⟩
abbrev q21:Oper:=⟨some 35,.move (.tmp 2),3,"l10_role.go:47",#[],none⟩
abbrev q22:Oper:=⟨some 36,.indexAddr 92 (.tmp 34) (.tmp 35),0,"l10_role.go:47",#[⟨0,.data⟩,⟨1,.data⟩],none⟩
abbrev q23:Oper:=⟨some 37,.fieldAddr 91 (.tmp 36) 2,0,"l10_role.go:47",#[⟨2,.data⟩],none⟩
abbrev q24:Oper:=⟨some 38,.load 4 (.tmp 37),4,"l10_role.go:47",#[⟨3,.data⟩],none⟩
abbrev q25:Oper:=⟨some 39,.unOp .not 4 (.tmp 38),4,"l10_role.go:47",#[⟨4,.data⟩],none⟩
abbrev q26:Oper:=⟨some 40,.move (.tmp 39),4,"l10_role.go:47",#[⟨5,.data⟩],none⟩
abbrev q27:Oper:=⟨some 41,.move (.tmp 0),3,"l10_role.go:47",#[⟨6,.guard⟩],some (6,false)⟩
abbrev q28:Oper:=⟨some 42,.move (.tmp 1),92,"l10_role.go:47",#[⟨6,.guard⟩],some (6,false)⟩
abbrev q29:Oper:=⟨some 43,.move (.tmp 2),3,"l10_role.go:47",#[⟨6,.guard⟩],some (6,false)⟩
abbrev q30:Oper:=⟨some 44,.call ⟨.value (.func 78),#[.tmp 41,.tmp 42,.tmp 43],#[3,92,3]⟩,89,"l10_role.go:47",#[⟨7,.data⟩,⟨8,.data⟩,⟨9,.data⟩,⟨6,.chain⟩,⟨6,.guard⟩],some (6,false)⟩
abbrev q31:Oper:=⟨some 45,.move (.tmp 1),92,"l10_role.go:47",#[⟨6,.guard⟩],some (6,false)⟩
abbrev q32:Oper:=⟨some 46,.move (.tmp 2),3,"l10_role.go:47",#[⟨6,.guard⟩],some (6,false)⟩
abbrev q33:Oper:=⟨some 47,.indexAddr 92 (.tmp 45) (.tmp 46),0,"l10_role.go:47",#[⟨11,.data⟩,⟨12,.data⟩,⟨6,.guard⟩],some (6,false)⟩
abbrev q34:Oper:=⟨some 48,.fieldAddr 91 (.tmp 47) 3,0,"l10_role.go:47",#[⟨13,.data⟩,⟨6,.guard⟩],some (6,false)⟩
abbrev q35:Oper:=⟨some 49,.load 89 (.tmp 48),89,"l10_role.go:47",#[⟨14,.data⟩,⟨6,.guard⟩],some (6,false)⟩
abbrev q36:Oper:=⟨some 50,.call ⟨.value (.func 105),#[.tmp 44,.tmp 49],#[89,89]⟩,4,"l10_role.go:47",#[⟨10,.data⟩,⟨15,.data⟩,⟨10,.chain⟩,⟨6,.guard⟩],some (6,false)⟩
abbrev q37:Oper:=⟨some 51,.pick (.tmp 40) (.const (.bool true)) (.tmp 50),4,"l10_role.go:47",#[⟨6,.data⟩,⟨16,.data⟩],none⟩
abbrev q38:Oper:=⟨some 33,.assign (.tmp 51),4,"l10_role.go:47",#[⟨17,.data⟩,⟨16,.chain⟩],none⟩

theorem zaq (id:Int) (a:Option Addr) (n c:Nat) (l:List PT) (port:Int) (w:World) (h:GRow ptF w a n c l) :
  Calls Try.prog 78 #[.int .i64 id,.slice a n c,.int .i64 port] w fun e w'=>e=.returned (.agg #[.int .i64 (sayV id l port).r,.int .i64 (sayV id l port).c,.int .i64 (sayV id l port).h,.int .i64 (sayV id l port).b,.int .i64 (sayV id l port).p])∧Below w.heap.size w w':=by
 generalize hw1:w.alloc (Obj.cells #[.int .i64 0,.int .i64 0,.int .i64 0,.int .i64 0,.int .i64 0] 89)=w1;have q1:=zb hw1;have k1:=zk hw1;have hsb:(sayV id l port)=⟨(bestV id (zw id l)).r,(bestV id (zw id l)).c,(bestV id (zw id l)).h,(bestV id (zw id l)).b,port⟩:=by
  unfold sayV;cases zw id l <;> rfl
 rw [hsb];clear hsb;go_enter Try.func78,Try.ntmps78;go_wp2_with fail
 refine (zaA id a n c l _ (h.below q1)).mono ?_;rintro e w2 ⟨rfl,hb2⟩;generalize hv:bestV id (zw id l)=v;have HV:=hide hv;clear hv;generalize hw3:w2.alloc (Obj.cells #[.int .i64 v.r,.int .i64 v.c,.int .i64 v.h,.int .i64 v.b,.int .i64 v.p] 89)=w3;have hb3:=zb hw3;have k3:=zk hw3;have k1:=za (za k1 hb2) hb3;have lt1:=(Array.getElem?_eq_some_iff.1 (za (by rw [← hw1]; exact zL _ _:w1.heap[w.heap.size]?=some (.cells #[.int .i64 0,.int .i64 0,.int .i64 0,.int .i64 0,.int .i64 0] 89)) hb2)).1;have ne1:¬w2.heap.size=w.heap.size:=by omega
 have ne2:¬w.heap.size=w2.heap.size:=by omega
 have HB:=hide (zB (ze (zc (zc q1 hb2) hb3) (g:=w2.heap.size) (by omega) 4 (.int .i64 port)) (Nat.le_refl w.heap.size) (.int .i64 v.r) (.int .i64 v.c) (.int .i64 v.h) (.int .i64 v.b) (.int .i64 port));obtain ⟨⟨x0,x1,x2,x3,x4⟩,y0,y1,y2,y3,y4⟩:=zt k3;obtain ⟨⟨r0,r1,r2,r3,r4⟩,z0,z1,z2,z3,z4⟩:=zt k1;clear hb2 hb3 k1 k3 q1 lt1;go_wp2;exact bodyPost_ret (v:=.agg #[.int .i64 v.r,.int .i64 v.c,.int .i64 v.h,.int .i64 v.b,.int .i64 port]) (by simp [results,Try.results78,go_sem, *]) rfl ⟨(by rw [HV.out]),HB.out⟩

theorem zc7 (id:Int) (a:Option Addr) (n c:Nat) (l:List PT) (port:Int) (w:World) (h:GRow ptF w a n c l) :
  Calls Try.prog 89 #[.int .i64 id,.slice a n c,.int .i64 port] w fun e w'=>e=.returned (.int .i64 (zO id l port))∧Below w.heap.size w w':=by
 have hle:=h.le;have htop:=h.top;unfold maxLen at htop;have hsz:=hide h.size;cases hin:(decide (0≤port) && decide (port≤(n:Int) - 1))
 ·have HIN:=hide hin;have HR:Hid (zO id l port=4):=hide (by unfold zO; rw [hsz.out,hin]; rfl);clear hin;go_enter Try.func89,Try.ntmps89;(go_wp2_with fail);refine (zo port 0 ((n:Int) - 1) _).mono ?_;rintro e w1 ⟨rfl,ew⟩;obtain rfl:=ew.symm;rw [HIN.out];go_wp2;go_ret;exact ⟨(by rw [HR.out]; rfl),Below.refl _ _⟩
 obtain ⟨k,rfl⟩:∃k:Nat,port=(k:Int):=⟨port.toNat,by simp at hin; omega⟩;have hlt:k < n:=by simp at hin; omega
 have HIN:=hide hin;have i1:(0:Int)≤(k:Int):=by omega
 have i2:(k:Int) < (n:Int):=by omega
 obtain ⟨x,b,off,hx,rfl,c0,c1,c2,c3,c4,c5,c6,c7⟩:=pt_at h k hlt;have hro:zO id l (k:Int)=zaW id l k x:=by
  unfold zO;rw [hsz.out,hin]
  simp [hx]
 have HRO:=hide hro;clear hin hro;cases hu:x.up
 ·rw [hu] at c0;have HR:Hid (zO id l (k:Int)=4):=hide (by rw [HRO.out]; unfold zaW; rw [if_pos hu]);clear hu c1 c2 c3 c4 c5 c6 c7 hx;go_enter Try.func89,Try.ntmps89;(go_wp2_with fail);refine (zo (k:Int) 0 ((n:Int) - 1) _).mono ?_;rintro e w1 ⟨rfl,ew⟩;obtain rfl:=ew.symm;rw [HIN.out];go_wp2;go_ret;exact ⟨(by rw [HR.out]; rfl),Below.refl _ _⟩
 rw [hu] at c0;have HU:=hide hu;clear hu;by_cases hp:bestP (zw id l)=(k:Int)
 ·have HR:Hid (zO id l (k:Int)=1):=hide (by rw [HRO.out]; unfold zaW; rw [if_neg (by rw [HU.out]; decide),if_pos hp]);have HP:=hide hp;clear c1 c2 c3 c4 c5 c6 c7 hx hp;go_enter Try.func89,Try.ntmps89;(go_wp2_with fail);refine (zo (k:Int) 0 ((n:Int) - 1) _).mono ?_;rintro e w1 ⟨rfl,ew⟩;obtain rfl:=ew.symm;rw [HIN.out];(go_wp2_with fail);refine (zaA id (some ⟨b,off,none⟩) n c l _ h).mono ?_;rintro e w2 ⟨rfl,hb2⟩;rw [HP.out];have HB:=hide (zc hb2 (zv _ (Obj.cells #[.int .i64 (bestV id (zw id l)).r,.int .i64 (bestV id (zw id l)).c,.int .i64 (bestV id (zw id l)).h,.int .i64 (bestV id (zw id l)).b,.int .i64 (bestV id (zw id l)).p] 89)));clear hb2 c0;go_wp2;go_ret;exact ⟨(by rw [HR.out]; rfl),HB.out⟩
 go_enter Try.func89,Try.ntmps89;go_wp2_with fail
 refine (zo (k:Int) 0 ((n:Int) - 1) _).mono ?_;rintro e w1 ⟨rfl,ew⟩;obtain rfl:=ew.symm;rw [HIN.out];go_wp2_with fail
 refine (zaA id (some ⟨b,off,none⟩) n c l _ h).mono ?_;rintro e w2 ⟨rfl,hb2⟩;generalize hw3:w2.alloc (Obj.cells #[.int .i64 (bestV id (zw id l)).r,.int .i64 (bestV id (zw id l)).c,.int .i64 (bestV id (zw id l)).h,.int .i64 (bestV id (zw id l)).b,.int .i64 (bestV id (zw id l)).p] 89)=w3;have HB:Hid (Below w.heap.size w w3):=hide (zc hb2 (by rw [← hw3]; exact zv _ _));clear hb2 c0 c1 c2 c3 c4 c5 c6 c7;obtain ⟨x',b',off',hx',ha',c0,c1,c2,c3,c4,c5,c6,c7⟩:=pt_at (h.below HB.out) k hlt;rw [hx] at hx';cases hx';cases ha';generalize hP:bestP (zw id l)=P at *;have hPne:(P == (k:Int))=false:=by simp [hp]
 have HX:=hide hx;have vv:Below w3.heap.size w3 w3.drew:=zC (Below.refl _ _);have HR0:Hid (zO id l (k:Int)=(if (!x.has || lessV (sayV id l (k:Int)) x.v)=true then 2 else 3)):=hide (by rw [HRO.out]; unfold zaW; rw [if_neg (by rw [HU.out]; decide),hP,if_neg hp]);clear c0 c1 hx hP;cases hh:x.has
 ·rw [hh] at c2;have HR:Hid (zO id l (k:Int)=2):=hide (by rw [HR0.out,hh]; rfl);have HSS:Hid (∀W',Below w3.heap.size w3 W'→W'.cell? ⟨b,off+k*8+2,none⟩=some (.bool false)∧W'.cell? ⟨b,off+k*8+3,none⟩=some (.int .i64 x.v.r)∧W'.cell? ⟨b,off+k*8+4,none⟩=some (.int .i64 x.v.c)∧W'.cell? ⟨b,off+k*8+5,none⟩=some (.int .i64 x.v.h)∧W'.cell? ⟨b,off+k*8+6,none⟩=some (.int .i64 x.v.b)∧W'.cell? ⟨b,off+k*8+7,none⟩=some (.int .i64 x.v.p)):=hide (fun W' hb=>⟨(hb.cell (zp c2)).trans c2,(hb.cell (zp c3)).trans c3,(hb.cell (zp c4)).trans c4,(hb.cell (zp c5)).trans c5,(hb.cell (zp c6)).trans c6,(hb.cell (zp c7)).trans c7⟩);clear c2 c3 c4 c5 c6 c7 hh;(go_wp2_with fail);refine wp_region_held_drew (S:=(fun W=>W.cell? ⟨b,off+k*8+2,none⟩=some (.bool false)∧W.cell? ⟨b,off+k*8+3,none⟩=some (.int .i64 x.v.r)∧W.cell? ⟨b,off+k*8+4,none⟩=some (.int .i64 x.v.c)∧W.cell? ⟨b,off+k*8+5,none⟩=some (.int .i64 x.v.h)∧W.cell? ⟨b,off+k*8+6,none⟩=some (.int .i64 x.v.b)∧W.cell? ⟨b,off+k*8+7,none⟩=some (.int .i64 x.v.p))) (by kernel_rfl) (HSS.out _ vv) (fun hHeld => ?_);refine kK 0 q20 ?_;refine kK 1 q21 ?_;refine kK 2 q22 ?_;refine kK 3 q23 ?_;refine kK 4 q24 ?_;refine kK 5 q25 ?_;refine kK 6 q26 ?_;refine kN 7 q27 ?_;refine kN 8 q28 ?_;refine kN 9 q29 ?_;refine kN 10 q30 ?_;refine kN 11 q31 ?_;refine kN 12 q32 ?_;refine kN 13 q33 ?_;refine kN 14 q34 ?_;refine kN 15 q35 ?_;refine kN 16 q36 ?_;refine kK 17 q37 ?_;refine kK 18 q38 ?_;refine wpAnyH_done (by kernel_rfl) ?_ _;clear hHeld;go_wp2;go_ret;exact ⟨(by rw [HR.out]; rfl),zc HB.out vv⟩
 ·rw [hh] at c2;have HSS:Hid (∀W',Below w3.heap.size w3 W'→W'.cell? ⟨b,off+k*8+2,none⟩=some (.bool true)∧W'.cell? ⟨b,off+k*8+3,none⟩=some (.int .i64 x.v.r)∧W'.cell? ⟨b,off+k*8+4,none⟩=some (.int .i64 x.v.c)∧W'.cell? ⟨b,off+k*8+5,none⟩=some (.int .i64 x.v.h)∧W'.cell? ⟨b,off+k*8+6,none⟩=some (.int .i64 x.v.b)∧W'.cell? ⟨b,off+k*8+7,none⟩=some (.int .i64 x.v.p)):=hide (fun W' hb=>⟨(hb.cell (zp c2)).trans c2,(hb.cell (zp c3)).trans c3,(hb.cell (zp c4)).trans c4,(hb.cell (zp c5)).trans c5,(hb.cell (zp c6)).trans c6,(hb.cell (zp c7)).trans c7⟩);clear c2 c3 c4 c5 c6 c7;cases hl:lessV (sayV id l (k:Int)) x.v
  ·have HR:Hid (zO id l (k:Int)=3):=hide (by rw [HR0.out,hh,hl]; rfl);have HL:Hid (zY (sayV id l (k:Int)).r (sayV id l (k:Int)).c (sayV id l (k:Int)).b (sayV id l (k:Int)).p x.v.r x.v.c x.v.b x.v.p=false):=hide hl;clear hh hl;(go_wp2_with fail);refine wp_region_held_drew (S:=(fun W=>W.cell? ⟨b,off+k*8+2,none⟩=some (.bool true)∧W.cell? ⟨b,off+k*8+3,none⟩=some (.int .i64 x.v.r)∧W.cell? ⟨b,off+k*8+4,none⟩=some (.int .i64 x.v.c)∧W.cell? ⟨b,off+k*8+5,none⟩=some (.int .i64 x.v.h)∧W.cell? ⟨b,off+k*8+6,none⟩=some (.int .i64 x.v.b)∧W.cell? ⟨b,off+k*8+7,none⟩=some (.int .i64 x.v.p))) (by kernel_rfl) (HSS.out _ vv) (fun hHeld => ?_);refine kK 0 q20 ?_;refine kK 1 q21 ?_;refine kK 2 q22 ?_;refine kK 3 q23 ?_;refine kK 4 q24 ?_;refine kK 5 q25 ?_;refine kK 6 q26 ?_;refine kK 7 q27 ?_;refine kK 8 q28 ?_;refine kK 9 q29 ?_;refine kK 11 q31 ?_;refine kK 12 q32 ?_;refine kK 13 q33 ?_;refine kK 14 q34 ?_;refine kK 15 q35 ?_;refine kR 10 q30 (fun K hK => ?_);go_simp;refine (zaq id (some ⟨b,off,none⟩) n c l (k:Int) _ (h.below (zc HB.out vv))).mono ?_;rintro e wx ⟨rfl,hbx⟩;have vv:=zc vv hbx;clear hbx;(go_wp2_with fail);refine hK.out _ _ (HSS.out _ vv) (fun hHeld => ?_);clear hK K;(try simp only [Act.put,lA,lB,lC]);refine kR 16 q36 (fun K hK => ?_);go_simp;refine (zal (sayV id l (k:Int)).r (sayV id l (k:Int)).c (sayV id l (k:Int)).h (sayV id l (k:Int)).b (sayV id l (k:Int)).p x.v.r x.v.c x.v.h x.v.b x.v.p _).mono ?_;rintro e wx ⟨rfl,hbx⟩;rw [HL.out];have vv:=zc vv hbx;clear hbx;(go_wp2_with fail);refine hK.out _ _ (HSS.out _ vv) (fun hHeld => ?_);clear hK K;(try simp only [Act.put,lA,lB,lC]);refine kK 17 q37 ?_;refine kK 18 q38 ?_;refine wpAnyH_done (by kernel_rfl) ?_ _;clear hHeld;go_wp2;go_ret;exact ⟨(by rw [HR.out]; rfl),zc HB.out vv⟩
  ·have HR:Hid (zO id l (k:Int)=2):=hide (by rw [HR0.out,hh,hl]; rfl);have HL:Hid (zY (sayV id l (k:Int)).r (sayV id l (k:Int)).c (sayV id l (k:Int)).b (sayV id l (k:Int)).p x.v.r x.v.c x.v.b x.v.p=true):=hide hl;clear hh hl;(go_wp2_with fail);refine wp_region_held_drew (S:=(fun W=>W.cell? ⟨b,off+k*8+2,none⟩=some (.bool true)∧W.cell? ⟨b,off+k*8+3,none⟩=some (.int .i64 x.v.r)∧W.cell? ⟨b,off+k*8+4,none⟩=some (.int .i64 x.v.c)∧W.cell? ⟨b,off+k*8+5,none⟩=some (.int .i64 x.v.h)∧W.cell? ⟨b,off+k*8+6,none⟩=some (.int .i64 x.v.b)∧W.cell? ⟨b,off+k*8+7,none⟩=some (.int .i64 x.v.p))) (by kernel_rfl) (HSS.out _ vv) (fun hHeld => ?_);refine kK 0 q20 ?_;refine kK 1 q21 ?_;refine kK 2 q22 ?_;refine kK 3 q23 ?_;refine kK 4 q24 ?_;refine kK 5 q25 ?_;refine kK 6 q26 ?_;refine kK 7 q27 ?_;refine kK 8 q28 ?_;refine kK 9 q29 ?_;refine kK 11 q31 ?_;refine kK 12 q32 ?_;refine kK 13 q33 ?_;refine kK 14 q34 ?_;refine kK 15 q35 ?_;refine kR 10 q30 (fun K hK => ?_);go_simp;refine (zaq id (some ⟨b,off,none⟩) n c l (k:Int) _ (h.below (zc HB.out vv))).mono ?_;rintro e wx ⟨rfl,hbx⟩;have vv:=zc vv hbx;clear hbx;(go_wp2_with fail);refine hK.out _ _ (HSS.out _ vv) (fun hHeld => ?_);clear hK K;(try simp only [Act.put,lA,lB,lC]);refine kR 16 q36 (fun K hK => ?_);go_simp;refine (zal (sayV id l (k:Int)).r (sayV id l (k:Int)).c (sayV id l (k:Int)).h (sayV id l (k:Int)).b (sayV id l (k:Int)).p x.v.r x.v.c x.v.h x.v.b x.v.p _).mono ?_;rintro e wx ⟨rfl,hbx⟩;rw [HL.out];have vv:=zc vv hbx;clear hbx;(go_wp2_with fail);refine hK.out _ _ (HSS.out _ vv) (fun hHeld => ?_);clear hK K;(try simp only [Act.put,lA,lB,lC]);refine kK 17 q37 ?_;refine kK 18 q38 ?_;refine wpAnyH_done (by kernel_rfl) ?_ _;clear hHeld;go_wp2;go_ret;exact ⟨(by rw [HR.out]; rfl),zc HB.out vv⟩

theorem zdZ {id:Int} {l:List PT} (port:Int):1≤zO id l port∧zO id l port≤4:=by
 unfold zO
 split
 ·split
  ·unfold zaW
   repeat' split
   all_goals omega
  ·omega
 ·omega

def zaX (f:Nat→Bool):Nat→Int
 | 0=>0
 | k+1=>if f k=true then bits .or .i64 (zaX f k) (2 ^ k) else zaX f k

theorem zd3 (id:Int) (l:List PT):∀k,zaa id l k=zaX (fun i=>decide (zO id l (i:Int)≤2)) k
 | 0=>rfl
 | k+1=>by
  rw [zaa,zaX,zd3 id l k]
  simp

theorem zb6 (f g:Nat→Bool):∀k,(∀i,i < k→f i=g i)→zaX f k=zaX g k
 | 0,_=>rfl
 | k+1,h=>by
  rw [zaX,zaX,zb6 f g k (fun i hi=>h i (by omega)),h k (by omega)]

def six (b0 b1 b2 b3 b4 b5:Bool):Nat→Bool
 | 0=>b0
 | 1=>b1
 | 2=>b2
 | 3=>b3
 | 4=>b4
 | _=>b5

theorem zcB (id:Int) (a:Option Addr) (n c:Nat) (l:List PT) (w:World) (h:GRow ptF w a n c l) :
  Calls Try.prog 61 #[.int .i64 id,.slice a n c] w fun e w'=>e=.returned (.int .i64 (zI id l))∧Below w.heap.size w w':=by
 have hle:=h.le;have htop:=h.top;unfold maxLen at htop;have hsz:=hide h.size;go_enter Try.func61,Try.ntmps61;go_wp2_with fail
 go_loopw [5,6] (fun s i wr=>∃k:Nat,k≤min n 6∧i=.int .i64 k∧s=.int .i64 (zaa id l k)∧Below w.heap.size w wr) (fun _ i _=>6 - (intOf i).toNat)
 case atStart=>exact ⟨0,Nat.zero_le _,rfl,rfl,Below.refl _ _⟩
 case round =>
  obtain ⟨k,hk,rfl,rfl,hb⟩:=hrel;have hk6:k≤6:=by omega
  generalize hS:zaa id l k=S;have HS:=hide hS;clear hS;by_cases hlt:k < min n 6
  ·have hkn:k < n:=by omega
   have hk5:k < 6:=by omega
   have i1:(0:Int)≤(k:Int):=by omega
   have i2:(k:Int) < (n:Int):=by omega
   have i3:(k:Int) < 6:=by omega
   have hmin:(if (n:Int)≤6 then (n:Int) else 6)=((min n 6:Nat):Int):=by split <;> omega
   have i4:(k:Int) < ((min n 6:Nat):Int):=by omega
   have HB:=hide hb;clear hk hb;(go_wp2_with fail);refine (zc7 id a n c l (k:Int) _ (h.below HB.out)).mono ?_;rintro e w2 ⟨rfl,hb2⟩;have HB2:=hide (zc HB.out hb2);have h14:=zdZ (id:=id) (l:=l) (k:Int);clear hb2;generalize hR:zO id l (k:Int)=R at *;have HR:=hide hR;clear hR;by_cases hr:R≤2
   ·have HN:Hid (zaa id l (k+1)=bits .or .i64 S (2 ^ k)):=hide (by rw [zaa,HR.out,if_pos hr,HS.out]);have hw2:wrap64 (2 ^ k)=2 ^ k:=by
     rcases (show k=0∨k=1∨k=2∨k=3∨k=4∨k=5 by omega) with rfl | rfl | rfl | rfl | rfl | rfl <;> exact Go.IntWalk.wrap64_in _ (by decide)
    have HW2:=hide hw2;clear hw2;go_wp2;rw [HW2.out]
    go_roundw
    case rel=>exact ⟨k+1,by omega,by go_num,by rw [HN.out],HB2.out⟩
    case measure=>simp [intOf]; omega
   ·have HN:Hid (zaa id l (k+1)=S):=hide (by rw [zaa,HR.out,if_neg hr,HS.out]);go_wp2
    go_roundw
    case rel=>exact ⟨k+1,by omega,by go_num,by rw [HN.out],HB2.out⟩
    case measure=>simp [intOf]; omega
  ·have hkn:k=min n 6:=by omega
   have HK:Hid (zI id l=S):=hide (by unfold zI; rw [hsz.out,← hkn]; exact HS.out);have hend:¬((k:Int) < (n:Int)∧(k:Int) < 6):=by omega
   go_wp2
   all_goals go_ret
   all_goals exact ⟨(by rw [HK.out]; rfl),hb⟩

theorem zcS {W:World} {X:Nat} {c0 c1 c2 c3 c4:Value} {T:TypeId} {K:World→Prop} (hk:W.heap[X]?=some (.cells #[c0,c1,c2,c3,c4] T)) (v0 v1 v2 v3 v4:Value) (h:∀wq,wq.heap[X]?=some (.cells #[v0,v1,v2,v3,v4] T)→W.grownBy wq (some X)→K wq):K (((((W.setCell ⟨X,0,none⟩ v0).setCell ⟨X,1,none⟩ v1).setCell ⟨X,2,none⟩ v2).setCell ⟨X,3,none⟩ v3).setCell ⟨X,4,none⟩ v4):=by
 refine h _ ?_ (zi (zi (zi (zi (zd 0 _) (zd 1 _)) (zd 2 _)) (zd 3 _)) (zd 4 _));have h0:=zj (j:=0) hk v0;have h1:=zj (j:=1) h0 v1;have h2:=zj (j:=2) h1 v2;have h3:=zj (j:=3) h2 v3;have h4:=zj (j:=4) h3 v4
 simpa using h4

theorem zeG {W:World} {X:Nat} {c0 c1 c2 c3 c4 c5 c6:Value} {T:TypeId} {K:World→Prop} (hk:W.heap[X]?=some (.cells #[c0,c1,c2,c3,c4,c5,c6] T)) (v0 v1 v2 v3 v4 v5 v6:Value) (h:∀wq,wq.heap[X]?=some (.cells #[v0,v1,v2,v3,v4,v5,v6] T)→W.grownBy wq (some X)→K wq):K (((((((W.setCell ⟨X,0,none⟩ v0).setCell ⟨X,1,none⟩ v1).setCell ⟨X,2,none⟩ v2).setCell ⟨X,3,none⟩ v3).setCell ⟨X,4,none⟩ v4).setCell ⟨X,5,none⟩ v5).setCell ⟨X,6,none⟩ v6):=by
 refine h _ ?_ (zi (zi (zi (zi (zi (zi (zd 0 _) (zd 1 _)) (zd 2 _)) (zd 3 _)) (zd 4 _)) (zd 5 _)) (zd 6 _));have h6:=zj (j:=6) (zj (j:=5) (zj (j:=4) (zj (j:=3) (zj (j:=2) (zj (j:=1) (zj (j:=0) hk v0) v1) v2) v3) v4) v5) v6
 simpa using h6

theorem zaH {W:World} {X:Nat} {c0 c1:Value} {T:TypeId} {K:World→Prop} (hk:W.heap[X]?=some (.cells #[c0,c1] T)) (v0 v1:Value) (h:∀wq,wq.heap[X]?=some (.cells #[v0,v1] T)→W.grownBy wq (some X)→K wq):K ((W.setCell ⟨X,0,none⟩ v0).setCell ⟨X,1,none⟩ v1):=by
 refine h _ ?_ (zi (zd 0 _) (zd 1 _));have h1:=zj (j:=1) (zj (j:=0) hk v0) v1
 simpa using h1

theorem zaI {W:World} {X:Nat} {c0 c1 c2 c3 c4 c5 c6 c7:Value} {T:TypeId} {K:World→Prop} (hk:W.heap[X]?=some (.cells #[c0,c1,c2,c3,c4,c5,c6,c7] T)) (v0 v1 v2 v3 v4 v5 v6 v7:Value) (h:∀wq,wq.heap[X]?=some (.cells #[v0,v1,v2,v3,v4,v5,v6,v7] T)→W.grownBy wq (some X)→K wq):K ((((((((W.setCell ⟨X,0,none⟩ v0).setCell ⟨X,1,none⟩ v1).setCell ⟨X,2,none⟩ v2).setCell ⟨X,3,none⟩ v3).setCell ⟨X,4,none⟩ v4).setCell ⟨X,5,none⟩ v5).setCell ⟨X,6,none⟩ v6).setCell ⟨X,7,none⟩ v7):=by
 refine h _ ?_ (zi (zi (zi (zi (zi (zi (zi (zd 0 _) (zd 1 _)) (zd 2 _)) (zd 3 _)) (zd 4 _)) (zd 5 _)) (zd 6 _)) (zd 7 _));have h0:=zj (j:=0) hk v0;have h1:=zj (j:=1) h0 v1;have h2:=zj (j:=2) h1 v2;have h3:=zj (j:=3) h2 v3;have h4:=zj (j:=4) h3 v4;have h5:=zj (j:=5) h4 v5;have h6:=zj (j:=6) h5 v6;have h7:=zj (j:=7) h6 v7
 simpa using h7

theorem zcx (R C H B P:Int) (w:World) :
  Calls Try.prog 135 #[.agg #[.int .i64 R,.int .i64 C,.int .i64 H,.int .i64 B,.int .i64 P]] w fun e w'=>e=.returned (.agg #[.int .i64 R,.int .i64 C,.int .i64 H,.int .i64 B,.int .i64 P])∧Below w.heap.size w w':=by
 go_enter Try.func135,Try.ntmps135;go_wp2;exact bodyPost_ret (v:=.agg #[.int .i64 R,.int .i64 C,.int .i64 H,.int .i64 B,.int .i64 P]) (by simp [results,Try.results135,go_sem, *]) rfl ⟨rfl,zF _ _ _⟩

theorem zc0 (R C H B P:Int) (w:World) :
  Calls Try.prog 135 #[.agg #[.int .i64 R,.int .i64 C,.int .i64 H,.int .i64 B,.int .i64 P]] w fun e w'=>e=.returned (.agg #[.int .i64 R,.int .i64 C,.int .i64 H,.int .i64 B,.int .i64 P]) ∧
   w'=(w.alloc (.cells #[.int .i64 R,.int .i64 C,.int .i64 H,.int .i64 B,.int .i64 P] 89)).alloc (.cells #[.int .i64 R,.int .i64 C,.int .i64 H,.int .i64 B,.int .i64 P] 196):=by
 go_enter Try.func135,Try.ntmps135;go_wp2;exact bodyPost_ret (v:=.agg #[.int .i64 R,.int .i64 C,.int .i64 H,.int .i64 B,.int .i64 P]) (by simp [results,Try.results135,go_sem, *]) rfl ⟨rfl,rfl⟩

theorem zeU (R C H B P:Int) (w:World) :
  Calls Try.prog 136 #[.agg #[.int .i64 R,.int .i64 C,.int .i64 H,.int .i64 B,.int .i64 P]] w fun e w'=>e=.returned (.agg #[.int .i64 R,.int .i64 C,.int .i64 H,.int .i64 B,.int .i64 P])∧Below w.heap.size w w':=by
 go_enter Try.func136,Try.ntmps136;go_wp2;exact bodyPost_ret (v:=.agg #[.int .i64 R,.int .i64 C,.int .i64 H,.int .i64 B,.int .i64 P]) (by simp [results,Try.results136,go_sem, *]) rfl ⟨rfl,zF _ _ _⟩

theorem ze6 (R C H B P:Int) (w:World):(Instr.index 196 (.agg #[.int .i64 R,.int .i64 C,.int .i64 H,.int .i64 B,.int .i64 P]) (.int .i64 0)).run Try.prog w=.ok (.int .i64 R) w:=by kernel_rfl
theorem ze7 (R C H B P:Int) (w:World):(Instr.index 196 (.agg #[.int .i64 R,.int .i64 C,.int .i64 H,.int .i64 B,.int .i64 P]) (.int .i64 1)).run Try.prog w=.ok (.int .i64 C) w:=by kernel_rfl
theorem ze8 (R C H B P:Int) (w:World):(Instr.index 196 (.agg #[.int .i64 R,.int .i64 C,.int .i64 H,.int .i64 B,.int .i64 P]) (.int .i64 2)).run Try.prog w=.ok (.int .i64 H) w:=by kernel_rfl
theorem ze9 (R C H B P:Int) (w:World):(Instr.index 196 (.agg #[.int .i64 R,.int .i64 C,.int .i64 H,.int .i64 B,.int .i64 P]) (.int .i64 3)).run Try.prog w=.ok (.int .i64 B) w:=by kernel_rfl
theorem zfa (R C H B P:Int) (w:World):(Instr.index 196 (.agg #[.int .i64 R,.int .i64 C,.int .i64 H,.int .i64 B,.int .i64 P]) (.int .i64 4)).run Try.prog w=.ok (.int .i64 P) w:=by kernel_rfl

abbrev zfA:Array Value:=#[.int .i64 1,.int .i64 0,.int .i64 0,.int .i64 1,.int .i64 0]
abbrev mostC:Array Value:=#[.int .i64 99,.int .i64 100000,.int .i64 10,.int .i64 99,.int .i64 7]
abbrev endsC:Array Value:=#[.int .i64 1,.int .i64 0,.int .i64 0,.int .i64 1,.int .i64 0,.int .i64 99,.int .i64 100000,.int .i64 10,.int .i64 99,.int .i64 7]

def cl (n lo hi:Int):Int:=min (max n lo) hi

def nearC (R C H B P:Int) (k:Nat):Array Value :=
 #[.int .i64 (if 0 < k then cl R 1 99 else R),.int .i64 (if 1 < k then cl C 0 100000 else C),.int .i64 (if 2 < k then cl H 0 10 else H),.int .i64 (if 3 < k then cl B 1 99 else B),.int .i64 (if 4 < k then cl P 0 7 else P)]

theorem zeq {w:World} {C:Nat} {t:TypeId} {c0 c1 c2 c3 c4 c5 c6 c7 c8 c9:Value} (h:w.heap[C]?=some (.cells #[c0,c1,c2,c3,c4,c5,c6,c7,c8,c9] t)) :
  w.cell? ⟨C,0,none⟩=some c0∧w.cell? ⟨C,1,none⟩=some c1∧w.cell? ⟨C,2,none⟩=some c2∧w.cell? ⟨C,3,none⟩=some c3∧w.cell? ⟨C,4,none⟩=some c4∧w.cell? ⟨C,5,none⟩=some c5∧w.cell? ⟨C,6,none⟩=some c6∧w.cell? ⟨C,7,none⟩=some c7∧w.cell? ⟨C,8,none⟩=some c8∧w.cell? ⟨C,9,none⟩=some c9:=by
 refine ⟨?_, ?_, ?_, ?_, ?_, ?_, ?_, ?_, ?_, ?_⟩ <;> simp [World.cell?,h]

theorem zdz (R C H B P:Int) (w:World) :
  Calls Try.prog 134 #[.agg #[.int .i64 R,.int .i64 C,.int .i64 H,.int .i64 B,.int .i64 P]] w fun e w'=>e=.returned (.agg #[.int .i64 (cl R 1 99),.int .i64 (cl C 0 100000),.int .i64 (cl H 0 10),.int .i64 (cl B 1 99),.int .i64 (cl P 0 7)])∧Below w.heap.size w w':=by
 have q3:=zy w (.cells #[.int .i64 R,.int .i64 C,.int .i64 H,.int .i64 B,.int .i64 P] 89) (.cells #[.int .i64 0,.int .i64 0,.int .i64 0,.int .i64 0,.int .i64 0] 89) (.cells endsC 195);obtain ⟨k0,k1,k2⟩:=zV (Below.refl _ (((w.alloc (.cells #[.int .i64 R,.int .i64 C,.int .i64 H,.int .i64 B,.int .i64 P] 89)).alloc (.cells #[.int .i64 0,.int .i64 0,.int .i64 0,.int .i64 0,.int .i64 0] 89)).alloc (.cells endsC 195)));have hn:(((w.alloc (.cells #[.int .i64 R,.int .i64 C,.int .i64 H,.int .i64 B,.int .i64 P] 89)).alloc (.cells #[.int .i64 0,.int .i64 0,.int .i64 0,.int .i64 0,.int .i64 0] 89)).alloc (.cells endsC 195)).heap.size=w.heap.size+3:=by simp
 have HQ:=hide q3;have HK0:=hide k0;have HK1:=hide k1;have HN:=hide hn;clear q3 k0 k1 hn;go_enter Try.func134,Try.ntmps134;go_upto_region 2 with fail
 generalize (((w.alloc (.cells #[.int .i64 R,.int .i64 C,.int .i64 H,.int .i64 B,.int .i64 P] 89)).alloc (.cells #[.int .i64 0,.int .i64 0,.int .i64 0,.int .i64 0,.int .i64 0] 89)).alloc (.cells endsC 195))=w3 at *;obtain ⟨x0,x1,x2,x3,x4,x5,x6,x7,x8,x9⟩:=zeq k2;have K2:=hide k2;clear k2
 go_cut [4,5] from 9 to 38 (fun s t wc=>∃p4 p5:Nat,s=.pointer (some ⟨p4,0,none⟩)∧t=.pointer (some ⟨p5,0,none⟩)∧wc.heap[p4]?=some (.cells zfA 196)∧wc.heap[p5]?=some (.cells mostC 196)∧¬p4=p5∧w3.heap.size≤p4∧w3.heap.size≤p5∧Below w3.heap.size w3 wc)
 case first =>
  go_region_held3 (fun W=>W.cell? ⟨w.heap.size+1+1,0,none⟩=some (.int .i64 1)∧W.cell? ⟨w.heap.size+1+1,1,none⟩=some (.int .i64 0)∧W.cell? ⟨w.heap.size+1+1,2,none⟩=some (.int .i64 0)∧W.cell? ⟨w.heap.size+1+1,3,none⟩=some (.int .i64 1)∧W.cell? ⟨w.heap.size+1+1,4,none⟩=some (.int .i64 0)∧W.cell? ⟨w.heap.size+1+1,5,none⟩=some (.int .i64 99)∧W.cell? ⟨w.heap.size+1+1,6,none⟩=some (.int .i64 100000)∧W.cell? ⟨w.heap.size+1+1,7,none⟩=some (.int .i64 10)∧W.cell? ⟨w.heap.size+1+1,8,none⟩=some (.int .i64 99)∧W.cell? ⟨w.heap.size+1+1,9,none⟩=some (.int .i64 7))
   (first | assumption | exact zeq (za K2.out (by repeat (first | exact Below.refl _ _ | refine zC ?_ | refine zci ?_ _))) | go_keep) (first
   | (go_at_call 135; refine (zc0 _ _ _ _ _ _).mono ?_; rintro e wx ⟨rfl,rfl⟩))
  all_goals
   (go_wp2_with fail)
   go_meet
   refine ⟨_,_,rfl,rfl,by repeat (first | (refine zdN ?_; simp; done) | refine za ?_ (zv _ _) | refine zah ?_),by repeat (first | (refine zdN ?_; simp; done) | refine za ?_ (zv _ _) | refine zah ?_),by omega,by omega,by omega,by repeat (first | exact Below.refl _ _ | refine zC ?_ | refine zci ?_ _)⟩
 case rest =>
  obtain ⟨p4,p5,rfl,rfl,h4,h5,hne,hp4,hp5,hbc⟩:=hcut;have hn:=HN.out;have hsz:=hbc.size;obtain ⟨⟨v0,v1,v2,v3,v4⟩,-⟩:=zt (za HK0.out hbc);clear x0 x1 x2 x3 x4 x5 x6 x7 x8 x9;(go_wp2_with fail);refine (zcx R C H B P _).mono ?_;rintro e w6 ⟨rfl,hb6⟩;have hs6:=hb6.size;have q6:=zc hbc hb6;have k4:=za (za h4 hb6) (zv w6 (.cells #[.int .i64 R,.int .i64 C,.int .i64 H,.int .i64 B,.int .i64 P] 196));have k5:=za (za h5 hb6) (zv w6 (.cells #[.int .i64 R,.int .i64 C,.int .i64 H,.int .i64 B,.int .i64 P] 196));have k6:=zL w6 (.cells #[.int .i64 R,.int .i64 C,.int .i64 H,.int .i64 B,.int .i64 P] 196);have k1:=za (za HK1.out q6) (zv w6 (.cells #[.int .i64 R,.int .i64 C,.int .i64 H,.int .i64 B,.int .i64 P] 196));have hq:=HQ.out;have lt4:p4 < w6.heap.size:=(Array.getElem?_eq_some_iff.1 (za h4 hb6)).1;have lt5:p5 < w6.heap.size:=(Array.getElem?_eq_some_iff.1 (za h5 hb6)).1;clear v0 v1 v2 v3 v4 hb6;(go_wp2_with fail)
  go_loopw [21] (fun i wr=>∃k:Nat,k≤5∧i=.int .i64 k∧wr.heap[w6.heap.size]?=some (.cells (nearC R C H B P k) 196)∧(w6.alloc (.cells #[.int .i64 R,.int .i64 C,.int .i64 H,.int .i64 B,.int .i64 P] 196)).grownBy wr (some w6.heap.size)) (fun i _=>5 - (intOf i).toNat)
  case atStart=>exact ⟨0,Nat.zero_le _,rfl,k6,World.grownBy.refl _ _⟩
  case round =>
   obtain ⟨k,hk,hi,hc6,hg⟩:=hrel;have c4:=zg k4 hg (by intro j e; cases e; omega);have c5:=zg k5 hg (by intro j e; cases e; omega);have c1:=zg k1 hg (by intro j e; cases e; omega);have HG:=hide hg;obtain ⟨⟨y0,y1,y2,y3,y4⟩,-⟩:=zt c4;obtain ⟨⟨z0,z1,z2,z3,z4⟩,-⟩:=zt c5;have H6:=hide hc6;have H1:=hide c1;clear c4 c5 k4 k5 k6 k1 h4 h5 hg c1 hc6;rcases (show k=0∨k=1∨k=2∨k=3∨k=4∨k=5 by omega) with rfl | rfl | rfl | rfl | rfl | rfl
   ·have hi:_=Value.int .i64 0:=hi;subst hi;have h6:wr.heap[w6.heap.size]?=some (.cells #[.int .i64 R,.int .i64 C,.int .i64 H,.int .i64 B,.int .i64 P] 196):=H6.out;obtain ⟨⟨u0,u1,u2,u3,u4⟩,f0,f1,f2,f3,f4⟩:=zt h6;clear h6;have ix:=ze6 R C H B P wr;(go_wp2_with fail)
    go_region
    go_wp2
    go_roundw
    case rel =>
     refine ⟨0+1,by omega,by go_num, ?_,zi (zi HG.out (zd _ _)) (zbx (zC (Below.refl _ _)))⟩
     have:=zj (j:=0) H6.out (.int .i64 (cl R 1 99))
     exact zah this
    case measure=>simp [intOf]
   ·have hi:_=Value.int .i64 1:=hi;subst hi;have h6:wr.heap[w6.heap.size]?=some (.cells #[.int .i64 (cl R 1 99),.int .i64 C,.int .i64 H,.int .i64 B,.int .i64 P] 196):=H6.out;obtain ⟨⟨u0,u1,u2,u3,u4⟩,f0,f1,f2,f3,f4⟩:=zt h6;clear h6;have ix:=ze7 R C H B P wr;(go_wp2_with fail)
    go_region
    go_wp2
    go_roundw
    case rel =>
     refine ⟨1+1,by omega,by go_num, ?_,zi (zi HG.out (zd _ _)) (zbx (zC (Below.refl _ _)))⟩
     have:=zj (j:=1) H6.out (.int .i64 (cl C 0 100000))
     exact zah this
    case measure=>simp [intOf]
   ·have hi:_=Value.int .i64 2:=hi;subst hi;have h6:wr.heap[w6.heap.size]?=some (.cells #[.int .i64 (cl R 1 99),.int .i64 (cl C 0 100000),.int .i64 H,.int .i64 B,.int .i64 P] 196):=H6.out;obtain ⟨⟨u0,u1,u2,u3,u4⟩,f0,f1,f2,f3,f4⟩:=zt h6;clear h6;have ix:=ze8 R C H B P wr;(go_wp2_with fail)
    go_region
    go_wp2
    go_roundw
    case rel =>
     refine ⟨2+1,by omega,by go_num, ?_,zi (zi HG.out (zd _ _)) (zbx (zC (Below.refl _ _)))⟩
     have:=zj (j:=2) H6.out (.int .i64 (cl H 0 10))
     exact zah this
    case measure=>simp [intOf]
   ·have hi:_=Value.int .i64 3:=hi;subst hi;have h6:wr.heap[w6.heap.size]?=some (.cells #[.int .i64 (cl R 1 99),.int .i64 (cl C 0 100000),.int .i64 (cl H 0 10),.int .i64 B,.int .i64 P] 196):=H6.out;obtain ⟨⟨u0,u1,u2,u3,u4⟩,f0,f1,f2,f3,f4⟩:=zt h6;clear h6;have ix:=ze9 R C H B P wr;(go_wp2_with fail)
    go_region
    go_wp2
    go_roundw
    case rel =>
     refine ⟨3+1,by omega,by go_num, ?_,zi (zi HG.out (zd _ _)) (zbx (zC (Below.refl _ _)))⟩
     have:=zj (j:=3) H6.out (.int .i64 (cl B 1 99))
     exact zah this
    case measure=>simp [intOf]
   ·have hi:_=Value.int .i64 4:=hi;subst hi;have h6:wr.heap[w6.heap.size]?=some (.cells #[.int .i64 (cl R 1 99),.int .i64 (cl C 0 100000),.int .i64 (cl H 0 10),.int .i64 (cl B 1 99),.int .i64 P] 196):=H6.out;obtain ⟨⟨u0,u1,u2,u3,u4⟩,f0,f1,f2,f3,f4⟩:=zt h6;clear h6;have ix:=zfa R C H B P wr;(go_wp2_with fail)
    go_region
    go_wp2
    go_roundw
    case rel =>
     refine ⟨4+1,by omega,by go_num, ?_,zi (zi HG.out (zd _ _)) (zbx (zC (Below.refl _ _)))⟩
     have:=zj (j:=4) H6.out (.int .i64 (cl P 0 7))
     exact zah this
    case measure=>simp [intOf]
   ·have hi:_=Value.int .i64 5:=hi;subst hi;have h6:wr.heap[w6.heap.size]?=some (.cells #[.int .i64 (cl R 1 99),.int .i64 (cl C 0 100000),.int .i64 (cl H 0 10),.int .i64 (cl B 1 99),.int .i64 (cl P 0 7)] 196):=H6.out;obtain ⟨⟨u0,u1,u2,u3,u4⟩,f0,f1,f2,f3,f4⟩:=zt h6;clear h6;(go_wp2_with fail);refine (zeU (cl R 1 99) (cl C 0 100000) (cl H 0 10) (cl B 1 99) (cl P 0 7) _).mono ?_;rintro e w9 ⟨rfl,hb9⟩;obtain ⟨⟨t0,t1,t2,t3,t4⟩,g0,g1,g2,g3,g4⟩:=zt (za H1.out hb9);have b9:=zc hq (zc q6 (zc (zfo (zv w6 _) HG.out (Nat.le_refl _)) hb9));have HB:=hide b9;clear u0 u1 u2 u3 u4 f0 f1 f2 f3 f4 hb9 b9;go_wp2;exact bodyPost_ret (v:=.agg #[.int .i64 (cl R 1 99),.int .i64 (cl C 0 100000),.int .i64 (cl H 0 10),.int .i64 (cl B 1 99),.int .i64 (cl P 0 7)]) (by simp [results,Try.results134,go_sem, *]) rfl ⟨rfl,zB HB.out (by omega) _ _ _ _ _⟩

theorem zbw (n lo hi:Int) (h:lo≤hi):(n == cl n lo hi)=(decide (lo≤n) && decide (n≤hi)):=by
 unfold cl;rw [Bool.eq_iff_iff]
 simp
 omega

theorem zeK (R C H B P:Int):((R == cl R 1 99) && ((C == cl C 0 100000) && ((H == cl H 0 10) && ((B == cl B 1 99) && (P == cl P 0 7)))))=okVc R C H B P:=by
 rw [zeJ,zbw _ _ _ (by omega),zbw _ _ _ (by omega),zbw _ _ _ (by omega),zbw _ _ _ (by omega),zbw _ _ _ (by omega)]

theorem zac (R C H B P:Int) (w:World) :
  Calls Try.prog 133 #[.agg #[.int .i64 R,.int .i64 C,.int .i64 H,.int .i64 B,.int .i64 P]] w fun e w'=>e=.returned (.bool (okVc R C H B P))∧Below w.heap.size w w':=by
 have k0:=zL w (.cells #[.int .i64 R,.int .i64 C,.int .i64 H,.int .i64 B,.int .i64 P] 89);have q0:=zv w (.cells #[.int .i64 R,.int .i64 C,.int .i64 H,.int .i64 B,.int .i64 P] 89);have he:∀W,(binOp .eql 89 (.agg #[.int .i64 R,.int .i64 C,.int .i64 H,.int .i64 B,.int .i64 P]) (.agg #[.int .i64 (cl R 1 99),.int .i64 (cl C 0 100000),.int .i64 (cl H 0 10),.int .i64 (cl B 1 99),.int .i64 (cl P 0 7)])).run Try.prog W=.ok (.bool (okVc R C H B P)) W:=fun W=>by rw [zcF,zeK]
 have hgd:Try.prog.eqGuardType Try.prog.depth 89=false:=by kernel_rfl
 generalize okVc R C H B P=Q at *;go_enter Try.func133,Try.ntmps133;go_wp2_with fail
 generalize (w.alloc (.cells #[.int .i64 R,.int .i64 C,.int .i64 H,.int .i64 B,.int .i64 P] 89))=wb at *;obtain ⟨⟨x0,x1,x2,x3,x4⟩,-⟩:=zt k0;have K0:=hide k0;clear k0
 go_region_held3 (fun W=>W.cell? ⟨w.heap.size,0,none⟩=some (.int .i64 R)∧W.cell? ⟨w.heap.size,1,none⟩=some (.int .i64 C)∧W.cell? ⟨w.heap.size,2,none⟩=some (.int .i64 H)∧W.cell? ⟨w.heap.size,3,none⟩=some (.int .i64 B)∧W.cell? ⟨w.heap.size,4,none⟩=some (.int .i64 P)) (first | assumption | exact (zt k1).1 | go_keep) (first
  | (go_at_call 134; refine (zdz R C H B P _).mono ?_; rintro e w1 ⟨rfl,hb1⟩; have k1:=za K0.out (undrew hb1)))
 go_wp2;go_ret;exact ⟨rfl,zc q0 (undrew hb1)⟩

end Go.Proofs.Ytgmkhoakindpkaa
