/-
  Packed: PtBest PtRole BrList0 ValHelp L3Int OidMath MibFind MibBox OidSame VecNums.
-/
import Derived.Test.YtcpdkcdfnpcemabGreatPGKW
import Derived.Test.YtcpdkcdfnpcemabGreatPGK02
import Derived.Deep.CutRange
import Derived.Below
namespace Go.Proofs.YtcpdkcdfnpcemabGreat
set_option maxRecDepth 100000
set_option maxHeartbeats 16000000
open Go.RowKit

theorem zce {w:World} {g:Nat} {c0 c1 c2 c3 c4:Value} {T:TypeId} (h:w.heap[g]? = some (.cells #[c0,c1,c2,c3,c4] T)) (u0 u1 u2 u3 u4:Value):(((((w.setCell ⟨g,0,none⟩ u0).setCell ⟨g,1,none⟩ u1).setCell ⟨g,2,none⟩ u2).setCell ⟨g,3,none⟩ u3).setCell ⟨g,4,none⟩ u4).heap[g]? = some (.cells #[u0,u1,u2,u3,u4] T) :=
 zr (j:=4) (zr (j:=3) (zr (j:=2) (zr (j:=1) (zr (j:=0) h u0) u1) u2) u3) u4

theorem zaN {w:World} {i g:Nat} {o:Obj} (h:w.heap[i]? = some o) (hne:i≠g) (u0 u1 u2 u3 u4:Value):(((((w.setCell ⟨g,0,none⟩ u0).setCell ⟨g,1,none⟩ u1).setCell ⟨g,2,none⟩ u2).setCell ⟨g,3,none⟩ u3).setCell ⟨g,4,none⟩ u4).heap[i]? = some o :=
 zaz (zaz (zaz (zaz (zaz h hne) hne) hne) hne) hne

structure BvSt (w W:World) (v f:VD):Prop where
 res:W.heap[w.heap.size]? = some (.cells #[.int .i64 0,.int .i64 0,.int .i64 0,.int .i64 0,.int .i64 0] 118)
 best:W.heap[w.heap.size+1]? = some (.cells #[.int .i64 v.r,.int .i64 v.c,.int .i64 v.h,.int .i64 v.b,.int .i64 v.p] 118)
 frm:W.heap[w.heap.size+1+1]? = some (.cells #[.int .i64 f.r,.int .i64 f.c,.int .i64 f.h,.int .i64 f.b,.int .i64 f.p] 118)
 below:Below w.heap.size w W

theorem BvSt.later {w W W':World} {v f:VD} (h:BvSt w W v f) (hb:Below W.heap.size W W'):BvSt w W' v f :=
 ⟨zd h.res hb,zd h.best hb,zd h.frm hb,ze h.below hb⟩

theorem BvSt.setBest {w W:World} {v f:VD} (h:BvSt w W v f) (u:VD):BvSt w (((((W.setCell ⟨w.heap.size+1,0,none⟩ (.int .i64 u.r)).setCell ⟨w.heap.size+1,1,none⟩ (.int .i64 u.c)).setCell ⟨w.heap.size+1,2,none⟩ (.int .i64 u.h)).setCell ⟨w.heap.size+1,3,none⟩ (.int .i64 u.b)).setCell ⟨w.heap.size+1,4,none⟩ (.int .i64 u.p)) u f :=
 ⟨zaN h.res (by omega) _ _ _ _ _,zce h.best _ _ _ _ _,zaN h.frm (by omega) _ _ _ _ _,zC h.below (by omega) _ _ _ _ _⟩

theorem BvSt.setFrom {w W:World} {v f:VD} (h:BvSt w W v f) (u:VD):BvSt w (((((W.setCell ⟨w.heap.size+1+1,0,none⟩ (.int .i64 u.r)).setCell ⟨w.heap.size+1+1,1,none⟩ (.int .i64 u.c)).setCell ⟨w.heap.size+1+1,2,none⟩ (.int .i64 u.h)).setCell ⟨w.heap.size+1+1,3,none⟩ (.int .i64 u.b)).setCell ⟨w.heap.size+1+1,4,none⟩ (.int .i64 u.p)) v u :=
 ⟨zaN h.res (by omega) _ _ _ _ _,zaN h.best (by omega) _ _ _ _ _,zce h.frm _ _ _ _ _,zC h.below (by omega) _ _ _ _ _⟩

theorem zaP (id:Int) (a:Option Addr) (n c:Nat) (l:List PT) (w:World) (h:GRow ptF w a n c l) :
  Calls Tryz.prog 164 #[.int .i64 id,.slice a n c] w fun e w'=>e=.returned (.tuple #[.agg #[.int .i64 (bestV id (zt id l)).r,.int .i64 (bestV id (zt id l)).c,.int .i64 (bestV id (zt id l)).h,.int .i64 (bestV id (zt id l)).b,.int .i64 (bestV id (zt id l)).p],.int .i64 (bestP (zt id l))])∧Below w.heap.size w w':=by
 have hle:=h.le;have htop:=h.top;unfold maxLen at htop;have hsz:=hide h.size;go_enter Tryz.func164,Tryz.ntmps164;go_wp2_with fail
 generalize hw3:((w.alloc (Obj.cells #[.int .i64 0,.int .i64 0,.int .i64 0,.int .i64 0,.int .i64 0] 118)).alloc (Obj.cells #[.int .i64 id,.int .i64 0,.int .i64 0,.int .i64 id,.int .i64 0] 118)).alloc (Obj.cells #[.int .i64 0,.int .i64 0,.int .i64 0,.int .i64 0,.int .i64 0] 118)=w3;have st3:BvSt w w3 (bestV id none) (fromV none):=by
  subst hw3;obtain ⟨k0,k1,k2⟩:=zax (Below.refl _ (((w.alloc (Obj.cells #[.int .i64 0,.int .i64 0,.int .i64 0,.int .i64 0,.int .i64 0] 118)).alloc (Obj.cells #[.int .i64 id,.int .i64 0,.int .i64 0,.int .i64 id,.int .i64 0] 118)).alloc (Obj.cells #[.int .i64 0,.int .i64 0,.int .i64 0,.int .i64 0,.int .i64 0] 118)));exact ⟨k0,k1,k2,z6 _ _ _ _⟩
 clear hw3
 go_loopw [8,9] (fun p i wr=>∃(k:Nat) (s:Option (VD × Nat)),k≤n∧i=.int .i64 k∧p=.int .i64 (bestP s)∧zaB id l k=s∧BvSt w wr (bestV id s) (fromV s)) (fun _ i _=>n - (intOf i).toNat)
 case atStart=>exact ⟨0,none,Nat.zero_le _,rfl,rfl,rfl,st3⟩
 case round =>
  obtain ⟨k,s,hk,rfl,rfl,hs,st⟩:=hrel;obtain ⟨bv,hbv⟩:∃y,y=bestV id s:=⟨_,rfl⟩;obtain ⟨fv,hfv⟩:∃y,y=fromV s:=⟨_,rfl⟩;have BACK:Hid (∀W,BvSt w W bv fv→BvSt w W (bestV id s) (fromV s)):=hide (by subst hbv hfv; exact fun W h=>h);rw [← hbv,← hfv] at st;have HBV:=hide hbv;have HFV:=hide hfv;clear hbv hfv;by_cases hlt:k < n
  ·obtain ⟨x,b,off,hx,rfl,c0,c1,c2,c3,c4,c5,c6,c7⟩:=pt_at (h.below st.below) k hlt;have hnx:=zcj (id:=id) hx;rw [hs] at hnx;have i1:(0:Int)≤(k:Int):=by omega
   have i2:(k:Int) < (n:Int):=by omega
   have NX:=hide hnx;clear hs hnx hx;cases hu:x.up
   ·rw [hu] at c0;have HE:=hide (NX.out.trans (zav (by unfold offers; rw [hu]; rfl)));clear hu c1 c2 c3 c4 c5 c6 c7;go_wp2
    go_roundw
    case rel=>exact ⟨k+1,s,by omega,by go_num,rfl,HE.out,BACK.out _ st⟩
    case measure=>simp [intOf]; omega
   cases hh:x.has
   ·rw [hu] at c0;rw [hh] at c2;have HE:=hide (NX.out.trans (zav (by unfold offers; rw [hu,hh]; rfl)));clear hu hh c1 c3 c4 c5 c6 c7;go_wp2
    go_roundw
    case rel=>exact ⟨k+1,s,by omega,by go_num,rfl,HE.out,BACK.out _ st⟩
    case measure=>simp [intOf]; omega
   rw [hu] at c0;rw [hh] at c2;have HUH:Hid (x.up=true∧x.has=true):=hide ⟨hu,hh⟩;have HSS:Hid (∀W',Below wr.heap.size wr W'→zcc W' b (off+k*8+1) (.int .i64 x.k)∧zcc W' b (off+k*8+3) (.int .i64 x.v.r)∧zcc W' b (off+k*8+4) (.int .i64 x.v.c)∧zcc W' b (off+k*8+5) (.int .i64 x.v.h)∧zcc W' b (off+k*8+6) (.int .i64 x.v.b)∧zcc W' b (off+k*8+7) (.int .i64 x.v.p)):=hide (fun W' hb=>⟨(hb.cell (zj c1)).trans c1,(hb.cell (zj c3)).trans c3,(hb.cell (zj c4)).trans c4,(hb.cell (zj c5)).trans c5,(hb.cell (zj c6)).trans c6,(hb.cell (zj c7)).trans c7⟩);obtain ⟨q,hq⟩:∃q,zat x.v.r x.v.c x.v.h x.v.b x.v.p x.k=q:=⟨_,rfl⟩;obtain ⟨u,hu'⟩:∃u,u=(if q=true then stepV x.v x.k else x.v):=⟨_,rfl⟩;have HST:=hide hq;have HQ:Hid ((if q=true then Value.agg #[.int .i64 x.v.r,.int .i64 (x.v.c+x.k),.int .i64 (x.v.h+1),.int .i64 x.v.b,.int .i64 x.v.p] else Value.agg #[.int .i64 x.v.r,.int .i64 x.v.c,.int .i64 x.v.h,.int .i64 x.v.b,.int .i64 x.v.p])=.agg #[.int .i64 u.r,.int .i64 u.c,.int .i64 u.h,.int .i64 u.b,.int .i64 u.p]):=hide (by subst hu'; cases q <;> rfl);have HU:=hide hu';have ST:=hide st;clear hq hu' hu hh c1 c3 c4 c5 c6 c7;(go_upto_region 8 with fail);clear c0 c2
   go_cut [10,11] from 16 to 75 (fun s10 s11 wx=>∃g:Nat,s10=.pointer (some ⟨g,0,none⟩)∧s11=.bool q∧wr.heap.size≤g∧wx.heap[g]? = some (.cells #[.int .i64 u.r,.int .i64 u.c,.int .i64 u.h,.int .i64 u.b,.int .i64 u.p] 118)∧Below wr.heap.size wr wx)
   case first =>
    have vv:Below wr.heap.size wr wr.drew:=zR (Below.refl _ _);(go_wp2_with fail);refine wp_region_held_drew (S:=(fun W=>zcc W b (off+k*8+1) (.int .i64 x.k)∧zcc W b (off+k*8+3) (.int .i64 x.v.r)∧zcc W b (off+k*8+4) (.int .i64 x.v.c)∧zcc W b (off+k*8+5) (.int .i64 x.v.h)∧zcc W b (off+k*8+6) (.int .i64 x.v.b)∧zcc W b (off+k*8+7) (.int .i64 x.v.p))) (by kernel_rfl) (HSS.out _ vv) (fun hHeld => ?_)
    repeat' first
    |
     with_reducible refine kLa ?_
     first
     |
      refine kLf 0 ?_;refine kK 0 ?_
     |
      refine kLf 1 ?_;refine kK 1 ?_
     |
      refine kLf 2 ?_;refine kK 2 ?_
     |
      refine kLf 3 ?_;refine kK 3 ?_
     |
      refine kLf 4 ?_;refine kK 4 ?_
     |
      refine kLf 5 ?_;refine kK 5 ?_
     |
      refine kLf 6 ?_;refine kK 6 ?_
     |
      refine kLf 7 ?_;refine kK 7 ?_
     |
      refine kLf 8 ?_;refine kK 8 ?_
     |
      refine kLf 9 ?_;refine kK 9 ?_
     |
      refine kLf 11 ?_;refine kK 11 ?_
     |
      refine kLf 12 ?_;refine kK 12 ?_
     |
      refine kLf 13 ?_;refine kK 13 ?_
     |
      refine kLf 16 ?_;refine kK 16 ?_
     |
      refine kLp [10,14] ?_
     |
      refine kLp [14] ?_
     |
      refine kLp [15] ?_
     |
      refine kLp [10] ?_
     |
      refine wpAnyH_done (by kernel_rfl) ?_ _;clear hHeld;(go_wp2_with fail)
      go_meet
      exact ⟨_,rfl,rfl,gB,kB,vv⟩
    |
     exact AllReadyH.nil
    |
     refine kLc 10 (fun K hK => ?_) ?_;go_simp;refine (zcA x.v.r x.v.c x.v.h x.v.b x.v.p x.k _).mono ?_;rintro e wx ⟨rfl,hbx⟩;rw [HST.out,HQ.out];(try have kB:=zd kB hbx);have vv:=ze vv hbx;clear hbx;(go_wp2_with fail);refine kO hK (HSS.out _ vv) fun hHeld => ?_
     clear hK K
    |
     refine kLc 14 (fun K hK => ?_) ?_;go_simp
     first
     | refine zbo (K:=K _) (fun wx kB hbx => ?_)
     | refine za0 (K:=K _) (fun wx kB hbx => ?_)
     have gB:=vv.size;have vv:=ze vv hbx;clear hbx;refine kO hK (HSS.out _ vv) fun hHeld => ?_
     clear hK K
    |
     refine kLc 15 (fun K hK => ?_) ?_;obtain ⟨⟨b0,b1,b2,b3,b4⟩,f0,f1,f2,f3,f4⟩:=zm kB;go_simp;have vv:=zC vv gB (.int .i64 u.r) (.int .i64 u.c) (.int .i64 u.h) (.int .i64 u.b) (.int .i64 u.p);have kB:=zce kB (.int .i64 u.r) (.int .i64 u.c) (.int .i64 u.h) (.int .i64 u.b) (.int .i64 u.p);clear b0 b1 b2 b3 b4 f0 f1 f2 f3 f4;refine kO hK (HSS.out _ vv) fun hHeld => ?_
     clear hK K
   case rest =>
    obtain ⟨g,rfl,rfl,hg,kX,hb⟩:=hcut;obtain ⟨wS,hwS⟩:∃x,x=wc:=⟨_,rfl⟩;subst hwS;have st:=ST.out.later hb;have hz:=ST.out.frm;have hlt2:=(Array.getElem?_eq_some_iff.1 hz).1;have ne1:¬g=w.heap.size+1+1:=by omega
    have ne2:¬w.heap.size+1+1=g:=by omega
    have ne3:¬g=w.heap.size+1:=by omega
    have ne4:¬w.heap.size+1=g:=by omega
    obtain ⟨⟨x0,x1,x2,x3,x4⟩,-⟩:=zm kX;have KX:=hide kX;clear hb hz hlt2 hg kX;cases q
    ·have HE:=hide (NX.out.trans (zav (by unfold offers zb4; rw [HST.out]; simp)));go_wp2
     go_roundw
     case rel=>exact ⟨k+1,s,by omega,by go_num,rfl,HE.out,BACK.out _ st⟩
     case measure=>simp [intOf]; omega
    have hur:u.r=x.v.r:=by rw [HU.out]; rfl
    cases hlr:decide (u.r < id)
    ·have HE:=hide (NX.out.trans (zav (by unfold offers; rw [← hur,hlr]; simp)));have hlr:¬u.r < id:=by simpa using hlr
     clear hur;go_wp2
     go_roundw
     case rel=>exact ⟨k+1,s,by omega,by go_num,rfl,HE.out,BACK.out _ st⟩
     case measure=>simp [intOf]; omega
    have ho:offers id x=true:=by unfold offers zb4; rw [HUH.out.1,HUH.out.2,HST.out,← hur,hlr]; rfl
    have hlr:u.r < id:=by simpa using hlr
    have huu:stepV x.v x.k=u:=HU.out.symm;have HO:=hide ho;have HUU:=hide huu;clear hur ho huu;clear ne3 ne4;cases s with
    | none =>
     have HE:Hid (zaB id l (k+1)=some (u,k)):=hide (by rw [NX.out]; unfold zaD; rw [if_pos HO.out,HUU.out]);rw [show bestP none = -1 from rfl];have SL:=hide st;obtain ⟨⟨z0,z1,z2,z3,z4⟩,v0,v1,v2,v3,v4⟩:=zm st.frm;clear st;(go_upto_region 11 with fail);generalize hwf:((((wS.setCell ⟨w.heap.size+1+1,0,none⟩ (.int .i64 u.r)).setCell ⟨w.heap.size+1+1,1,none⟩ (.int .i64 u.c)).setCell ⟨w.heap.size+1+1,2,none⟩ (.int .i64 u.h)).setCell ⟨w.heap.size+1+1,3,none⟩ (.int .i64 u.b)).setCell ⟨w.heap.size+1+1,4,none⟩ (.int .i64 u.p)=wf;have stf:BvSt w wf bv u:=by rw [← hwf]; exact SL.out.setFrom u
     have kf:wf.heap[g]? = some (.cells #[.int .i64 u.r,.int .i64 u.c,.int .i64 u.h,.int .i64 u.b,.int .i64 u.p] 118):=by rw [← hwf]; exact zaN KX.out (by omega) _ _ _ _ _
     clear hwf x0 x1 x2 x3 x4 v0 v1 v2 v3 v4 z0 z1 z2 z3 z4;obtain ⟨⟨x0,x1,x2,x3,x4⟩,-⟩:=zm kf;obtain ⟨⟨n0,n1,n2,n3,n4⟩,m0,m1,m2,m3,m4⟩:=zm stf.best;have HSET:Hid (BvSt w _ ⟨u.r,u.c,u.h,id,0⟩ u):=hide (stf.setBest ⟨u.r,u.c,u.h,id,0⟩);clear stf kf;go_wp2
     go_roundw
     case rel=>exact ⟨k+1,some (u,k),by omega,by go_num,rfl,HE.out,HSET.out⟩
     case measure=>simp [intOf]; omega
    | some fj =>
     obtain ⟨f,j⟩:=fj;rw [show bestP (some (f,j))=(j:Int) from rfl];have hneg:¬((j:Int) < 0):=by omega
     have hff:fv=f:=HFV.out;subst hff;obtain ⟨⟨z0,z1,z2,z3,z4⟩,-⟩:=zm st.frm;cases hl:lessV u fv
     ·have HE:Hid (zaB id l (k+1)=some (fv,j)):=hide (by rw [NX.out]; unfold zaD; rw [if_pos HO.out,HUU.out]; simp only; rw [if_neg (by rw [hl]; decide)]);have HL:Hid (zag u.r u.c u.b u.p fv.r fv.c fv.b fv.p=false):=hide hl;clear hl;(go_wp2_with fail);refine (zas u.r u.c u.h u.b u.p fv.r fv.c fv.h fv.b fv.p _).mono ?_;rintro e wl ⟨rfl,hbl⟩;rw [HL.out];have SL:=hide (st.later hbl);clear hbl st z0 z1 z2 z3 z4 x0 x1 x2 x3 x4;go_wp2
      go_roundw
      case rel=>exact ⟨k+1,some (fv,j),by omega,by go_num,rfl,HE.out,BACK.out _ SL.out⟩
      case measure=>simp [intOf]; omega
     ·have HE:Hid (zaB id l (k+1)=some (u,k)):=hide (by rw [NX.out]; unfold zaD; rw [if_pos HO.out,HUU.out]; simp only; rw [if_pos hl]);have HL:Hid (zag u.r u.c u.b u.p fv.r fv.c fv.b fv.p=true):=hide hl;clear hl;(go_wp2_with fail);refine (zas u.r u.c u.h u.b u.p fv.r fv.c fv.h fv.b fv.p _).mono ?_;rintro e wl ⟨rfl,hbl⟩;rw [HL.out];have SL:=hide (st.later hbl);have KX:=hide (zd KX.out hbl);clear hbl st z0 z1 z2 z3 z4 x0 x1 x2 x3 x4;obtain ⟨⟨x0,x1,x2,x3,x4⟩,-⟩:=zm KX.out;obtain ⟨⟨z0,z1,z2,z3,z4⟩,v0,v1,v2,v3,v4⟩:=zm SL.out.frm;(go_upto_region 11 with fail);generalize hwf:((((wl.setCell ⟨w.heap.size+1+1,0,none⟩ (.int .i64 u.r)).setCell ⟨w.heap.size+1+1,1,none⟩ (.int .i64 u.c)).setCell ⟨w.heap.size+1+1,2,none⟩ (.int .i64 u.h)).setCell ⟨w.heap.size+1+1,3,none⟩ (.int .i64 u.b)).setCell ⟨w.heap.size+1+1,4,none⟩ (.int .i64 u.p)=wf;have stf:BvSt w wf bv u:=by rw [← hwf]; exact SL.out.setFrom u
      have kf:wf.heap[g]? = some (.cells #[.int .i64 u.r,.int .i64 u.c,.int .i64 u.h,.int .i64 u.b,.int .i64 u.p] 118):=by rw [← hwf]; exact zaN KX.out (by omega) _ _ _ _ _
      clear hwf x0 x1 x2 x3 x4 v0 v1 v2 v3 v4 z0 z1 z2 z3 z4;obtain ⟨⟨x0,x1,x2,x3,x4⟩,-⟩:=zm kf;obtain ⟨⟨n0,n1,n2,n3,n4⟩,m0,m1,m2,m3,m4⟩:=zm stf.best;have HSET:Hid (BvSt w _ ⟨u.r,u.c,u.h,id,0⟩ u):=hide (stf.setBest ⟨u.r,u.c,u.h,id,0⟩);clear stf kf;go_wp2
      go_roundw
      case rel=>exact ⟨k+1,some (u,k),by omega,by go_num,rfl,HE.out,HSET.out⟩
      case measure=>simp [intOf]; omega
  ·have hkn:k=n:=by omega
   subst hkn;have HB:Hid (zt id l=s):=hide (by unfold zt; rw [hsz.out]; exact hs);obtain ⟨⟨x0,x1,x2,x3,x4⟩,y0,y1,y2,y3,y4⟩:=zm st.best;obtain ⟨⟨r0,r1,r2,r3,r4⟩,z0,z1,z2,z3,z4⟩:=zm st.res;have ne:¬w.heap.size=w.heap.size+1:=by omega
   have hb:=zC st.below (Nat.le_refl w.heap.size) (.int .i64 bv.r) (.int .i64 bv.c) (.int .i64 bv.h) (.int .i64 bv.b) (.int .i64 bv.p);clear hs st;go_wp2;exact bodyPost_ret (v:=.tuple #[.agg #[.int .i64 bv.r,.int .i64 bv.c,.int .i64 bv.h,.int .i64 bv.b,.int .i64 bv.p],.int .i64 (bestP s)]) (by simp [results,Tryz.results164,go_sem, *]) rfl ⟨(by rw [HB.out,← HBV.out]),hb⟩

theorem zbu (id:Int) (a:Option Addr) (n c:Nat) (l:List PT) (port:Int) (w:World) (h:GRow ptF w a n c l) :
  Calls Tryz.prog 166 #[.int .i64 id,.slice a n c,.int .i64 port] w fun e w'=>e=.returned (.agg #[.int .i64 (sayV id l port).r,.int .i64 (sayV id l port).c,.int .i64 (sayV id l port).h,.int .i64 (sayV id l port).b,.int .i64 (sayV id l port).p])∧Below w.heap.size w w':=by
 generalize hw1:w.alloc (Obj.cells #[.int .i64 0,.int .i64 0,.int .i64 0,.int .i64 0,.int .i64 0] 118)=w1;have q1:=zb hw1;have k1:=zk hw1;have hsb:(sayV id l port)=⟨(bestV id (zt id l)).r,(bestV id (zt id l)).c,(bestV id (zt id l)).h,(bestV id (zt id l)).b,port⟩:=by
  unfold sayV;cases zt id l <;> rfl
 rw [hsb];clear hsb;go_enter Tryz.func166,Tryz.ntmps166;go_wp2_with fail
 refine (zaP id a n c l _ (h.below q1)).mono ?_;rintro e w2 ⟨rfl,hb2⟩;generalize hv:bestV id (zt id l)=v;have HV:=hide hv;clear hv;generalize hw3:w2.alloc (Obj.cells #[.int .i64 v.r,.int .i64 v.c,.int .i64 v.h,.int .i64 v.b,.int .i64 v.p] 118)=w3;have hb3:=zb hw3;have k3:=zk hw3;have k1:=zd (zd k1 hb2) hb3;have lt1:=(Array.getElem?_eq_some_iff.1 (zd (by rw [← hw1]; exact zz _ _:w1.heap[w.heap.size]? = some (.cells #[.int .i64 0,.int .i64 0,.int .i64 0,.int .i64 0,.int .i64 0] 118)) hb2)).1;have ne1:¬w2.heap.size=w.heap.size:=by omega
 have ne2:¬w.heap.size=w2.heap.size:=by omega
 have HB:=hide (zC (zl (ze (ze q1 hb2) hb3) (g:=w2.heap.size) (by omega) 4 (.int .i64 port)) (Nat.le_refl w.heap.size) (.int .i64 v.r) (.int .i64 v.c) (.int .i64 v.h) (.int .i64 v.b) (.int .i64 port));obtain ⟨⟨x0,x1,x2,x3,x4⟩,y0,y1,y2,y3,y4⟩:=zm k3;obtain ⟨⟨r0,r1,r2,r3,r4⟩,z0,z1,z2,z3,z4⟩:=zm k1;clear hb2 hb3 k1 k3 q1 lt1;go_wp2;exact bodyPost_ret (v:=.agg #[.int .i64 v.r,.int .i64 v.c,.int .i64 v.h,.int .i64 v.b,.int .i64 port]) (by simp [results,Tryz.results166,go_sem, *]) rfl ⟨(by rw [HV.out]),HB.out⟩

theorem zdP (id:Int) (a:Option Addr) (n c:Nat) (l:List PT) (port:Int) (w:World) (h:GRow ptF w a n c l) :
  Calls Tryz.prog 123 #[.int .i64 id,.slice a n c,.int .i64 port] w fun e w'=>e=.returned (.int .i64 (z9 id l port))∧Below w.heap.size w w':=by
 have hle:=h.le;have htop:=h.top;unfold maxLen at htop;have hsz:=hide h.size;cases hin:(decide (0≤port) && decide (port≤(n:Int) - 1))
 ·have HIN:=hide hin;have HR:Hid (z9 id l port=4):=hide (by unfold z9; rw [hsz.out,hin]; rfl);clear hin;go_enter Tryz.func123,Tryz.ntmps123;(go_wp2_with fail);refine (zf port 0 ((n:Int) - 1) _).mono ?_;rintro e w1 ⟨rfl,ew⟩;obtain rfl:=ew.symm;rw [HIN.out];go_wp2;go_ret;exact ⟨(by rw [HR.out]; rfl),Below.refl _ _⟩
 obtain ⟨k,rfl⟩:∃k:Nat,port=(k:Int):=⟨port.toNat,by simp at hin; omega⟩;have hlt:k < n:=by simp at hin; omega
 have HIN:=hide hin;have i1:(0:Int)≤(k:Int):=by omega
 have i2:(k:Int) < (n:Int):=by omega
 obtain ⟨x,b,off,hx,rfl,c0,c1,c2,c3,c4,c5,c6,c7⟩:=pt_at h k hlt;have hro:z9 id l (k:Int)=zbO id l k x:=by
  unfold z9;rw [hsz.out,hin]
  simp [hx]
 have HRO:=hide hro;clear hin hro;cases hu:x.up
 ·rw [hu] at c0;have HR:Hid (z9 id l (k:Int)=4):=hide (by rw [HRO.out]; unfold zbO; rw [if_pos hu]);clear hu c1 c2 c3 c4 c5 c6 c7 hx;go_enter Tryz.func123,Tryz.ntmps123;(go_wp2_with fail);refine (zf (k:Int) 0 ((n:Int) - 1) _).mono ?_;rintro e w1 ⟨rfl,ew⟩;obtain rfl:=ew.symm;rw [HIN.out];go_wp2;go_ret;exact ⟨(by rw [HR.out]; rfl),Below.refl _ _⟩
 rw [hu] at c0;have HU:=hide hu;clear hu;by_cases hp:bestP (zt id l)=(k:Int)
 ·have HR:Hid (z9 id l (k:Int)=1):=hide (by rw [HRO.out]; unfold zbO; rw [if_neg (by rw [HU.out]; decide),if_pos hp]);have HP:=hide hp;clear c1 c2 c3 c4 c5 c6 c7 hx hp;go_enter Tryz.func123,Tryz.ntmps123;(go_wp2_with fail);refine (zf (k:Int) 0 ((n:Int) - 1) _).mono ?_;rintro e w1 ⟨rfl,ew⟩;obtain rfl:=ew.symm;rw [HIN.out];(go_wp2_with fail);refine (zaP id (some ⟨b,off,none⟩) n c l _ h).mono ?_;rintro e w2 ⟨rfl,hb2⟩;rw [HP.out];have HB:=hide (ze hb2 (zg _ (Obj.cells #[.int .i64 (bestV id (zt id l)).r,.int .i64 (bestV id (zt id l)).c,.int .i64 (bestV id (zt id l)).h,.int .i64 (bestV id (zt id l)).b,.int .i64 (bestV id (zt id l)).p] 118)));clear hb2 c0;go_wp2;go_ret;exact ⟨(by rw [HR.out]; rfl),HB.out⟩
 go_enter Tryz.func123,Tryz.ntmps123;go_wp2_with fail
 refine (zf (k:Int) 0 ((n:Int) - 1) _).mono ?_;rintro e w1 ⟨rfl,ew⟩;obtain rfl:=ew.symm;rw [HIN.out];go_wp2_with fail
 refine (zaP id (some ⟨b,off,none⟩) n c l _ h).mono ?_;rintro e w2 ⟨rfl,hb2⟩;generalize hw3:w2.alloc (Obj.cells #[.int .i64 (bestV id (zt id l)).r,.int .i64 (bestV id (zt id l)).c,.int .i64 (bestV id (zt id l)).h,.int .i64 (bestV id (zt id l)).b,.int .i64 (bestV id (zt id l)).p] 118)=w3;have HB:Hid (Below w.heap.size w w3):=hide (ze hb2 (by rw [← hw3]; exact zg _ _));clear hb2 c0 c1 c2 c3 c4 c5 c6 c7;obtain ⟨x',b',off',hx',ha',c0,c1,c2,c3,c4,c5,c6,c7⟩:=pt_at (h.below HB.out) k hlt;rw [hx] at hx';cases hx';cases ha';generalize hP:bestP (zt id l)=P at *;have hPne:(P == (k:Int))=false:=by simp [hp]
 have HX:=hide hx;have vv:Below w3.heap.size w3 w3.drew:=zR (Below.refl _ _);have HR0:Hid (z9 id l (k:Int)=(if (!x.has || lessV (sayV id l (k:Int)) x.v)=true then 2 else 3)):=hide (by rw [HRO.out]; unfold zbO; rw [if_neg (by rw [HU.out]; decide),hP,if_neg hp]);clear c0 c1 hx hP;cases hh:x.has
 ·rw [hh] at c2;have HR:Hid (z9 id l (k:Int)=2):=hide (by rw [HR0.out,hh]; rfl);have HSS:Hid (∀W',Below w3.heap.size w3 W'→zcc W' b (off+k*8+2) (.bool false)∧zcc W' b (off+k*8+3) (.int .i64 x.v.r)∧zcc W' b (off+k*8+4) (.int .i64 x.v.c)∧zcc W' b (off+k*8+5) (.int .i64 x.v.h)∧zcc W' b (off+k*8+6) (.int .i64 x.v.b)∧zcc W' b (off+k*8+7) (.int .i64 x.v.p)):=hide (fun W' hb=>⟨(hb.cell (zj c2)).trans c2,(hb.cell (zj c3)).trans c3,(hb.cell (zj c4)).trans c4,(hb.cell (zj c5)).trans c5,(hb.cell (zj c6)).trans c6,(hb.cell (zj c7)).trans c7⟩);clear c2 c3 c4 c5 c6 c7 hh;(go_wp2_with fail);refine wp_region_held_drew (S:=(fun W=>zcc W b (off+k*8+2) (.bool false)∧zcc W b (off+k*8+3) (.int .i64 x.v.r)∧zcc W b (off+k*8+4) (.int .i64 x.v.c)∧zcc W b (off+k*8+5) (.int .i64 x.v.h)∧zcc W b (off+k*8+6) (.int .i64 x.v.b)∧zcc W b (off+k*8+7) (.int .i64 x.v.p))) (by kernel_rfl) (HSS.out _ vv) (fun hHeld => ?_);refine kK 0 ?_;refine kK 1 ?_;refine kK 2 ?_;refine kK 3 ?_;refine kK 4 ?_;refine kK 5 ?_;refine kK 6 ?_;refine kN 7 ?_;refine kN 8 ?_;refine kN 9 ?_;refine kN 10 ?_;refine kN 11 ?_;refine kN 12 ?_;refine kN 13 ?_;refine kN 14 ?_;refine kN 15 ?_;refine kN 16 ?_;refine kK 17 ?_;refine kK 18 ?_;refine wpAnyH_done (by kernel_rfl) ?_ _;clear hHeld;go_wp2;go_ret;exact ⟨(by rw [HR.out]; rfl),ze HB.out vv⟩
 ·rw [hh] at c2;have HSS:Hid (∀W',Below w3.heap.size w3 W'→zcc W' b (off+k*8+2) (.bool true)∧zcc W' b (off+k*8+3) (.int .i64 x.v.r)∧zcc W' b (off+k*8+4) (.int .i64 x.v.c)∧zcc W' b (off+k*8+5) (.int .i64 x.v.h)∧zcc W' b (off+k*8+6) (.int .i64 x.v.b)∧zcc W' b (off+k*8+7) (.int .i64 x.v.p)):=hide (fun W' hb=>⟨(hb.cell (zj c2)).trans c2,(hb.cell (zj c3)).trans c3,(hb.cell (zj c4)).trans c4,(hb.cell (zj c5)).trans c5,(hb.cell (zj c6)).trans c6,(hb.cell (zj c7)).trans c7⟩);clear c2 c3 c4 c5 c6 c7;cases hl:lessV (sayV id l (k:Int)) x.v
  ·have HR:Hid (z9 id l (k:Int)=3):=hide (by rw [HR0.out,hh,hl]; rfl);have HL:Hid (zag (sayV id l (k:Int)).r (sayV id l (k:Int)).c (sayV id l (k:Int)).b (sayV id l (k:Int)).p x.v.r x.v.c x.v.b x.v.p=false):=hide hl;clear hh hl;(go_wp2_with fail);refine wp_region_held_drew (S:=(fun W=>zcc W b (off+k*8+2) (.bool true)∧zcc W b (off+k*8+3) (.int .i64 x.v.r)∧zcc W b (off+k*8+4) (.int .i64 x.v.c)∧zcc W b (off+k*8+5) (.int .i64 x.v.h)∧zcc W b (off+k*8+6) (.int .i64 x.v.b)∧zcc W b (off+k*8+7) (.int .i64 x.v.p))) (by kernel_rfl) (HSS.out _ vv) (fun hHeld => ?_);refine kK 0 ?_;refine kK 1 ?_;refine kK 2 ?_;refine kK 3 ?_;refine kK 4 ?_;refine kK 5 ?_;refine kK 6 ?_;refine kK 7 ?_;refine kK 8 ?_;refine kK 9 ?_;refine kK 11 ?_;refine kK 12 ?_;refine kK 13 ?_;refine kK 14 ?_;refine kK 15 ?_;refine kR 10 fun K hK => ?_
   go_simp;refine (zbu id (some ⟨b,off,none⟩) n c l (k:Int) _ (h.below (ze HB.out vv))).mono ?_;rintro e wx ⟨rfl,hbx⟩;have vv:=ze vv hbx;clear hbx;(go_wp2_with fail);refine kO hK (HSS.out _ vv) fun hHeld => ?_
   clear hK K;refine kR 16 fun K hK => ?_
   go_simp;refine (zas (sayV id l (k:Int)).r (sayV id l (k:Int)).c (sayV id l (k:Int)).h (sayV id l (k:Int)).b (sayV id l (k:Int)).p x.v.r x.v.c x.v.h x.v.b x.v.p _).mono ?_;rintro e wx ⟨rfl,hbx⟩;rw [HL.out];have vv:=ze vv hbx;clear hbx;(go_wp2_with fail);refine kO hK (HSS.out _ vv) fun hHeld => ?_
   clear hK K;refine kK 17 ?_;refine kK 18 ?_;refine wpAnyH_done (by kernel_rfl) ?_ _;clear hHeld;go_wp2;go_ret;exact ⟨(by rw [HR.out]; rfl),ze HB.out vv⟩
  ·have HR:Hid (z9 id l (k:Int)=2):=hide (by rw [HR0.out,hh,hl]; rfl);have HL:Hid (zag (sayV id l (k:Int)).r (sayV id l (k:Int)).c (sayV id l (k:Int)).b (sayV id l (k:Int)).p x.v.r x.v.c x.v.b x.v.p=true):=hide hl;clear hh hl;(go_wp2_with fail);refine wp_region_held_drew (S:=(fun W=>zcc W b (off+k*8+2) (.bool true)∧zcc W b (off+k*8+3) (.int .i64 x.v.r)∧zcc W b (off+k*8+4) (.int .i64 x.v.c)∧zcc W b (off+k*8+5) (.int .i64 x.v.h)∧zcc W b (off+k*8+6) (.int .i64 x.v.b)∧zcc W b (off+k*8+7) (.int .i64 x.v.p))) (by kernel_rfl) (HSS.out _ vv) (fun hHeld => ?_);refine kK 0 ?_;refine kK 1 ?_;refine kK 2 ?_;refine kK 3 ?_;refine kK 4 ?_;refine kK 5 ?_;refine kK 6 ?_;refine kK 7 ?_;refine kK 8 ?_;refine kK 9 ?_;refine kK 11 ?_;refine kK 12 ?_;refine kK 13 ?_;refine kK 14 ?_;refine kK 15 ?_;refine kR 10 fun K hK => ?_
   go_simp;refine (zbu id (some ⟨b,off,none⟩) n c l (k:Int) _ (h.below (ze HB.out vv))).mono ?_;rintro e wx ⟨rfl,hbx⟩;have vv:=ze vv hbx;clear hbx;(go_wp2_with fail);refine kO hK (HSS.out _ vv) fun hHeld => ?_
   clear hK K;refine kR 16 fun K hK => ?_
   go_simp;refine (zas (sayV id l (k:Int)).r (sayV id l (k:Int)).c (sayV id l (k:Int)).h (sayV id l (k:Int)).b (sayV id l (k:Int)).p x.v.r x.v.c x.v.h x.v.b x.v.p _).mono ?_;rintro e wx ⟨rfl,hbx⟩;rw [HL.out];have vv:=ze vv hbx;clear hbx;(go_wp2_with fail);refine kO hK (HSS.out _ vv) fun hHeld => ?_
   clear hK K;refine kK 17 ?_;refine kK 18 ?_;refine wpAnyH_done (by kernel_rfl) ?_ _;clear hHeld;go_wp2;go_ret;exact ⟨(by rw [HR.out]; rfl),ze HB.out vv⟩

theorem zab {α:Type} (F:Flat α) {w:World} {g base:Nat} {l:List α} {cs:Array Value} {T:TypeId} (h:w.heap[g]? = some (.cells cs T)) (hc:cs.toList=F.all l) (hb:base≤g) (hm:l.length≤1000):w.ownsRow base T F.k (.slice (some ⟨g,0,none⟩) l.length l.length) l.length (F.all l):=by
 have hl:cs.toList.length=l.length*F.k:=by rw [hc,F.all_length]
 refine ⟨by rw [F.all_length],.inr ⟨g,l.length,cs,rfl,hb,h,Nat.le_refl _,by unfold maxLen; omega, ?_, ?_⟩⟩
 ·simpa using hl
 ·rw [← hc,← hl,List.take_length]

def sameV (K N:Int) (S:ByteArray) (z:List Int) (K' N':Int) (S':ByteArray) (z':List Int):Bool:=(K == K') && ((N == N') && ((S.toList == S'.toList) && decide (z=z')))

theorem zeX (K N:Int) (S:ByteArray) (z:List Int):sameV K N S z K N S z=true:=by simp [sameV]

theorem zgg {K N:Int} {S:ByteArray} {z:List Int} {K' N':Int} {S':ByteArray} {z':List Int} (h:(K != K')=true):false=sameV K N S z K' N' S' z':=by
 simp at h; simp [sameV,h]
theorem zgh {K N:Int} {S:ByteArray} {z:List Int} {K' N':Int} {S':ByteArray} {z':List Int} (h:(N != N')=true):false=sameV K N S z K' N' S' z':=by
 simp at h; simp [sameV,h]
theorem zgj {K N:Int} {S:ByteArray} {z:List Int} {K' N':Int} {S':ByteArray} {z':List Int} (h:(!S.toList == S'.toList)=true):false=sameV K N S z K' N' S' z':=by
 simp at h; simp [sameV,h]
theorem zgi {K N:Int} {S:ByteArray} {z:List Int} {K' N':Int} {S':ByteArray} {z':List Int} (h:decide (z=z')=false):false=sameV K N S z K' N' S' z':=by
 simp at h; simp [sameV,h]
theorem zgk {K N:Int} {S:ByteArray} {z:List Int} {K' N':Int} {S':ByteArray} {z':List Int} (h1:(K != K')=false) (h2:(N != N')=false) (h3:(!S.toList == S'.toList)=false) (h4:decide (z=z')=true):true=sameV K N S z K' N' S' z':=by
 simp at h1 h2 h3 h4; simp [sameV,h1,h2,h3,h4]

theorem zfc (K N:Int) (S:ByteArray) (a1:Option Addr) (l1 c1:Nat) (z1:List Int) (K' N':Int) (S':ByteArray) (a2:Option Addr) (l2 c2:Nat) (z2:List Int) (w:World) (h1:IRow w a1 l1 c1 z1) (h2:IRow w a2 l2 c2 z2) :
  Calls Tryz.prog 12 #[.agg #[.int .i64 K,.int .i64 N,.string S,.slice a1 l1 c1],.agg #[.int .i64 K',.int .i64 N',.string S',.slice a2 l2 c2]] w fun e w'=>e=.returned (.bool (sameV K N S z1 K' N' S' z2))∧Below w.heap.size w w':=by
 generalize hP:sameV K N S z1 K' N' S' z2=P;have HP:=hide hP;clear hP;go_enter Tryz.func12,Tryz.ntmps12;go_wp2_with fail
 ·go_ret;exact ⟨zp ((zgg ‹_›).trans HP.out),zq _ _ _⟩
 ·go_ret;exact ⟨zp ((zgh ‹_›).trans HP.out),zq _ _ _⟩
 ·go_ret;exact ⟨zp ((zgj ‹_›).trans HP.out),zq _ _ _⟩
 ·have t1:=‹(K != K')=false›;have t2:=‹(N != N')=false›;have t3:=‹(!S.toList == S'.toList)=false›;cases hD:decide (z1=z2)
  ·refine (zd1 a1 l1 c1 z1 a2 l2 c2 z2 _ (h1.below (zq _ _ _)) (h2.below (zq _ _ _))).mono ?_;rintro e w1 ⟨rfl,n,rfl⟩;rw [hD];have HD:=hide hD;clear hD;go_wp2;go_ret;exact ⟨zp ((zgi HD.out).trans HP.out),zU (zq _ _ _) n⟩
  ·refine (zd1 a1 l1 c1 z1 a2 l2 c2 z2 _ (h1.below (zq _ _ _)) (h2.below (zq _ _ _))).mono ?_;rintro e w1 ⟨rfl,n,rfl⟩;rw [hD];have HD:=hide hD;clear hD;go_wp2;go_ret;exact ⟨zp ((zgk t1 t2 t3 HD.out).trans HP.out),zU (zq _ _ _) n⟩

theorem zbn (K N:Int) (S:ByteArray) (a1:Option Addr) (l1 c1:Nat) (a2:Option Addr) (l2 c2:Nat) (zs:List Int) (w:World) (h1:IRow w a1 l1 c1 zs) (h2:IRow w a2 l2 c2 zs) :
  Calls Tryz.prog 12 #[.agg #[.int .i64 K,.int .i64 N,.string S,.slice a1 l1 c1],.agg #[.int .i64 K,.int .i64 N,.string S,.slice a2 l2 c2]] w fun e w'=>e=.returned (.bool true)∧Below w.heap.size w w':=by
 refine (zfc K N S a1 l1 c1 zs K N S a2 l2 c2 zs w h1 h2).mono ?_;rintro e w' ⟨rfl,hb⟩;exact ⟨by rw [zeX],hb⟩

theorem zbK (K N:Int) (S:ByteArray) (base:Nat) (ao:Option Addr) (n cap:Nat) (zs:List Int) (k:Int) (w:World) (hown:w.ownsRow base 3 1 (.slice ao n cap) n (cI zs)) (hn:n≤16777216) (hk0:0≤k) (hk1:k≤1099511627776) :
  Calls Tryz.prog 17 #[.agg #[.int .i64 K,.int .i64 N,.string S,.slice ao n cap],.int .i64 k] w fun e w'=>e=.returned (.int .i64 (k+n)) ∧
   w'.ownsRow base 3 1 (.slice ao n cap) n (cI (zae k n))∧w.grownBy w' (Value.slice ao n cap).ownBlock:=by
 go_enter Tryz.func17,Tryz.ntmps17;go_wp2_with fail
 refine (zaO base ao n cap zs k _ (zY hown (zg _ _)) hn hk0 hk1).mono ?_;rintro e w1 ⟨rfl,ho,hg⟩;go_wp2;go_ret;exact ⟨rfl,ho,zcq (zg _ _) hg⟩

theorem zbA (K N:Int) (S:ByteArray) (ao:Option Addr) (n cap:Nat) (k:Int) (w:World) (h1:IRow w ao n cap (zae k n)) (hn:n≤16777216) (hk0:0≤k) (hk1:k≤1099511627776) :
  Calls Tryz.prog 18 #[.agg #[.int .i64 K,.int .i64 N,.string S,.slice ao n cap],.int .i64 k] w fun e w'=>e=.returned (.int .i64 (k+n))∧Below w.heap.size w w':=by
 go_enter Tryz.func18,Tryz.ntmps18;go_wp2_with fail
 refine (zdr ao n cap k _ (h1.below (zg _ _)) hn hk0 hk1).mono ?_;rintro e w1 ⟨rfl,rfl⟩;go_wp2;go_ret;exact ⟨rfl,zg _ _⟩

theorem zfj (n:Int) (w:World) :
  Calls Tryz.prog 122 #[.int .i64 n] w fun e w'=>e=.returned (.agg #[.int .i64 2,.int .i64 n,.string ⟨#[]⟩,.slice none 0 0])∧Below w.heap.size w w':=by
 go_enter Tryz.func122,Tryz.ntmps122;go_wp2;exact bodyPost_ret (v:=.agg #[.int .i64 2,.int .i64 n,.string ⟨#[]⟩,.slice none 0 0]) (by simp [results,Tryz.results122,go_sem]) rfl ⟨rfl,zg _ _⟩

def lessL:List Int→List Int→Bool
 | [],[]=>false
 | [],_::_=>true
 | _::_,[]=>false
 | x::a,y::b=>if x=y then lessL a b else decide (x < y)

theorem zea:∀(k:Nat) (a b:List Int),a.take k=b.take k→k < a.length→k < b.length→a.getD k 0≠b.getD k 0→lessL a b=decide (a.getD k 0 < b.getD k 0)
 | _,[],_,_,h,_,_=>by simp at h
 | _,_,[],_,_,h,_=>by simp at h
 | 0,x::a,y::b,_,_,_,h=>by simp at h; simp [lessL,h]
 | k+1,x::a,y::b,ht,h1,h2,h=>by
  simp at ht h1 h2 h
  simp only [lessL,ht.1,if_true];rw [zea k a b ht.2 h1 h2 (by simpa using h)]
  simp

theorem zbJ:∀(k:Nat) (a b:List Int),a.take k=b.take k→k≤a.length→k≤b.length→(k=a.length∨k=b.length)→lessL a b=decide (a.length < b.length)
 | 0,[],[],_,_,_,_=>rfl
 | 0,[],_::_,_,_,_,_=>by simp [lessL]
 | 0,_::_,[],_,_,_,_=>by simp [lessL]
 | 0,_::_,_::_,_,_,_,h=>by simp at h
 | k+1,[],_,_,h,_,_=>by simp at h
 | k+1,_::_,[],_,_,h,_=>by simp at h
 | k+1,x::a,y::b,ht,h1,h2,h=>by
  simp at ht h1 h2 h
  simp only [lessL,ht.1,if_true];rw [zbJ k a b ht.2 h1 h2 h]
  simp

def zbl (l:List BD) (o:List Int):BD:=(l.find? (fun d=>decide (d.o=o))).getD ⟨[],128,0,⟨#[]⟩,[]⟩
def za7 (l:List BD) (o:List Int):BD:=(l.find? (fun d=>lessL o d.o)).getD ⟨o,130,0,⟨#[]⟩,[]⟩

theorem zdp {α:Type} {p:α→Bool} {l:List α} (h:∀(i:Nat) x,i < l.length→l[i]? = some x→p x=false):l.find? p=none:=by
 rw [List.find?_eq_none];intro x hx;obtain ⟨i,hi⟩:=List.getElem?_of_mem hx
 have:=h i x (List.getElem?_eq_some_iff.1 hi).1 hi
 rw [this]
 decide

theorem zcn {α:Type} {p:α→Bool}:∀{l:List α} {k:Nat} {x:α},(∀(i:Nat) y,i < k→l[i]? = some y→p y=false)→l[k]? = some x→p x=true→l.find? p=some x
 | [],k,x,_,h,_=>by simp at h
 | y::l,0,x,_,h,hp=>by
  simp at h
  subst h;rw [List.find?_cons,hp]
 | y::l,k+1,x,hn,h,hp=>by
  have h0:=hn 0 y (Nat.succ_pos _) rfl;rw [List.find?_cons,h0];exact zcn (k:=k) (fun i z hi hz=>hn (i+1) z (Nat.succ_lt_succ hi) (by simpa using hz)) (by simpa using h) hp

theorem zex {l:List BD} {o:List Int} {k:Nat} {x:BD} (hn:∀(i:Nat) y,i < k→l[i]? = some y→decide (y.o=o)=false) (h:l[k]? = some x) (hp:decide (x.o=o)=true):zbl l o=x:=by
 unfold zbl;rw [zcn hn h hp]
 rfl
theorem zey {l:List BD} {o:List Int} (hn:∀(i:Nat) y,i < l.length→l[i]? = some y→decide (y.o=o)=false):zbl l o=⟨[],128,0,⟨#[]⟩,[]⟩:=by
 unfold zbl;rw [zdp hn]
 rfl
theorem zdD {l:List BD} {o:List Int} {k:Nat} {x:BD} (hn:∀(i:Nat) y,i < k→l[i]? = some y→lessL o y.o=false) (h:l[k]? = some x) (hp:lessL o x.o=true):za7 l o=x:=by
 unfold za7;rw [zcn hn h hp]
 rfl
theorem zdE {l:List BD} {o:List Int} (hn:∀(i:Nat) y,i < l.length→l[i]? = some y→lessL o y.o=false):za7 l o=⟨o,130,0,⟨#[]⟩,[]⟩:=by
 unfold za7;rw [zdp hn]
 rfl
theorem zbF {α:Type} {p:α→Bool} {l:List α} {k:Nat} {x:α} (hn:∀(i:Nat) y,i < k→l[i]? = some y→p y=false) (h:l[k]? = some x) (hp:p x=false):∀(i:Nat) y,i < k+1→l[i]? = some y→p y=false:=by
 intro i y hi hy;by_cases e:i=k
 ·subst e;rw [h] at hy;cases hy;exact hp
 ·exact hn i y (by omega) hy

theorem za2 (w:World) (g:Nat) (c0 c1 c2 c3 c4:Value):w.grownBy (((((w.setCell ⟨g,0,none⟩ c0).setCell ⟨g,1,none⟩ c1).setCell ⟨g,2,none⟩ c2).setCell ⟨g,3,none⟩ c3).setCell ⟨g,4,none⟩ c4) (some g) :=
 zv (zv (zv (zv (zi 0 _) (zi 1 _)) (zi 2 _)) (zi 3 _)) (zi 4 _)

theorem zd5 (w:World) (g:Nat) (c0 c1 c2 c3:Value):w.grownBy ((((w.setCell ⟨g,0,none⟩ c0).setCell ⟨g,1,none⟩ c1).setCell ⟨g,2,none⟩ c2).setCell ⟨g,3,none⟩ c3) (some g) :=
 zv (zv (zv (zi 0 _) (zi 1 _)) (zi 2 _)) (zi 3 _)

theorem zaA {w:World} {base k:Nat} {e:TypeId} {v:Value} {n:Nat} {xs:List Value} (h:w.ownsRow base e k v n xs) {pb:Nat} {cs:Array Value} {T:TypeId} (hp:w.heap[pb]? = some (.cells cs T)) (hne:T≠e):∀b,v.ownBlock=some b→b≠pb:=by
 intro b hv he;subst he;obtain ⟨-,⟨rfl,-⟩ | ⟨g,cap,cur,rfl,hg,hh,r⟩⟩:=h
 ·cases hv
 ·have e1:g=b:=by simpa [Value.ownBlock] using hv
  subst e1;rw [hp] at hh;cases hh;exact hne rfl

theorem zcd {w w':World} {base g:Nat} {cs:Array Value} {y:BI} (h:BOwn w base y) (hg:w.heap[g]? = some (.cells cs 51)) (hs:w.grownBy w' (some g)):BOwn w' base y:=by
 have hne:(51:Nat)≠3:=by decide
 have ho:Only [g] w w':=⟨hs.os,hs.tape,hs.output,hs.size,fun k hk hn=>hs.block k hk (fun e=>hn (by cases e; simp))⟩;refine h.only ho (fun b hb hc => ?_);have hbg:b=g:=by simpa using hc
 rcases List.mem_append.1 hb with hb | hb
 ·exact zaA h.o hg hne b (zP.2 hb) hbg
 ·exact zaA h.z hg hne b (zP.2 hb) hbg

theorem zdR (a1:Option Addr) (l1 c1:Nat) (z1:List Int) (a2:Option Addr) (l2 c2:Nat) (z2:List Int) (w:World) (h1:IRow w a1 l1 c1 z1) (h2:IRow w a2 l2 c2 z2) :
  Calls Tryz.prog 39 #[.slice a1 l1 c1,.slice a2 l2 c2] w fun e w'=>e=.returned (.bool (decide (z1=z2)))∧∃n,w'=w.drewN n:=by
 have m1:=h1.top; have m2:=h2.top; have s1:=h1.size; have s2:=h2.size; have e1:=h1.le; have e2:=h2.le
 unfold maxLen at m1 m2;by_cases hl:l1=l2
 ·subst hl;by_cases h0:l1=0
  ·subst h0;have hz:z1=z2:=by rw [List.eq_nil_of_length_eq_zero s1,List.eq_nil_of_length_eq_zero s2]
   go_enter Tryz.func39,Tryz.ntmps39;go_wp2
   go_loop [5] (fun i=>i=.int .i64 0) (fun _=>0)
   case atStart=>rfl
   case round =>
    subst hrel;go_wp2;go_ret;exact ⟨by simp,0,rfl⟩
  ·rcases h1.cell with h | ⟨b1,o1,rfl,g1⟩
   ·exact absurd h h0
   rcases h2.cell with h | ⟨b2,o2,rfl,g2⟩
   ·exact absurd h h0
   clear h1 h2;have G1:Hid (∀i,i < l1→w.cell? ⟨b1,o1+i,none⟩=some (.int .i64 (z1.getD i 0))):=g1;have G2:Hid (∀i,i < l1→w.cell? ⟨b2,o2+i,none⟩=some (.int .i64 (z2.getD i 0))):=g2;clear g1 g2;go_enter Tryz.func39,Tryz.ntmps39;go_wp2
   go_loopw [5] (fun i wr=>∃k:Nat,k≤l1∧i=.int .i64 k∧z1.take k=z2.take k∧∃n,wr=w.drewN n) (fun i _=>l1 - (intOf i).toNat)
   case atStart=>exact ⟨0,Nat.zero_le _,rfl,rfl,0,rfl⟩
   case round =>
    obtain ⟨k,hk,rfl,ht,n,rfl⟩:=hrel;have HT:Hid (z1.take k=z2.take k):=ht;clear ht;by_cases hlt:k < l1
    ·have c1:=G1.out k hlt;have c2:=G2.out k hlt;generalize hx:z1.getD k 0=x at c1;generalize hy:z2.getD k 0=y at c2;have HX:Hid (z1.getD k 0=x):=hx;have HY:Hid (z2.getD k 0=y):=hy;clear hx hy;by_cases hq:x=y
     ·subst hq;go_wp2
      go_quiet (fail)
      go_wp2
      go_roundw
      case rel=>exact ⟨k+1,by omega,by go_num,by rw [zG _ _ (by omega),zG _ _ (by omega),HT.out,HX.out,HY.out],_,rfl⟩
      case measure=>simp [intOf]; omega
     ·have hne:(x != y)=true:=by simp [hq]
      go_wp2
      go_quiet (fail)
      go_wp2;go_ret;exact ⟨zp (decide_eq_false (ne_at k (by rw [HX.out,HY.out]; exact hq))).symm,_,World.drewN_drewN _ _ _⟩
    ·go_wp2;go_ret;have hk':k=l1:=by omega
     exact ⟨zp (decide_eq_true (zbx (by omega) (by rw [s1,← hk']; exact HT.out))).symm,_,rfl⟩
 ·have hne:((l1:Int) != (l2:Int))=true:=by simp; omega
  have hz:¬z1=z2:=by intro e; rw [e] at s1; omega
  go_enter Tryz.func39,Tryz.ntmps39;go_wp2;go_ret;exact ⟨zp (decide_eq_false hz).symm,0,rfl⟩

theorem zfd (a1:Option Addr) (l1 c1:Nat) (z1:List Int) (a2:Option Addr) (l2 c2:Nat) (z2:List Int) (w:World) (h1:IRow w a1 l1 c1 z1) (h2:IRow w a2 l2 c2 z2) :
  Calls Tryz.prog 84 #[.slice a1 l1 c1,.slice a2 l2 c2] w fun e w'=>e=.returned (.bool (decide (z1=z2)))∧∃n,w'=w.drewN n:=by
 have m1:=h1.top; have m2:=h2.top; have s1:=h1.size; have s2:=h2.size; have e1:=h1.le; have e2:=h2.le
 unfold maxLen at m1 m2;by_cases hl:l1=l2
 ·subst hl;by_cases h0:l1=0
  ·subst h0;have hz:z1=z2:=by rw [List.eq_nil_of_length_eq_zero s1,List.eq_nil_of_length_eq_zero s2]
   go_enter Tryz.func84,Tryz.ntmps84;go_wp2
   go_loop [13] (fun i=>i=.int .i64 0) (fun _=>0)
   case atStart=>rfl
   case round =>
    subst hrel;go_wp2;go_ret;exact ⟨by simp,0,rfl⟩
  ·rcases h1.cell with h | ⟨b1,o1,rfl,g1⟩
   ·exact absurd h h0
   rcases h2.cell with h | ⟨b2,o2,rfl,g2⟩
   ·exact absurd h h0
   clear h1 h2;have G1:Hid (∀i,i < l1→w.cell? ⟨b1,o1+i,none⟩=some (.int .i64 (z1.getD i 0))):=g1;have G2:Hid (∀i,i < l1→w.cell? ⟨b2,o2+i,none⟩=some (.int .i64 (z2.getD i 0))):=g2;clear g1 g2;go_enter Tryz.func84,Tryz.ntmps84;go_wp2
   go_loopw [13] (fun i wr=>∃k:Nat,k≤l1∧i=.int .i64 k∧z1.take k=z2.take k∧∃n,wr=w.drewN n) (fun i _=>l1 - (intOf i).toNat)
   case atStart=>exact ⟨0,Nat.zero_le _,rfl,rfl,0,rfl⟩
   case round =>
    obtain ⟨k,hk,rfl,ht,n,rfl⟩:=hrel;have HT:Hid (z1.take k=z2.take k):=ht;clear ht;by_cases hlt:k < l1
    ·have c1:=G1.out k hlt;have c2:=G2.out k hlt;generalize hx:z1.getD k 0=x at c1;generalize hy:z2.getD k 0=y at c2;have HX:Hid (z1.getD k 0=x):=hx;have HY:Hid (z2.getD k 0=y):=hy;clear hx hy;by_cases hq:x=y
     ·subst hq;go_wp2
      go_quiet (fail)
      go_wp2
      go_roundw
      case rel=>exact ⟨k+1,by omega,by go_num,by rw [zG _ _ (by omega),zG _ _ (by omega),HT.out,HX.out,HY.out],_,rfl⟩
      case measure=>simp [intOf]; omega
     ·have hne:(x != y)=true:=by simp [hq]
      go_wp2
      go_quiet (fail)
      go_wp2;go_ret;exact ⟨zp (decide_eq_false (ne_at k (by rw [HX.out,HY.out]; exact hq))).symm,_,World.drewN_drewN _ _ _⟩
    ·go_wp2;go_ret;have hk':k=l1:=by omega
     exact ⟨zp (decide_eq_true (zbx (by omega) (by rw [s1,← hk']; exact HT.out))).symm,_,rfl⟩
 ·have hne:((l1:Int) != (l2:Int))=true:=by simp; omega
  have hz:¬z1=z2:=by intro e; rw [e] at s1; omega
  go_enter Tryz.func84,Tryz.ntmps84;go_wp2;go_ret;exact ⟨zp (decide_eq_false hz).symm,0,rfl⟩

theorem zdx (a1:Option Addr) (l1 c1:Nat) (z1:List Int) (a2:Option Addr) (l2 c2:Nat) (z2:List Int) (w:World) (h1:IRow w a1 l1 c1 z1) (h2:IRow w a2 l2 c2 z2) :
  Calls Tryz.prog 44 #[.slice a1 l1 c1,.slice a2 l2 c2] w fun e w'=>e=.returned (.bool (decide (z1=z2)))∧∃n,w'=w.drewN n:=by
 go_enter Tryz.func44,Tryz.ntmps44;go_wp2_with fail
 refine (zfd _ _ _ z1 _ _ _ z2 _ h1 h2).mono ?_;rintro e w1 ⟨rfl,n,rfl⟩;go_wp2;go_ret;exact ⟨rfl,n,rfl⟩

theorem zdc (R C H B P:Int) (w:World) :
  Calls Tryz.prog 233 #[.agg #[.int .i64 R,.int .i64 C,.int .i64 H,.int .i64 B,.int .i64 P]] w fun e w'=>e=.returned (.agg #[.int .i64 R,.int .i64 C,.int .i64 H,.int .i64 B,.int .i64 P])∧Below w.heap.size w w':=by
 go_enter Tryz.func233,Tryz.ntmps233;go_wp2;exact bodyPost_ret (v:=.agg #[.int .i64 R,.int .i64 C,.int .i64 H,.int .i64 B,.int .i64 P]) (by simp [results,Tryz.results233,go_sem, *]) rfl ⟨rfl,zq _ _ _⟩

theorem zdG (R C H B P:Int) (w:World) :
  Calls Tryz.prog 233 #[.agg #[.int .i64 R,.int .i64 C,.int .i64 H,.int .i64 B,.int .i64 P]] w fun e w'=>e=.returned (.agg #[.int .i64 R,.int .i64 C,.int .i64 H,.int .i64 B,.int .i64 P]) ∧
   w'=(w.alloc (.cells #[.int .i64 R,.int .i64 C,.int .i64 H,.int .i64 B,.int .i64 P] 118)).alloc (.cells #[.int .i64 R,.int .i64 C,.int .i64 H,.int .i64 B,.int .i64 P] 183):=by
 go_enter Tryz.func233,Tryz.ntmps233;go_wp2;exact bodyPost_ret (v:=.agg #[.int .i64 R,.int .i64 C,.int .i64 H,.int .i64 B,.int .i64 P]) (by simp [results,Tryz.results233,go_sem, *]) rfl ⟨rfl,rfl⟩

theorem zfF (R C H B P:Int) (w:World) :
  Calls Tryz.prog 234 #[.agg #[.int .i64 R,.int .i64 C,.int .i64 H,.int .i64 B,.int .i64 P]] w fun e w'=>e=.returned (.agg #[.int .i64 R,.int .i64 C,.int .i64 H,.int .i64 B,.int .i64 P])∧Below w.heap.size w w':=by
 go_enter Tryz.func234,Tryz.ntmps234;go_wp2;exact bodyPost_ret (v:=.agg #[.int .i64 R,.int .i64 C,.int .i64 H,.int .i64 B,.int .i64 P]) (by simp [results,Tryz.results234,go_sem, *]) rfl ⟨rfl,zq _ _ _⟩

theorem zfY (R C H B P:Int) (w:World):(Instr.index 183 (.agg #[.int .i64 R,.int .i64 C,.int .i64 H,.int .i64 B,.int .i64 P]) (.int .i64 0)).run Tryz.prog w=.ok (.int .i64 R) w:=by kernel_rfl
theorem zfZ (R C H B P:Int) (w:World):(Instr.index 183 (.agg #[.int .i64 R,.int .i64 C,.int .i64 H,.int .i64 B,.int .i64 P]) (.int .i64 1)).run Tryz.prog w=.ok (.int .i64 C) w:=by kernel_rfl
theorem zf0 (R C H B P:Int) (w:World):(Instr.index 183 (.agg #[.int .i64 R,.int .i64 C,.int .i64 H,.int .i64 B,.int .i64 P]) (.int .i64 2)).run Tryz.prog w=.ok (.int .i64 H) w:=by kernel_rfl
theorem zf1 (R C H B P:Int) (w:World):(Instr.index 183 (.agg #[.int .i64 R,.int .i64 C,.int .i64 H,.int .i64 B,.int .i64 P]) (.int .i64 3)).run Tryz.prog w=.ok (.int .i64 B) w:=by kernel_rfl
theorem zf2 (R C H B P:Int) (w:World):(Instr.index 183 (.agg #[.int .i64 R,.int .i64 C,.int .i64 H,.int .i64 B,.int .i64 P]) (.int .i64 4)).run Tryz.prog w=.ok (.int .i64 P) w:=by kernel_rfl

end Go.Proofs.YtcpdkcdfnpcemabGreat
