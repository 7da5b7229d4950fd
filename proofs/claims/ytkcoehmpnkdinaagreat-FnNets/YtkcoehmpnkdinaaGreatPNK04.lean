/-
  Packed: PtBest VecLess PtBestI PtRoleI PtSendsI VlanRow.
-/
import Derived.Test.YtkcoehmpnkdinaaGreatPNKW
import Derived.Test.YtkcoehmpnkdinaaGreatPNK03
namespace Go.Proofs.YtkcoehmpnkdinaaGreat
set_option maxRecDepth 100000
set_option maxHeartbeats 16000000
open Go.RowKit

theorem zei {w:World} {g:Nat} {c0 c1 c2 c3 c4:Value} {T:TypeId} (h:w.heap[g]? = some (.cells #[c0,c1,c2,c3,c4] T)) (u0 u1 u2 u3 u4:Value):(((((w.setCell ⟨g,0,none⟩ u0).setCell ⟨g,1,none⟩ u1).setCell ⟨g,2,none⟩ u2).setCell ⟨g,3,none⟩ u3).setCell ⟨g,4,none⟩ u4).heap[g]? = some (.cells #[u0,u1,u2,u3,u4] T) :=
 zu (j:=4) (zu (j:=3) (zu (j:=2) (zu (j:=1) (zu (j:=0) h u0) u1) u2) u3) u4

theorem zbX {w:World} {i g:Nat} {o:Obj} (h:w.heap[i]? = some o) (hne:i≠g) (u0 u1 u2 u3 u4:Value):(((((w.setCell ⟨g,0,none⟩ u0).setCell ⟨g,1,none⟩ u1).setCell ⟨g,2,none⟩ u2).setCell ⟨g,3,none⟩ u3).setCell ⟨g,4,none⟩ u4).heap[i]? = some o :=
 zam (zam (zam (zam (zam h hne) hne) hne) hne) hne

structure BvSt (w W:World) (v f:VD):Prop where
 res:W.heap[w.heap.size]? = some (.cells #[.int .i64 0,.int .i64 0,.int .i64 0,.int .i64 0,.int .i64 0] 72)
 best:W.heap[w.heap.size+1]? = some (.cells #[.int .i64 v.r,.int .i64 v.c,.int .i64 v.h,.int .i64 v.b,.int .i64 v.p] 72)
 frm:W.heap[w.heap.size+1+1]? = some (.cells #[.int .i64 f.r,.int .i64 f.c,.int .i64 f.h,.int .i64 f.b,.int .i64 f.p] 72)
 below:Below w.heap.size w W

theorem BvSt.later {w W W':World} {v f:VD} (h:BvSt w W v f) (hb:Below W.heap.size W W'):BvSt w W' v f :=
 ⟨za h.res hb,za h.best hb,za h.frm hb,zc h.below hb⟩

theorem BvSt.setBest {w W:World} {v f:VD} (h:BvSt w W v f) (u:VD):BvSt w (((((W.setCell ⟨w.heap.size+1,0,none⟩ (.int .i64 u.r)).setCell ⟨w.heap.size+1,1,none⟩ (.int .i64 u.c)).setCell ⟨w.heap.size+1,2,none⟩ (.int .i64 u.h)).setCell ⟨w.heap.size+1,3,none⟩ (.int .i64 u.b)).setCell ⟨w.heap.size+1,4,none⟩ (.int .i64 u.p)) u f :=
 ⟨zbX h.res (by omega) _ _ _ _ _,zei h.best _ _ _ _ _,zbX h.frm (by omega) _ _ _ _ _,zR h.below (by omega) _ _ _ _ _⟩

theorem BvSt.setFrom {w W:World} {v f:VD} (h:BvSt w W v f) (u:VD):BvSt w (((((W.setCell ⟨w.heap.size+1+1,0,none⟩ (.int .i64 u.r)).setCell ⟨w.heap.size+1+1,1,none⟩ (.int .i64 u.c)).setCell ⟨w.heap.size+1+1,2,none⟩ (.int .i64 u.h)).setCell ⟨w.heap.size+1+1,3,none⟩ (.int .i64 u.b)).setCell ⟨w.heap.size+1+1,4,none⟩ (.int .i64 u.p)) v u :=
 ⟨zbX h.res (by omega) _ _ _ _ _,zbX h.best (by omega) _ _ _ _ _,zei h.frm _ _ _ _ _,zR h.below (by omega) _ _ _ _ _⟩

theorem zbZ (id:Int) (a:Option Addr) (n c:Nat) (l:List PT) (w:World) (h:GRow ptF w a n c l) :
  Calls Tryz.prog 150 #[.int .i64 id,.slice a n c] w fun e w'=>e=.returned (.tuple #[.agg #[.int .i64 (bestV id (zS id l)).r,.int .i64 (bestV id (zS id l)).c,.int .i64 (bestV id (zS id l)).h,.int .i64 (bestV id (zS id l)).b,.int .i64 (bestV id (zS id l)).p],.int .i64 (bestP (zS id l))])∧Below w.heap.size w w':=by
 have hle:=h.le;have htop:=h.top;unfold maxLen at htop;have hsz:=hide h.size;go_enter Tryz.func150,Tryz.ntmps150;go_wp2_with fail
 generalize hw3:((w.alloc (Obj.cells #[.int .i64 0,.int .i64 0,.int .i64 0,.int .i64 0,.int .i64 0] 72)).alloc (Obj.cells #[.int .i64 id,.int .i64 0,.int .i64 0,.int .i64 id,.int .i64 0] 72)).alloc (Obj.cells #[.int .i64 0,.int .i64 0,.int .i64 0,.int .i64 0,.int .i64 0] 72)=w3;have st3:BvSt w w3 (bestV id none) (fromV none):=by
  subst hw3;obtain ⟨k0,k1,k2⟩:=zbS (Below.refl _ (((w.alloc (Obj.cells #[.int .i64 0,.int .i64 0,.int .i64 0,.int .i64 0,.int .i64 0] 72)).alloc (Obj.cells #[.int .i64 id,.int .i64 0,.int .i64 0,.int .i64 id,.int .i64 0] 72)).alloc (Obj.cells #[.int .i64 0,.int .i64 0,.int .i64 0,.int .i64 0,.int .i64 0] 72)));exact ⟨k0,k1,k2,zbb _ _ _ _⟩
 clear hw3
 go_loopw [8,9] (fun p i wr=>∃(k:Nat) (s:Option (VD × Nat)),k≤n∧i=.int .i64 k∧p=.int .i64 (bestP s)∧zbe id l k=s∧BvSt w wr (bestV id s) (fromV s)) (fun _ i _=>n - (intOf i).toNat)
 case atStart=>exact ⟨0,none,Nat.zero_le _,rfl,rfl,rfl,st3⟩
 case round =>
  obtain ⟨k,s,hk,rfl,rfl,hs,st⟩:=hrel;obtain ⟨bv,hbv⟩:∃y,y=bestV id s:=⟨_,rfl⟩;obtain ⟨fv,hfv⟩:∃y,y=fromV s:=⟨_,rfl⟩;have BACK:Hid (∀W,BvSt w W bv fv→BvSt w W (bestV id s) (fromV s)):=hide (by subst hbv hfv; exact fun W h=>h);rw [← hbv,← hfv] at st;have HBV:=hide hbv;have HFV:=hide hfv;clear hbv hfv;by_cases hlt:k < n
  ·obtain ⟨x,b,off,hx,rfl,c0,c1,c2,c3,c4,c5,c6,c7⟩:=pt_at (h.below st.below) k hlt;have hnx:=zeu (id:=id) hx;rw [hs] at hnx;have i1:(0:Int)≤(k:Int):=by omega
   have i2:(k:Int) < (n:Int):=by omega
   have NX:=hide hnx;clear hs hnx hx;cases hu:x.up
   ·rw [hu] at c0;have HE:=hide (NX.out.trans (zbv (by unfold offers; rw [hu]; rfl)));clear hu c1 c2 c3 c4 c5 c6 c7;go_wp2
    go_roundw
    case rel=>exact ⟨k+1,s,by omega,by go_num,rfl,HE.out,BACK.out _ st⟩
    case measure=>simp [intOf]; omega
   cases hh:x.has
   ·rw [hu] at c0;rw [hh] at c2;have HE:=hide (NX.out.trans (zbv (by unfold offers; rw [hu,hh]; rfl)));clear hu hh c1 c3 c4 c5 c6 c7;go_wp2
    go_roundw
    case rel=>exact ⟨k+1,s,by omega,by go_num,rfl,HE.out,BACK.out _ st⟩
    case measure=>simp [intOf]; omega
   rw [hu] at c0;rw [hh] at c2;have HUH:Hid (x.up=true∧x.has=true):=hide ⟨hu,hh⟩;have HSS:Hid (∀W',Below wr.heap.size wr W'→zcc W' b (off+k*8+1) (.int .i64 x.k)∧zcc W' b (off+k*8+3) (.int .i64 x.v.r)∧zcc W' b (off+k*8+4) (.int .i64 x.v.c)∧zcc W' b (off+k*8+5) (.int .i64 x.v.h)∧zcc W' b (off+k*8+6) (.int .i64 x.v.b)∧zcc W' b (off+k*8+7) (.int .i64 x.v.p)):=hide (fun W' hb=>⟨(hb.cell (zo c1)).trans c1,(hb.cell (zo c3)).trans c3,(hb.cell (zo c4)).trans c4,(hb.cell (zo c5)).trans c5,(hb.cell (zo c6)).trans c6,(hb.cell (zo c7)).trans c7⟩);obtain ⟨q,hq⟩:∃q,zbh x.v.r x.v.c x.v.h x.v.b x.v.p x.k=q:=⟨_,rfl⟩;obtain ⟨u,hu'⟩:∃u,u=(if q=true then stepV x.v x.k else x.v):=⟨_,rfl⟩;have HST:=hide hq;have HQ:Hid ((if q=true then Value.agg #[.int .i64 x.v.r,.int .i64 (x.v.c+x.k),.int .i64 (x.v.h+1),.int .i64 x.v.b,.int .i64 x.v.p] else Value.agg #[.int .i64 x.v.r,.int .i64 x.v.c,.int .i64 x.v.h,.int .i64 x.v.b,.int .i64 x.v.p])=.agg #[.int .i64 u.r,.int .i64 u.c,.int .i64 u.h,.int .i64 u.b,.int .i64 u.p]):=hide (by subst hu'; cases q <;> rfl);have HU:=hide hu';have ST:=hide st;clear hq hu' hu hh c1 c3 c4 c5 c6 c7;(go_upto_region 8 with fail);clear c0 c2
   go_cut [10,11] from 16 to 75 (fun s10 s11 wx=>∃g:Nat,s10=.pointer (some ⟨g,0,none⟩)∧s11=.bool q∧wr.heap.size≤g∧wx.heap[g]? = some (.cells #[.int .i64 u.r,.int .i64 u.c,.int .i64 u.h,.int .i64 u.b,.int .i64 u.p] 72)∧Below wr.heap.size wr wx)
   case first =>
    have vv:Below wr.heap.size wr wr.drew:=zr (Below.refl _ _);(go_wp2_with fail);refine wp_region_held_drew (S:=(fun W=>zcc W b (off+k*8+1) (.int .i64 x.k)∧zcc W b (off+k*8+3) (.int .i64 x.v.r)∧zcc W b (off+k*8+4) (.int .i64 x.v.c)∧zcc W b (off+k*8+5) (.int .i64 x.v.h)∧zcc W b (off+k*8+6) (.int .i64 x.v.b)∧zcc W b (off+k*8+7) (.int .i64 x.v.p))) (by kernel_rfl) (HSS.out _ vv) (fun hHeld => ?_)
    repeat' first
    |
     with_reducible refine kLa ?_
     first
     |
      refine kLf 0 ?_;refine kK 0 ?_
     |
      refine kLf 1 ?_;refine kK 1 ?_
     |
      refine kLf 2 ?_;refine kK 2 ?_
     |
      refine kLf 3 ?_;refine kK 3 ?_
     |
      refine kLf 4 ?_;refine kK 4 ?_
     |
      refine kLf 5 ?_;refine kK 5 ?_
     |
      refine kLf 6 ?_;refine kK 6 ?_
     |
      refine kLf 7 ?_;refine kK 7 ?_
     |
      refine kLf 8 ?_;refine kK 8 ?_
     |
      refine kLf 9 ?_;refine kK 9 ?_
     |
      refine kLf 11 ?_;refine kK 11 ?_
     |
      refine kLf 12 ?_;refine kK 12 ?_
     |
      refine kLf 13 ?_;refine kK 13 ?_
     |
      refine kLf 16 ?_;refine kK 16 ?_
     |
      refine kLp [10,14] ?_
     |
      refine kLp [14] ?_
     |
      refine kLp [15] ?_
     |
      refine kLp [10] ?_
     |
      refine wpAnyH_done (by kernel_rfl) ?_ _;clear hHeld;(go_wp2_with fail)
      go_meet
      exact ⟨_,rfl,rfl,gB,kB,vv⟩
    |
     exact AllReadyH.nil
    |
     refine kLc 10 (fun K hK => ?_) ?_;go_simp;refine (ze2 x.v.r x.v.c x.v.h x.v.b x.v.p x.k _).mono ?_;rintro e wx ⟨rfl,hbx⟩;rw [HST.out,HQ.out];(try have kB:=za kB hbx);have vv:=zc vv hbx;clear hbx;(go_wp2_with fail);refine kO hK (HSS.out _ vv) fun hHeld => ?_
     clear hK K
    |
     refine kLc 14 (fun K hK => ?_) ?_;go_simp
     first
     | refine zaj (K:=K _) (fun wx kB hbx => ?_)
     | refine zab (K:=K _) (fun wx kB hbx => ?_)
     have gB:=vv.size;have vv:=zc vv hbx;clear hbx;refine kO hK (HSS.out _ vv) fun hHeld => ?_
     clear hK K
    |
     refine kLc 15 (fun K hK => ?_) ?_;obtain ⟨⟨b0,b1,b2,b3,b4⟩,f0,f1,f2,f3,f4⟩:=zx kB;go_simp;have vv:=zR vv gB (.int .i64 u.r) (.int .i64 u.c) (.int .i64 u.h) (.int .i64 u.b) (.int .i64 u.p);have kB:=zei kB (.int .i64 u.r) (.int .i64 u.c) (.int .i64 u.h) (.int .i64 u.b) (.int .i64 u.p);clear b0 b1 b2 b3 b4 f0 f1 f2 f3 f4;refine kO hK (HSS.out _ vv) fun hHeld => ?_
     clear hK K
   case rest =>
    obtain ⟨g,rfl,rfl,hg,kX,hb⟩:=hcut;obtain ⟨wS,hwS⟩:∃x,x=wc:=⟨_,rfl⟩;subst hwS;have st:=ST.out.later hb;have hz:=ST.out.frm;have hlt2:=(Array.getElem?_eq_some_iff.1 hz).1;have ne1:¬g=w.heap.size+1+1:=by omega
    have ne2:¬w.heap.size+1+1=g:=by omega
    have ne3:¬g=w.heap.size+1:=by omega
    have ne4:¬w.heap.size+1=g:=by omega
    obtain ⟨⟨x0,x1,x2,x3,x4⟩,-⟩:=zx kX;have KX:=hide kX;clear hb hz hlt2 hg kX;cases q
    ·have HE:=hide (NX.out.trans (zbv (by unfold offers zdi; rw [HST.out]; simp)));go_wp2
     go_roundw
     case rel=>exact ⟨k+1,s,by omega,by go_num,rfl,HE.out,BACK.out _ st⟩
     case measure=>simp [intOf]; omega
    have hur:u.r=x.v.r:=by rw [HU.out]; rfl
    cases hlr:decide (u.r < id)
    ·have HE:=hide (NX.out.trans (zbv (by unfold offers; rw [← hur,hlr]; simp)));have hlr:¬u.r < id:=by simpa using hlr
     clear hur;go_wp2
     go_roundw
     case rel=>exact ⟨k+1,s,by omega,by go_num,rfl,HE.out,BACK.out _ st⟩
     case measure=>simp [intOf]; omega
    have ho:offers id x=true:=by unfold offers zdi; rw [HUH.out.1,HUH.out.2,HST.out,← hur,hlr]; rfl
    have hlr:u.r < id:=by simpa using hlr
    have huu:stepV x.v x.k=u:=HU.out.symm;have HO:=hide ho;have HUU:=hide huu;clear hur ho huu;clear ne3 ne4;cases s with
    | none =>
     have HE:Hid (zbe id l (k+1)=some (u,k)):=hide (by rw [NX.out]; unfold zbx; rw [if_pos HO.out,HUU.out]);rw [show bestP none = -1 from rfl];have SL:=hide st;obtain ⟨⟨z0,z1,z2,z3,z4⟩,v0,v1,v2,v3,v4⟩:=zx st.frm;clear st;(go_upto_region 11 with fail);generalize hwf:((((wS.setCell ⟨w.heap.size+1+1,0,none⟩ (.int .i64 u.r)).setCell ⟨w.heap.size+1+1,1,none⟩ (.int .i64 u.c)).setCell ⟨w.heap.size+1+1,2,none⟩ (.int .i64 u.h)).setCell ⟨w.heap.size+1+1,3,none⟩ (.int .i64 u.b)).setCell ⟨w.heap.size+1+1,4,none⟩ (.int .i64 u.p)=wf;have stf:BvSt w wf bv u:=by rw [← hwf]; exact SL.out.setFrom u
     have kf:wf.heap[g]? = some (.cells #[.int .i64 u.r,.int .i64 u.c,.int .i64 u.h,.int .i64 u.b,.int .i64 u.p] 72):=by rw [← hwf]; exact zbX KX.out (by omega) _ _ _ _ _
     clear hwf x0 x1 x2 x3 x4 v0 v1 v2 v3 v4 z0 z1 z2 z3 z4;obtain ⟨⟨x0,x1,x2,x3,x4⟩,-⟩:=zx kf;obtain ⟨⟨n0,n1,n2,n3,n4⟩,m0,m1,m2,m3,m4⟩:=zx stf.best;have HSET:Hid (BvSt w _ ⟨u.r,u.c,u.h,id,0⟩ u):=hide (stf.setBest ⟨u.r,u.c,u.h,id,0⟩);clear stf kf;go_wp2
     go_roundw
     case rel=>exact ⟨k+1,some (u,k),by omega,by go_num,rfl,HE.out,HSET.out⟩
     case measure=>simp [intOf]; omega
    | some fj =>
     obtain ⟨f,j⟩:=fj;rw [show bestP (some (f,j))=(j:Int) from rfl];have hneg:¬((j:Int) < 0):=by omega
     have hff:fv=f:=HFV.out;subst hff;obtain ⟨⟨z0,z1,z2,z3,z4⟩,-⟩:=zx st.frm;cases hl:lessV u fv
     ·have HE:Hid (zbe id l (k+1)=some (fv,j)):=hide (by rw [NX.out]; unfold zbx; rw [if_pos HO.out,HUU.out]; simp only; rw [if_neg (by rw [hl]; decide)]);have HL:Hid (zaY u.r u.c u.b u.p fv.r fv.c fv.b fv.p=false):=hide hl;clear hl;(go_wp2_with fail);refine (zbo u.r u.c u.h u.b u.p fv.r fv.c fv.h fv.b fv.p _).mono ?_;rintro e wl ⟨rfl,hbl⟩;rw [HL.out];have SL:=hide (st.later hbl);clear hbl st z0 z1 z2 z3 z4 x0 x1 x2 x3 x4;go_wp2
      go_roundw
      case rel=>exact ⟨k+1,some (fv,j),by omega,by go_num,rfl,HE.out,BACK.out _ SL.out⟩
      case measure=>simp [intOf]; omega
     ·have HE:Hid (zbe id l (k+1)=some (u,k)):=hide (by rw [NX.out]; unfold zbx; rw [if_pos HO.out,HUU.out]; simp only; rw [if_pos hl]);have HL:Hid (zaY u.r u.c u.b u.p fv.r fv.c fv.b fv.p=true):=hide hl;clear hl;(go_wp2_with fail);refine (zbo u.r u.c u.h u.b u.p fv.r fv.c fv.h fv.b fv.p _).mono ?_;rintro e wl ⟨rfl,hbl⟩;rw [HL.out];have SL:=hide (st.later hbl);have KX:=hide (za KX.out hbl);clear hbl st z0 z1 z2 z3 z4 x0 x1 x2 x3 x4;obtain ⟨⟨x0,x1,x2,x3,x4⟩,-⟩:=zx KX.out;obtain ⟨⟨z0,z1,z2,z3,z4⟩,v0,v1,v2,v3,v4⟩:=zx SL.out.frm;(go_upto_region 11 with fail);generalize hwf:((((wl.setCell ⟨w.heap.size+1+1,0,none⟩ (.int .i64 u.r)).setCell ⟨w.heap.size+1+1,1,none⟩ (.int .i64 u.c)).setCell ⟨w.heap.size+1+1,2,none⟩ (.int .i64 u.h)).setCell ⟨w.heap.size+1+1,3,none⟩ (.int .i64 u.b)).setCell ⟨w.heap.size+1+1,4,none⟩ (.int .i64 u.p)=wf;have stf:BvSt w wf bv u:=by rw [← hwf]; exact SL.out.setFrom u
      have kf:wf.heap[g]? = some (.cells #[.int .i64 u.r,.int .i64 u.c,.int .i64 u.h,.int .i64 u.b,.int .i64 u.p] 72):=by rw [← hwf]; exact zbX KX.out (by omega) _ _ _ _ _
      clear hwf x0 x1 x2 x3 x4 v0 v1 v2 v3 v4 z0 z1 z2 z3 z4;obtain ⟨⟨x0,x1,x2,x3,x4⟩,-⟩:=zx kf;obtain ⟨⟨n0,n1,n2,n3,n4⟩,m0,m1,m2,m3,m4⟩:=zx stf.best;have HSET:Hid (BvSt w _ ⟨u.r,u.c,u.h,id,0⟩ u):=hide (stf.setBest ⟨u.r,u.c,u.h,id,0⟩);clear stf kf;go_wp2
      go_roundw
      case rel=>exact ⟨k+1,some (u,k),by omega,by go_num,rfl,HE.out,HSET.out⟩
      case measure=>simp [intOf]; omega
  ·have hkn:k=n:=by omega
   subst hkn;have HB:Hid (zS id l=s):=hide (by unfold zS; rw [hsz.out]; exact hs);obtain ⟨⟨x0,x1,x2,x3,x4⟩,y0,y1,y2,y3,y4⟩:=zx st.best;obtain ⟨⟨r0,r1,r2,r3,r4⟩,z0,z1,z2,z3,z4⟩:=zx st.res;have ne:¬w.heap.size=w.heap.size+1:=by omega
   have hb:=zR st.below (Nat.le_refl w.heap.size) (.int .i64 bv.r) (.int .i64 bv.c) (.int .i64 bv.h) (.int .i64 bv.b) (.int .i64 bv.p);clear hs st;go_wp2;exact bodyPost_ret (v:=.tuple #[.agg #[.int .i64 bv.r,.int .i64 bv.c,.int .i64 bv.h,.int .i64 bv.b,.int .i64 bv.p],.int .i64 (bestP s)]) (by simp [results,Tryz.results150,go_sem, *]) rfl ⟨(by rw [HB.out,← HBV.out]),hb⟩

def cmpI (a b:Int):Int:=if a < b then -1 else if b < a then 1 else 0

theorem zch (a:Int) (w:World):Calls Tryz.prog 170 #[.int .i64 a] w fun e w'=>e=.returned (.bool false)∧w'=w:=by
 go_enter Tryz.func170,Tryz.ntmps170;go_wp2;go_ret;exact ⟨zH (by simp),rfl⟩

theorem zgq (a b:Int) (w:World):Calls Tryz.prog 168 #[.int .i64 a,.int .i64 b] w fun e w'=>e=.returned (.int .i64 (cmpI a b))∧w'=w:=by
 by_cases h1:a < b
 ·rw [show cmpI a b = -1 from if_pos h1];go_enter Tryz.func168,Tryz.ntmps168;(go_wp2_with fail);refine (zch a _).mono ?_;rintro e w1 ⟨rfl,rfl⟩;(go_wp2_with fail);refine (zch b _).mono ?_;rintro e w2 ⟨rfl,rfl⟩;go_wp2;go_ret;exact ⟨rfl,rfl⟩
 by_cases h2:b < a
 ·rw [show cmpI a b=1 by unfold cmpI; rw [if_neg h1,if_pos h2]];go_enter Tryz.func168,Tryz.ntmps168;(go_wp2_with fail);refine (zch a _).mono ?_;rintro e w1 ⟨rfl,rfl⟩;(go_wp2_with fail);refine (zch b _).mono ?_;rintro e w2 ⟨rfl,rfl⟩;go_wp2;go_ret;exact ⟨rfl,rfl⟩
 ·rw [show cmpI a b=0 by unfold cmpI; rw [if_neg h1,if_neg h2]];go_enter Tryz.func168,Tryz.ntmps168;(go_wp2_with fail);refine (zch a _).mono ?_;rintro e w1 ⟨rfl,rfl⟩;(go_wp2_with fail);refine (zch b _).mono ?_;rintro e w2 ⟨rfl,rfl⟩;go_wp2;go_ret;exact ⟨rfl,rfl⟩

def or4 (a b c d:Int):Int:=if ¬a=0 then a else if ¬b=0 then b else if ¬c=0 then c else d

theorem zlo (a b c d:Int) (g:Nat) (w:World) (hb:w.heap[g]? = some (.cells #[.int .i64 a,.int .i64 b,.int .i64 c,.int .i64 d] 3)) :
  Calls Tryz.prog 167 #[.slice (some ⟨g,0,none⟩) 4 4] w fun e w'=>e=.returned (.int .i64 (or4 a b c d))∧w'=w:=by
 obtain ⟨⟨x0,x1,x2,x3⟩,-⟩:=zlF hb;generalize ho:or4 a b c d=o;have HO:=hide ho;clear ho hb;go_enter Tryz.func167,Tryz.ntmps167;go_wp2
 go_loop [8] (fun i=>∃k:Nat,k≤4∧i=.int .i64 k∧(1≤k→a=0)∧(2≤k→b=0)∧(3≤k→c=0)∧(4≤k→d=0)) (fun i=>4 - (intOf i).toNat)
 case atStart=>exact ⟨0,Nat.zero_le _,rfl,by omega,by omega,by omega,by omega⟩
 case round =>
  obtain ⟨k,hk,hi,e1,e2,e3,e4⟩:=hrel;rcases (show k=0∨k=1∨k=2∨k=3∨k=4 by omega) with rfl | rfl | rfl | rfl | rfl
  ·have hi:_=Value.int .i64 0:=hi;subst hi;clear e1 e2 e3 e4;by_cases h0:a=0
   ·have t0:(a != 0)=false:=by simp [h0]
    have H0:=hide h0;clear h0;go_wp2
    go_round
    case rel=>exact ⟨1,by omega,by go_num,fun _=>H0.out,by omega,by omega,by omega⟩
    case measure=>simp [intOf]
   ·have t0:(a != 0)=true:=by simp [h0]
    have H0:=hide h0;clear h0;go_wp2;go_ret
    have:=HO.out
    unfold or4 at this;rw [if_pos H0.out] at this;exact ⟨(by rw [← this]; rfl),rfl⟩
  ·have hi:_=Value.int .i64 1:=hi;subst hi;have h1:=hide (e1 (by omega));clear e1 e2 e3 e4;by_cases h0:b=0
   ·have t0:(b != 0)=false:=by simp [h0]
    have H0:=hide h0;clear h0;go_wp2
    go_round
    case rel=>exact ⟨2,by omega,by go_num,fun _=>h1.out,fun _=>H0.out,by omega,by omega⟩
    case measure=>simp [intOf]
   ·have t0:(b != 0)=true:=by simp [h0]
    have H0:=hide h0;clear h0;go_wp2;go_ret
    have:=HO.out
    unfold or4 at this;rw [if_neg (fun h=>h h1.out),if_pos H0.out] at this;exact ⟨(by rw [← this]; rfl),rfl⟩
  ·have hi:_=Value.int .i64 2:=hi;subst hi;have h1:=hide (e1 (by omega));have h2:=hide (e2 (by omega));clear e1 e2 e3 e4;by_cases h0:c=0
   ·have t0:(c != 0)=false:=by simp [h0]
    have H0:=hide h0;clear h0;go_wp2
    go_round
    case rel=>exact ⟨3,by omega,by go_num,fun _=>h1.out,fun _=>h2.out,fun _=>H0.out,by omega⟩
    case measure=>simp [intOf]
   ·have t0:(c != 0)=true:=by simp [h0]
    have H0:=hide h0;clear h0;go_wp2;go_ret
    have:=HO.out
    unfold or4 at this;rw [if_neg (fun h=>h h1.out),if_neg (fun h=>h h2.out),if_pos H0.out] at this;exact ⟨(by rw [← this]; rfl),rfl⟩
  ·have hi:_=Value.int .i64 3:=hi;subst hi;have h1:=hide (e1 (by omega));have h2:=hide (e2 (by omega));have h3:=hide (e3 (by omega));clear e1 e2 e3 e4;by_cases h0:d=0
   ·have t0:(d != 0)=false:=by simp [h0]
    have H0:=hide h0;clear h0;go_wp2
    go_round
    case rel=>exact ⟨4,by omega,by go_num,fun _=>h1.out,fun _=>h2.out,fun _=>h3.out,fun _=>H0.out⟩
    case measure=>simp [intOf]
   ·have t0:(d != 0)=true:=by simp [h0]
    clear h0;go_wp2;go_ret
    have:=HO.out
    unfold or4 at this;rw [if_neg (fun h=>h h1.out),if_neg (fun h=>h h2.out),if_neg (fun h=>h h3.out)] at this;exact ⟨(by rw [← this]; rfl),rfl⟩
  ·have hi:_=Value.int .i64 4:=hi;subst hi;have h1:=hide (e1 (by omega));have h2:=hide (e2 (by omega));have h3:=hide (e3 (by omega));have h4:=hide (e4 (by omega));clear e1 e2 e3 e4;go_wp2;go_ret
   have:=HO.out
   unfold or4 at this;rw [if_neg (fun h=>h h1.out),if_neg (fun h=>h h2.out),if_neg (fun h=>h h3.out),h4.out] at this;exact ⟨(by rw [← this]; rfl),rfl⟩

theorem zkM (R C B P R' C' B' P':Int):decide (or4 (cmpI R R') (cmpI C C') (cmpI B B') (cmpI P P') < 0)=zaY R C B P R' C' B' P':=by
 have z:∀a b:Int,(cmpI a b=0↔a=b)∧(cmpI a b < 0↔a < b):=by
  intro a b;unfold cmpI
  constructor <;> split <;> (try split) <;> omega
 obtain ⟨a1,a2⟩:=z R R';obtain ⟨b1,b2⟩:=z C C';obtain ⟨c1,c2⟩:=z B B';obtain ⟨d1,d2⟩:=z P P';unfold or4 zaY;generalize cmpI R R'=x at *;generalize cmpI C C'=y at *;generalize cmpI B B'=u at *;generalize cmpI P P'=v at *;by_cases h1:R=R'
 ·have e1:x=0:=a1.2 h1;have t1:(R != R')=false:=by simp [h1]
  rw [if_neg (by simp [e1]:¬¬x=0),t1,if_neg Bool.false_ne_true];by_cases h2:C=C'
  ·have e2:y=0:=b1.2 h2;have t2:(C != C')=false:=by simp [h2]
   rw [if_neg (by simp [e2]:¬¬y=0),t2,if_neg Bool.false_ne_true];by_cases h3:B=B'
   ·have e3:u=0:=c1.2 h3;have t3:(B != B')=false:=by simp [h3]
    rw [if_neg (by simp [e3]:¬¬u=0),t3,if_neg Bool.false_ne_true];exact decide_eq_decide.2 d2
   ·have e3:¬u=0:=fun h=>h3 (c1.1 h)
    have t3:(B != B')=true:=by simp [h3]
    rw [if_pos e3,t3,if_pos rfl];exact decide_eq_decide.2 c2
  ·have e2:¬y=0:=fun h=>h2 (b1.1 h)
   have t2:(C != C')=true:=by simp [h2]
   rw [if_pos e2,t2,if_pos rfl];exact decide_eq_decide.2 b2
 ·have e1:¬x=0:=fun h=>h1 (a1.1 h)
  have t1:(R != R')=true:=by simp [h1]
  rw [if_pos e1,t1,if_pos rfl];exact decide_eq_decide.2 a2

theorem zbl (R C H B P R' C' H' B' P':Int) (w:World) :
  Calls Tryz.prog 164 #[.agg #[.int .i64 R,.int .i64 C,.int .i64 H,.int .i64 B,.int .i64 P],.agg #[.int .i64 R',.int .i64 C',.int .i64 H',.int .i64 B',.int .i64 P']] w fun e w'=>e=.returned (.bool (zaY R C B P R' C' B' P'))∧Below w.heap.size w w':=by
 have q2:=zX w (.cells #[.int .i64 R,.int .i64 C,.int .i64 H,.int .i64 B,.int .i64 P] 72) (.cells #[.int .i64 R',.int .i64 C',.int .i64 H',.int .i64 B',.int .i64 P'] 72);obtain ⟨k0,k1⟩:=zcr (Below.refl _ ((w.alloc (.cells #[.int .i64 R,.int .i64 C,.int .i64 H,.int .i64 B,.int .i64 P] 72)).alloc (.cells #[.int .i64 R',.int .i64 C',.int .i64 H',.int .i64 B',.int .i64 P'] 72)));have HL:=hide (zkM R C B P R' C' B' P');generalize zaY R C B P R' C' B' P'=L at *;go_enter Tryz.func164,Tryz.ntmps164;go_wp2_with fail
 generalize ((w.alloc (.cells #[.int .i64 R,.int .i64 C,.int .i64 H,.int .i64 B,.int .i64 P] 72)).alloc (.cells #[.int .i64 R',.int .i64 C',.int .i64 H',.int .i64 B',.int .i64 P'] 72))=wb at *;obtain ⟨⟨x0,x1,x2,x3,x4⟩,-⟩:=zx k0;obtain ⟨⟨y0,y1,y2,y3,y4⟩,-⟩:=zx k1;clear k0 k1
 go_region_held3 (fun W=>(W.cell? ⟨w.heap.size,0,none⟩=some (.int .i64 R)∧W.cell? ⟨w.heap.size,1,none⟩=some (.int .i64 C)∧W.cell? ⟨w.heap.size,3,none⟩=some (.int .i64 B)∧W.cell? ⟨w.heap.size,4,none⟩=some (.int .i64 P))∧(W.cell? ⟨w.heap.size+1,0,none⟩=some (.int .i64 R')∧W.cell? ⟨w.heap.size+1,1,none⟩=some (.int .i64 C')∧W.cell? ⟨w.heap.size+1,3,none⟩=some (.int .i64 B')∧W.cell? ⟨w.heap.size+1,4,none⟩=some (.int .i64 P'))) (first | assumption | go_keep) (first
  | (go_at_call 168; refine (zgq _ _ _).mono ?_; rintro e w1 ⟨rfl,rfl⟩)
  | (go_at_call 167; refine (zlo (cmpI R R') (cmpI C C') (cmpI B B') (cmpI P P') wb.heap.size _ (zbf (zt wb _))).mono ?_; rintro e w2 ⟨rfl,rfl⟩))
 go_wp2;go_ret;exact ⟨zH HL.out,zr (zb4 q2 _)⟩

def heldV (id:Int):Option (VD × Nat)→VD
 | none=>⟨id,0,0,0,0⟩
 | some (f,_)=>f

structure BiSt (w W:World) (v:VD):Prop where
 res:W.heap[w.heap.size]? = some (.cells #[.int .i64 0,.int .i64 0,.int .i64 0,.int .i64 0,.int .i64 0] 72)
 best:W.heap[w.heap.size+1]? = some (.cells #[.int .i64 v.r,.int .i64 v.c,.int .i64 v.h,.int .i64 v.b,.int .i64 v.p] 72)
 below:Below w.heap.size w W

theorem BiSt.later {w W W':World} {v:VD} (h:BiSt w W v) (hb:Below W.heap.size W W'):BiSt w W' v :=
 ⟨za h.res hb,za h.best hb,zc h.below hb⟩

theorem BiSt.set {w W:World} {v:VD} (h:BiSt w W v) (u:VD):BiSt w (((((W.setCell ⟨w.heap.size+1,0,none⟩ (.int .i64 u.r)).setCell ⟨w.heap.size+1,1,none⟩ (.int .i64 u.c)).setCell ⟨w.heap.size+1,2,none⟩ (.int .i64 u.h)).setCell ⟨w.heap.size+1,3,none⟩ (.int .i64 u.b)).setCell ⟨w.heap.size+1,4,none⟩ (.int .i64 u.p)) u :=
 ⟨zbX h.res (by omega) _ _ _ _ _,zei h.best _ _ _ _ _,zR h.below (by omega) _ _ _ _ _⟩

theorem zjA {id:Int} {u:VD} (h:u.r < id):zaY u.r u.c u.b u.p id 0 0 0=true:=by
 unfold zaY
 have:(u.r != id)=true:=by simp; omega
 rw [this]
 simp [h]

theorem ziw {id:Int} {s:Option (VD × Nat)} {i:Nat} {x:PT} (ho:offers id x=true) (hs:∀f j,s=some (f,j)→f.r < id) :
  zbx id s i x=if lessV (overV x) (heldV id s)=true then some (overV x,i) else s:=by
 have ho':=ho;rw [zcu] at ho';simp only [Bool.and_eq_true,decide_eq_true_eq] at ho';have e:=zia ho'.1;unfold zbx;rw [if_pos ho];cases s with
 | none =>
  rw [if_pos]
  ·rw [e]
  ·exact zjA ho'.2
 | some y =>
  obtain ⟨f,j⟩:=y;simp only [heldV];rw [e]
  rfl

theorem zbV (id:Int) (a:Option Addr) (n c:Nat) (l:List PT) (w:World) (h:GRow ptF w a n c l) :
  Calls Tryz.prog 163 #[.int .i64 id,.slice a n c] w fun e w'=>e=.returned (.tuple #[.agg #[.int .i64 (bestV id (zS id l)).r,.int .i64 (bestV id (zS id l)).c,.int .i64 (bestV id (zS id l)).h,.int .i64 (bestV id (zS id l)).b,.int .i64 (bestV id (zS id l)).p],.int .i64 (bestP (zS id l))])∧Below w.heap.size w w':=by
 have hle:=h.le;have htop:=h.top;unfold maxLen at htop;have hsz:=hide h.size;go_enter Tryz.func163,Tryz.ntmps163;go_wp2_with fail
 generalize hw3:(w.alloc (Obj.cells #[.int .i64 0,.int .i64 0,.int .i64 0,.int .i64 0,.int .i64 0] 72)).alloc (Obj.cells #[.int .i64 id,.int .i64 0,.int .i64 0,.int .i64 0,.int .i64 0] 72)=w3;have st3:BiSt w w3 (heldV id none):=by
  subst hw3;obtain ⟨k0,k1⟩:=zcr (Below.refl _ ((w.alloc (Obj.cells #[.int .i64 0,.int .i64 0,.int .i64 0,.int .i64 0,.int .i64 0] 72)).alloc (Obj.cells #[.int .i64 id,.int .i64 0,.int .i64 0,.int .i64 0,.int .i64 0] 72)));exact ⟨k0,k1,zX _ _ _⟩
 clear hw3
 go_loopw [7,16] (fun p i wr=>∃(k:Nat) (s:Option (VD × Nat)),k≤n∧i=.int .i64 k∧p=.int .i64 (bestP s)∧(zbe id l k=s∧∀f j,s=some (f,j)→f.r < id)∧BiSt w wr (heldV id s)) (fun _ i _=>n - (intOf i).toNat)
 case atStart=>exact ⟨0,none,Nat.zero_le _,rfl,rfl,⟨rfl,by intro f j e; cases e⟩,st3⟩
 case round =>
  obtain ⟨k,s,hk,rfl,rfl,⟨hs,hrt⟩,st⟩:=hrel;obtain ⟨hv,hhv⟩:∃y,y=heldV id s:=⟨_,rfl⟩;have BACK:Hid (∀W,BiSt w W hv→BiSt w W (heldV id s)):=hide (by subst hhv; exact fun W h=>h);rw [← hhv] at st;have HHV:=hide hhv;have HRT:=hide hrt;clear hhv hrt;by_cases hlt:k < n
  ·obtain ⟨x,b,off,hx,rfl,c0,c1,c2,c3,c4,c5,c6,c7⟩:=pt_at (h.below st.below) k hlt;have hnx:=zeu (id:=id) hx;rw [hs] at hnx;have i1:(0:Int)≤(k:Int):=by omega
   have i2:(k:Int) < (n:Int):=by omega
   have NX:=hide hnx;have ST:=hide st;clear hs hnx hx st;(go_wp2_with fail);refine (zgQ x _).mono ?_;rintro e w4 ⟨rfl,hb4⟩;have st4:=(ST.out.later (zg _ _)).later hb4;clear hb4 c0 c1 c2 c3 c4 c5 c6 c7;generalize hu:overV x=u;generalize hq:overB x=q;have HU:=hide hu;have HQ:=hide hq;clear hu hq;(go_upto_region 6 with fail);generalize hw5:w4.alloc (Obj.cells #[.int .i64 u.r,.int .i64 u.c,.int .i64 u.h,.int .i64 u.b,.int .i64 u.p] 72)=w5;have st5:BiSt w w5 hv:=by rw [← hw5]; exact st4.later (zg _ _)
   have kX:=zk hw5;have hl4:=(Array.getElem?_eq_some_iff.1 st4.best).1;have ne1:¬w4.heap.size=w.heap.size+1:=by omega
   have ne2:¬w.heap.size+1=w4.heap.size:=by omega
   have HL4:=hide hl4;obtain ⟨⟨x0,x1,x2,x3,x4⟩,-⟩:=zx kX;obtain ⟨⟨z0,z1,z2,z3,z4⟩,v0,v1,v2,v3,v4⟩:=zx st5.best;clear st4 hl4 hw5;have ST5:=hide st5;have KX:=hide kX;clear kX st5;cases q
   ·have HE:Hid (zbe id l (k+1)=s):=hide (NX.out.trans (zbv (by rw [zcu,HQ.out]; rfl)));clear v0 v1 v2 v3 v4;go_wp2
    go_roundw
    case rel=>exact ⟨k+1,s,by omega,by go_num,rfl,⟨HE.out,HRT.out⟩,BACK.out _ ST5.out⟩
    case measure=>simp [intOf]; omega
   cases hlr:decide (u.r < id)
   ·have HE:Hid (zbe id l (k+1)=s):=hide (NX.out.trans (zbv (by rw [zcu,HQ.out,HU.out,hlr]; rfl)));have hlr:¬u.r < id:=by simpa using hlr
    clear v0 v1 v2 v3 v4;go_wp2
    go_roundw
    case rel=>exact ⟨k+1,s,by omega,by go_num,rfl,⟨HE.out,HRT.out⟩,BACK.out _ ST5.out⟩
    case measure=>simp [intOf]; omega
   have HO:Hid (offers id x=true):=hide (by rw [zcu,HQ.out,HU.out,hlr]; rfl);have hlr:u.r < id:=by simpa using hlr
   have HLR:=hide hlr;have HSTEP:Hid (zbe id l (k+1)=if lessV u hv=true then some (u,k) else s):=hide (by rw [NX.out,ziw HO.out HRT.out,HU.out,HHV.out]);cases hl:lessV u hv
   ·have HE:Hid (zbe id l (k+1)=s):=hide (by rw [HSTEP.out,hl]; rfl);have HL:Hid (zaY u.r u.c u.b u.p hv.r hv.c hv.b hv.p=false):=hide hl;clear hl v0 v1 v2 v3 v4;(go_wp2_with fail);refine (zbl u.r u.c u.h u.b u.p hv.r hv.c hv.h hv.b hv.p _).mono ?_;rintro e wl ⟨rfl,hbl⟩;rw [HL.out];have SL:=hide (ST5.out.later hbl);clear hbl x0 x1 x2 x3 x4 z0 z1 z2 z3 z4;go_wp2
    go_roundw
    case rel=>exact ⟨k+1,s,by omega,by go_num,rfl,⟨HE.out,HRT.out⟩,BACK.out _ SL.out⟩
    case measure=>simp [intOf]; omega
   ·have HE:Hid (zbe id l (k+1)=some (u,k)):=hide (by rw [HSTEP.out,hl]; rfl);have HL:Hid (zaY u.r u.c u.b u.p hv.r hv.c hv.b hv.p=true):=hide hl;clear hl v0 v1 v2 v3 v4;(go_wp2_with fail);refine (zbl u.r u.c u.h u.b u.p hv.r hv.c hv.h hv.b hv.p _).mono ?_;rintro e wl ⟨rfl,hbl⟩;rw [HL.out];have stl:=ST5.out.later hbl;have kX:=za KX.out hbl;clear hbl x0 x1 x2 x3 x4 z0 z1 z2 z3 z4;obtain ⟨⟨x0,x1,x2,x3,x4⟩,-⟩:=zx kX;obtain ⟨⟨z0,z1,z2,z3,z4⟩,v0,v1,v2,v3,v4⟩:=zx stl.best;have HSET:Hid (BiSt w _ u):=hide (stl.set u);clear stl kX;go_wp2
    go_roundw
    case rel=>exact ⟨k+1,some (u,k),by omega,by go_num,rfl,⟨HE.out,fun f j e=>by cases e; exact HLR.out⟩,HSET.out⟩
    case measure=>simp [intOf]; omega
  ·have hkn:k=n:=by omega
   subst hkn;have HB:Hid (zS id l=s):=hide (by unfold zS; rw [hsz.out]; exact hs);have HBV:Hid (bestV id s=⟨hv.r,hv.c,hv.h,id,0⟩):=hide (by rw [HHV.out]; cases s <;> rfl);obtain ⟨⟨x0,x1,x2,x3,x4⟩,y0,y1,y2,y3,y4⟩:=zx st.best;obtain ⟨⟨r0,r1,r2,r3,r4⟩,z0,z1,z2,z3,z4⟩:=zx st.res;have ne:¬w.heap.size=w.heap.size+1:=by omega
   have hb:=zR (zj (zj st.below (g:=w.heap.size+1) (by omega) 3 (.int .i64 id)) (g:=w.heap.size+1) (by omega) 4 (.int .i64 0)) (Nat.le_refl w.heap.size) (.int .i64 hv.r) (.int .i64 hv.c) (.int .i64 hv.h) (.int .i64 id) (.int .i64 0);clear hs st;go_wp2;exact bodyPost_ret (v:=.tuple #[.agg #[.int .i64 hv.r,.int .i64 hv.c,.int .i64 hv.h,.int .i64 id,.int .i64 0],.int .i64 (bestP s)]) (by simp [results,Tryz.results163,go_sem, *]) rfl ⟨(by rw [HB.out,HBV.out]),hb⟩

theorem zdd (id:Int) (a:Option Addr) (n c:Nat) (l:List PT) (port:Int) (w:World) (h:GRow ptF w a n c l) :
  Calls Tryz.prog 165 #[.int .i64 id,.slice a n c,.int .i64 port] w fun e w'=>e=.returned (.agg #[.int .i64 (sayV id l port).r,.int .i64 (sayV id l port).c,.int .i64 (sayV id l port).h,.int .i64 (sayV id l port).b,.int .i64 (sayV id l port).p])∧Below w.heap.size w w':=by
 generalize hw1:w.alloc (Obj.cells #[.int .i64 0,.int .i64 0,.int .i64 0,.int .i64 0,.int .i64 0] 72)=w1;have q1:=zb hw1;have k1:=zk hw1;have hsb:(sayV id l port)=⟨(bestV id (zS id l)).r,(bestV id (zS id l)).c,(bestV id (zS id l)).h,(bestV id (zS id l)).b,port⟩:=by
  unfold sayV;cases zS id l <;> rfl
 rw [hsb];clear hsb;go_enter Tryz.func165,Tryz.ntmps165;go_wp2_with fail
 refine (zbV id a n c l _ (h.below q1)).mono ?_;rintro e w2 ⟨rfl,hb2⟩;generalize hv:bestV id (zS id l)=v;have HV:=hide hv;clear hv;generalize hw3:w2.alloc (Obj.cells #[.int .i64 v.r,.int .i64 v.c,.int .i64 v.h,.int .i64 v.b,.int .i64 v.p] 72)=w3;have hb3:=zb hw3;have k3:=zk hw3;have k1:=za (za k1 hb2) hb3;have lt1:=(Array.getElem?_eq_some_iff.1 (za (by rw [← hw1]; exact zt _ _:w1.heap[w.heap.size]? = some (.cells #[.int .i64 0,.int .i64 0,.int .i64 0,.int .i64 0,.int .i64 0] 72)) hb2)).1;have ne1:¬w2.heap.size=w.heap.size:=by omega
 have ne2:¬w.heap.size=w2.heap.size:=by omega
 have HB:=hide (zR (zj (zc (zc q1 hb2) hb3) (g:=w2.heap.size) (by omega) 4 (.int .i64 port)) (Nat.le_refl w.heap.size) (.int .i64 v.r) (.int .i64 v.c) (.int .i64 v.h) (.int .i64 v.b) (.int .i64 port));obtain ⟨⟨x0,x1,x2,x3,x4⟩,y0,y1,y2,y3,y4⟩:=zx k3;obtain ⟨⟨r0,r1,r2,r3,r4⟩,z0,z1,z2,z3,z4⟩:=zx k1;clear hb2 hb3 k1 k3 q1 lt1;go_wp2;exact bodyPost_ret (v:=.agg #[.int .i64 v.r,.int .i64 v.c,.int .i64 v.h,.int .i64 v.b,.int .i64 port]) (by simp [results,Tryz.results165,go_sem, *]) rfl ⟨(by rw [HV.out]),HB.out⟩

theorem zgC (id:Int) (a:Option Addr) (n c:Nat) (l:List PT) (port:Int) (w:World) (h:GRow ptF w a n c l) :
  Calls Tryz.prog 156 #[.int .i64 id,.slice a n c,.int .i64 port] w fun e w'=>e=.returned (.int .i64 (zaH id l port))∧Below w.heap.size w w':=by
 have hle:=h.le;have htop:=h.top;unfold maxLen at htop;have hsz:=hide h.size;cases hin:(decide (0≤port) && decide (port≤(n:Int) - 1))
 ·have HIN:=hide hin;have HR:Hid (zaH id l port=4):=hide (by unfold zaH; rw [hsz.out,hin]; rfl);clear hin;go_enter Tryz.func156,Tryz.ntmps156;(go_wp2_with fail);refine (zF port 0 ((n:Int) - 1) _).mono ?_;rintro e w1 ⟨rfl,ew⟩;obtain rfl:=ew.symm;rw [HIN.out];go_wp2;go_ret;exact ⟨(by rw [HR.out]; rfl),Below.refl _ _⟩
 obtain ⟨k,rfl⟩:∃k:Nat,port=(k:Int):=⟨port.toNat,by simp at hin; omega⟩;have hlt:k < n:=by simp at hin; omega
 have HIN:=hide hin;have i1:(0:Int)≤(k:Int):=by omega
 have i2:(k:Int) < (n:Int):=by omega
 obtain ⟨x,b,off,hx,rfl,c0,c1,c2,c3,c4,c5,c6,c7⟩:=pt_at h k hlt;have hro:zaH id l (k:Int)=zdf id l k x:=by
  unfold zaH;rw [hsz.out,hin]
  simp [hx]
 have HRO:=hide hro;clear hin hro;cases hu:x.up
 ·rw [hu] at c0;have HR:Hid (zaH id l (k:Int)=4):=hide (by rw [HRO.out]; unfold zdf; rw [if_pos hu]);clear hu c1 c2 c3 c4 c5 c6 c7 hx;go_enter Tryz.func156,Tryz.ntmps156;(go_wp2_with fail);refine (zF (k:Int) 0 ((n:Int) - 1) _).mono ?_;rintro e w1 ⟨rfl,ew⟩;obtain rfl:=ew.symm;rw [HIN.out];go_wp2;go_ret;exact ⟨(by rw [HR.out]; rfl),Below.refl _ _⟩
 rw [hu] at c0;have HU:=hide hu;clear hu;by_cases hp:bestP (zS id l)=(k:Int)
 ·have HR:Hid (zaH id l (k:Int)=1):=hide (by rw [HRO.out]; unfold zdf; rw [if_neg (by rw [HU.out]; decide),if_pos hp]);have HP:=hide hp;clear c1 c2 c3 c4 c5 c6 c7 hx hp;go_enter Tryz.func156,Tryz.ntmps156;(go_wp2_with fail);refine (zF (k:Int) 0 ((n:Int) - 1) _).mono ?_;rintro e w1 ⟨rfl,ew⟩;obtain rfl:=ew.symm;rw [HIN.out];(go_wp2_with fail);refine (zbV id (some ⟨b,off,none⟩) n c l _ h).mono ?_;rintro e w2 ⟨rfl,hb2⟩;rw [HP.out];have HB:=hide (zc hb2 (zg _ (Obj.cells #[.int .i64 (bestV id (zS id l)).r,.int .i64 (bestV id (zS id l)).c,.int .i64 (bestV id (zS id l)).h,.int .i64 (bestV id (zS id l)).b,.int .i64 (bestV id (zS id l)).p] 72)));clear hb2 c0;go_wp2;go_ret;exact ⟨(by rw [HR.out]; rfl),HB.out⟩
 go_enter Tryz.func156,Tryz.ntmps156;go_wp2_with fail
 refine (zF (k:Int) 0 ((n:Int) - 1) _).mono ?_;rintro e w1 ⟨rfl,ew⟩;obtain rfl:=ew.symm;rw [HIN.out];go_wp2_with fail
 refine (zbV id (some ⟨b,off,none⟩) n c l _ h).mono ?_;rintro e w2 ⟨rfl,hb2⟩;generalize hw3:w2.alloc (Obj.cells #[.int .i64 (bestV id (zS id l)).r,.int .i64 (bestV id (zS id l)).c,.int .i64 (bestV id (zS id l)).h,.int .i64 (bestV id (zS id l)).b,.int .i64 (bestV id (zS id l)).p] 72)=w3;have HB:Hid (Below w.heap.size w w3):=hide (zc hb2 (by rw [← hw3]; exact zg _ _));clear hb2 c0 c1 c2 c3 c4 c5 c6 c7;obtain ⟨x',b',off',hx',ha',c0,c1,c2,c3,c4,c5,c6,c7⟩:=pt_at (h.below HB.out) k hlt;rw [hx] at hx';cases hx';cases ha';generalize hP:bestP (zS id l)=P at *;have hPne:((k:Int) == P)=false:=by simp; exact fun e=>hp e.symm
 have HX:=hide hx;have vv:Below w3.heap.size w3 w3.drew:=zr (Below.refl _ _);have HR0:Hid (zaH id l (k:Int)=(if (!x.has || lessV (sayV id l (k:Int)) x.v)=true then 2 else 3)):=hide (by rw [HRO.out]; unfold zdf; rw [if_neg (by rw [HU.out]; decide),hP,if_neg hp]);clear c0 c1 hx hP;cases hh:x.has
 ·rw [hh] at c2;have HR:Hid (zaH id l (k:Int)=2):=hide (by rw [HR0.out,hh]; rfl);have HSS:Hid (∀W',Below w3.heap.size w3 W'→zcc W' b (off+k*8+2) (.bool false)∧zcc W' b (off+k*8+3) (.int .i64 x.v.r)∧zcc W' b (off+k*8+4) (.int .i64 x.v.c)∧zcc W' b (off+k*8+5) (.int .i64 x.v.h)∧zcc W' b (off+k*8+6) (.int .i64 x.v.b)∧zcc W' b (off+k*8+7) (.int .i64 x.v.p)):=hide (fun W' hb=>⟨(hb.cell (zo c2)).trans c2,(hb.cell (zo c3)).trans c3,(hb.cell (zo c4)).trans c4,(hb.cell (zo c5)).trans c5,(hb.cell (zo c6)).trans c6,(hb.cell (zo c7)).trans c7⟩);clear c2 c3 c4 c5 c6 c7 hh;(go_wp2_with fail);refine wp_region_held_drew (S:=(fun W=>zcc W b (off+k*8+2) (.bool false)∧zcc W b (off+k*8+3) (.int .i64 x.v.r)∧zcc W b (off+k*8+4) (.int .i64 x.v.c)∧zcc W b (off+k*8+5) (.int .i64 x.v.h)∧zcc W b (off+k*8+6) (.int .i64 x.v.b)∧zcc W b (off+k*8+7) (.int .i64 x.v.p))) (by kernel_rfl) (HSS.out _ vv) (fun hHeld => ?_);refine kK 0 ?_;refine kK 1 ?_;refine kK 2 ?_;refine kK 3 ?_;refine kK 4 ?_;refine kK 5 ?_;refine kK 6 ?_;refine kN 7 ?_;refine kN 8 ?_;refine kN 9 ?_;refine kN 10 ?_;refine kN 11 ?_;refine kN 12 ?_;refine kN 13 ?_;refine kN 14 ?_;refine kN 15 ?_;refine kN 16 ?_;refine kK 17 ?_;refine wpAnyH_done (by kernel_rfl) ?_ _;clear hHeld;go_wp2;go_ret;exact ⟨(by rw [HR.out]; rfl),zc HB.out vv⟩
 ·rw [hh] at c2;have HSS:Hid (∀W',Below w3.heap.size w3 W'→zcc W' b (off+k*8+2) (.bool true)∧zcc W' b (off+k*8+3) (.int .i64 x.v.r)∧zcc W' b (off+k*8+4) (.int .i64 x.v.c)∧zcc W' b (off+k*8+5) (.int .i64 x.v.h)∧zcc W' b (off+k*8+6) (.int .i64 x.v.b)∧zcc W' b (off+k*8+7) (.int .i64 x.v.p)):=hide (fun W' hb=>⟨(hb.cell (zo c2)).trans c2,(hb.cell (zo c3)).trans c3,(hb.cell (zo c4)).trans c4,(hb.cell (zo c5)).trans c5,(hb.cell (zo c6)).trans c6,(hb.cell (zo c7)).trans c7⟩);clear c2 c3 c4 c5 c6 c7;cases hl:lessV (sayV id l (k:Int)) x.v
  ·have HR:Hid (zaH id l (k:Int)=3):=hide (by rw [HR0.out,hh,hl]; rfl);have HL:Hid (zaY (sayV id l (k:Int)).r (sayV id l (k:Int)).c (sayV id l (k:Int)).b (sayV id l (k:Int)).p x.v.r x.v.c x.v.b x.v.p=false):=hide hl;clear hh hl;(go_wp2_with fail);refine wp_region_held_drew (S:=(fun W=>zcc W b (off+k*8+2) (.bool true)∧zcc W b (off+k*8+3) (.int .i64 x.v.r)∧zcc W b (off+k*8+4) (.int .i64 x.v.c)∧zcc W b (off+k*8+5) (.int .i64 x.v.h)∧zcc W b (off+k*8+6) (.int .i64 x.v.b)∧zcc W b (off+k*8+7) (.int .i64 x.v.p))) (by kernel_rfl) (HSS.out _ vv) (fun hHeld => ?_);refine kK 0 ?_;refine kK 1 ?_;refine kK 2 ?_;refine kK 3 ?_;refine kK 4 ?_;refine kK 5 ?_;refine kK 6 ?_;refine kK 7 ?_;refine kK 8 ?_;refine kK 9 ?_;refine kK 11 ?_;refine kK 12 ?_;refine kK 13 ?_;refine kK 14 ?_;refine kK 15 ?_;refine kR 10 fun K hK => ?_
   go_simp;refine (zdd id (some ⟨b,off,none⟩) n c l (k:Int) _ (h.below (zc HB.out vv))).mono ?_;rintro e wx ⟨rfl,hbx⟩;have vv:=zc vv hbx;clear hbx;(go_wp2_with fail);refine kO hK (HSS.out _ vv) fun hHeld => ?_
   clear hK K;refine kR 16 fun K hK => ?_
   go_simp;refine (zbl (sayV id l (k:Int)).r (sayV id l (k:Int)).c (sayV id l (k:Int)).h (sayV id l (k:Int)).b (sayV id l (k:Int)).p x.v.r x.v.c x.v.h x.v.b x.v.p _).mono ?_;rintro e wx ⟨rfl,hbx⟩;rw [HL.out];have vv:=zc vv hbx;clear hbx;(go_wp2_with fail);refine kO hK (HSS.out _ vv) fun hHeld => ?_
   clear hK K;refine kK 17 ?_;refine wpAnyH_done (by kernel_rfl) ?_ _;clear hHeld;go_wp2;go_ret;exact ⟨(by rw [HR.out]; rfl),zc HB.out vv⟩
  ·have HR:Hid (zaH id l (k:Int)=2):=hide (by rw [HR0.out,hh,hl]; rfl);have HL:Hid (zaY (sayV id l (k:Int)).r (sayV id l (k:Int)).c (sayV id l (k:Int)).b (sayV id l (k:Int)).p x.v.r x.v.c x.v.b x.v.p=true):=hide hl;clear hh hl;(go_wp2_with fail);refine wp_region_held_drew (S:=(fun W=>zcc W b (off+k*8+2) (.bool true)∧zcc W b (off+k*8+3) (.int .i64 x.v.r)∧zcc W b (off+k*8+4) (.int .i64 x.v.c)∧zcc W b (off+k*8+5) (.int .i64 x.v.h)∧zcc W b (off+k*8+6) (.int .i64 x.v.b)∧zcc W b (off+k*8+7) (.int .i64 x.v.p))) (by kernel_rfl) (HSS.out _ vv) (fun hHeld => ?_);refine kK 0 ?_;refine kK 1 ?_;refine kK 2 ?_;refine kK 3 ?_;refine kK 4 ?_;refine kK 5 ?_;refine kK 6 ?_;refine kK 7 ?_;refine kK 8 ?_;refine kK 9 ?_;refine kK 11 ?_;refine kK 12 ?_;refine kK 13 ?_;refine kK 14 ?_;refine kK 15 ?_;refine kR 10 fun K hK => ?_
   go_simp;refine (zdd id (some ⟨b,off,none⟩) n c l (k:Int) _ (h.below (zc HB.out vv))).mono ?_;rintro e wx ⟨rfl,hbx⟩;have vv:=zc vv hbx;clear hbx;(go_wp2_with fail);refine kO hK (HSS.out _ vv) fun hHeld => ?_
   clear hK K;refine kR 16 fun K hK => ?_
   go_simp;refine (zbl (sayV id l (k:Int)).r (sayV id l (k:Int)).c (sayV id l (k:Int)).h (sayV id l (k:Int)).b (sayV id l (k:Int)).p x.v.r x.v.c x.v.h x.v.b x.v.p _).mono ?_;rintro e wx ⟨rfl,hbx⟩;rw [HL.out];have vv:=zc vv hbx;clear hbx;(go_wp2_with fail);refine kO hK (HSS.out _ vv) fun hHeld => ?_
   clear hK K;refine kK 17 ?_;refine wpAnyH_done (by kernel_rfl) ?_ _;clear hHeld;go_wp2;go_ret;exact ⟨(by rw [HR.out]; rfl),zc HB.out vv⟩

theorem zfY (id:Int) (a:Option Addr) (n c:Nat) (l:List PT) (w:World) (h:GRow ptF w a n c l) :
  Calls Tryz.prog 137 #[.int .i64 id,.slice a n c] w fun e w'=>e=.returned (.int .i64 (zbc id l))∧Below w.heap.size w w':=by
 have hle:=h.le;have htop:=h.top;unfold maxLen at htop;have hsz:=hide h.size;go_enter Tryz.func137,Tryz.ntmps137;go_wp2_with fail
 go_loopw [5,10] (fun s i wr=>∃k:Nat,k≤min n 6∧i=.int .i64 k∧s=.int .i64 (za2 id l k)∧Below w.heap.size w wr) (fun _ i _=>6 - (intOf i).toNat)
 case atStart=>exact ⟨0,Nat.zero_le _,rfl,rfl,Below.refl _ _⟩
 case round =>
  obtain ⟨k,hk,rfl,rfl,hb⟩:=hrel;have hk6:k≤6:=by omega
  generalize hS:za2 id l k=S;have HS:=hide hS;clear hS;by_cases hlt:k < min n 6
  ·have hkn:k < n:=by omega
   have hk5:k < 6:=by omega
   have i1:(0:Int)≤(k:Int):=by omega
   have i2:(k:Int) < (n:Int):=by omega
   have i3:(k:Int) < 6:=by omega
   have hmin:(if (n:Int)≤6 then (n:Int) else 6)=((min n 6:Nat):Int):=by split <;> omega
   have i4:(k:Int) < ((min n 6:Nat):Int):=by omega
   have HB:=hide hb;clear hk hb;(go_wp2_with fail);refine (zgC id a n c l (k:Int) _ (h.below HB.out)).mono ?_;rintro e w2 ⟨rfl,hb2⟩;have HB2:=hide (zc HB.out hb2);have h14:=zij (id:=id) (l:=l) (k:Int);clear hb2;generalize hR:zaH id l (k:Int)=R at *;have HR:=hide hR;clear hR;by_cases hr:R≤2
   ·have HN:Hid (za2 id l (k+1)=bits .or .i64 S (2 ^ k)):=hide (by rw [za2,HR.out,if_pos hr,HS.out]);have hw2:wrap64 (2 ^ k)=2 ^ k:=by
     rcases (show k=0∨k=1∨k=2∨k=3∨k=4∨k=5 by omega) with rfl | rfl | rfl | rfl | rfl | rfl <;> exact Go.IntWalk.wrap64_in _ (by decide)
    have HW2:=hide hw2;clear hw2;obtain rfl | rfl:R=1∨R=2:=by omega
    ·go_wp2;rw [HW2.out]
     go_roundw
     case rel=>exact ⟨k+1,by omega,by go_num,by rw [HN.out],HB2.out⟩
     case measure=>simp [intOf]; omega
    ·go_wp2;rw [HW2.out]
     go_roundw
     case rel=>exact ⟨k+1,by omega,by go_num,by rw [HN.out],HB2.out⟩
     case measure=>simp [intOf]; omega
   ·have HN:Hid (za2 id l (k+1)=S):=hide (by rw [za2,HR.out,if_neg hr,HS.out]);have hne1:¬R=1:=by omega
    have hne2:¬R=2:=by omega
    go_wp2
    go_roundw
    case rel=>exact ⟨k+1,by omega,by go_num,by rw [HN.out],HB2.out⟩
    case measure=>simp [intOf]; omega
  ·have hkn:k=min n 6:=by omega
   have HK:Hid (zbc id l=S):=hide (by unfold zbc; rw [hsz.out,← hkn]; exact HS.out);have hend:¬((k:Int) < (n:Int)∧(k:Int) < 6):=by omega
   go_wp2
   all_goals go_ret
   all_goals exact ⟨(by rw [HK.out]; rfl),hb⟩

theorem cell1 {w:World} {g:Nat} {T:TypeId} {v:Value} (h:w.heap[g]? = some (.cells #[v] T)):w.cell? ⟨g,0,none⟩=some v:=by simp [World.cell?,h]

theorem zgL (v:Value) (w:World):(method 326 98 v "loop.example/g00326/impl.number").run Tryz.prog w=.ok (186,v) w:=by kernel_rfl

theorem za7 (r:VR) (w:World):Calls Tryz.prog 186 #[.agg #[.int .i64 r.i,.int .i64 r.m,.int .i64 r.b]] w fun e w'=>e=.returned (.int .i64 r.i)∧Below w.heap.size w w':=by
 go_enter Tryz.func186,Tryz.ntmps186;go_wp2;go_ret;exact ⟨rfl,zg _ _⟩

theorem zcb (a:Option Addr) (n c:Nat) (o:Option Addr) (p q:Nat) (w:World):Calls Tryz.prog 126 #[.agg #[.slice a n c,.slice o p q]] w fun e w'=>e=.returned (.slice a n c)∧Below w.heap.size w w':=by
 go_enter Tryz.func126,Tryz.ntmps126;go_wp2;go_ret;exact ⟨rfl,zg _ _⟩

theorem zdc (r:VR) (id:Int) (g:Nat) (w:World) (c:w.heap[g]? = some (.cells #[.int .i64 id] 3)) :
  Calls Tryz.prog 162 #[.agg #[.int .i64 r.i,.int .i64 r.m,.int .i64 r.b],.pointer (some ⟨g,0,none⟩)] w fun e w'=>e=.returned (.bool (r.i == id))∧Below w.heap.size w w':=by
 have hm:=zgL;generalize hw1:w.alloc (Obj.cells #[.int .i64 r.i,.int .i64 r.m,.int .i64 r.b] 98)=w1;have q:=zb hw1;have k0:=zk hw1;have HS:Hid (∀W,Below w1.heap.size w1 W→(zcc W w.heap.size 0 (.int .i64 r.i)∧zcc W w.heap.size 1 (.int .i64 r.m)∧zcc W w.heap.size 2 (.int .i64 r.b))∧zcc W g 0 (.int .i64 id)):=hide (fun W hW=>⟨(zaZ (za k0 hW)).1,cell1 (za (za c q) hW)⟩);clear k0;have vv:Below w1.heap.size w1 w1.drew:=zr (Below.refl _ _);go_enter Tryz.func162,Tryz.ntmps162;go_wp2_with fail
 refine wp_region_held_drew (S:=(fun W=>(zcc W w.heap.size 0 (.int .i64 r.i)∧zcc W w.heap.size 1 (.int .i64 r.m)∧zcc W w.heap.size 2 (.int .i64 r.b))∧zcc W g 0 (.int .i64 id))) (by kernel_rfl) (HS.out _ vv) (fun hHeld => ?_);refine kK 0 ?_;refine kK 1 ?_;refine kK 3 ?_;refine kR 2 fun K hK => ?_
 go_simp;refine (za7 r _).mono ?_;rintro e wz ⟨rfl,hbz⟩;have vv:=zc vv hbz;go_wp2_with fail
 refine kO hK (HS.out _ vv) fun hHeld => ?_
 clear hK K;refine kK 4 ?_;refine kK 5 ?_;refine wpAnyH_done (by kernel_rfl) ?_ _;have HB:=hide (zc q vv);clear HS vv q;go_wp2;go_ret;exact ⟨rfl,HB.out⟩

theorem zg0 (a:Option Addr) (n c:Nat) (l:List VR) (id:Int) (g:Nat) (w:World) (h:GRow vrowF w a n c l) (cg:w.heap[g]? = some (.cells #[.int .i64 id] 3)) :
  Calls Tryz.prog 161 #[.slice a n c,.func (.func 162) #[] #[.pointer (some ⟨g,0,none⟩)]] w fun r w'=>r=.returned (.int .i64 (rowAt l id))∧Below w.heap.size w w':=by
 have hle:=h.le;have htop:=h.top;unfold maxLen at htop;have hsz:=h.size;go_enter Tryz.func161,Tryz.ntmps161;go_wp2
 go_loopw [8] (fun i wr=>∃k:Nat,k≤n∧i=.int .i64 k∧(∀(j:Nat) (y:VR),j < k→l[j]? = some y→(y.i == id)=false)∧Below w.heap.size w wr) (fun i _=>n - (intOf i).toNat)
 case atStart=>exact ⟨0,Nat.zero_le _,rfl,fun j y hj=>by omega,Below.refl _ _⟩
 case round =>
  obtain ⟨k,hk,rfl,hno,hb⟩:=hrel;by_cases hlt:k < n
  ·obtain ⟨x,b,off,hx,rfl,c0,c1,c2⟩:=zb2 (h.below hb) k hlt;cases t1:(x.i == id)
   ·have HO:=hide (zip hno hx t1);have HA:=hide t1;have HB:=hide hb;clear t1 hno hb hx;(go_wp2_with fail);refine (zdc x id g _ (za cg HB.out)).mono ?_;rintro r w1 ⟨rfl,hb1⟩;rw [HA.out];have HB1:=hide (zc HB.out hb1);clear hb1 c0 c1 c2;go_wp2
    go_roundw
    case rel=>exact ⟨k+1,by omega,by go_num,HO.out,HB1.out⟩
    case measure=>simp [intOf]; omega
   ·have HF:=hide (zeV hno hx t1);have HA:=hide t1;have HB:=hide hb;clear t1 hno hb hx;(go_wp2_with fail);refine (zdc x id g _ (za cg HB.out)).mono ?_;rintro r w1 ⟨rfl,hb1⟩;rw [HA.out];have HB1:=hide (zc HB.out hb1);clear hb1 c0 c1 c2;go_wp2;go_ret;exact ⟨(by rw [HF.out]; rfl),HB1.out⟩
  ·have hkn:k=n:=by omega
   have HF:=hide (zfF (l:=l) (id:=id) (fun i y hy=>hno i y (by have:=(List.getElem?_eq_some_iff.1 hy).1; omega) hy));have HB:=hide hb;clear hno hb;subst hkn;go_wp2;go_ret;exact ⟨(by rw [HF.out]; rfl),HB.out⟩

theorem zfW (a:Option Addr) (n c:Nat) (l:List VR) (id:Int) (w:World) (h:GRow vrowF w a n c l) :
  Calls Tryz.prog 155 #[.slice a n c,.int .i64 id] w fun r w'=>r=.returned (.int .i64 (rowAt l id))∧Below w.heap.size w w':=by
 have hmf:∀(fn:Fn) (first cap:Array Value) (w:World),(Instr.makeFunc fn first cap).run Tryz.prog w=.ok (.func fn first cap) w:=fun _ _ _ _=>rfl
 have q:=zg w (.cells #[.int .i64 id] 3);go_enter Tryz.func155,Tryz.ntmps155;go_wp2_with fail
 refine (zg0 a n c l id _ _ (h.below q) (zt w _)).mono ?_;rintro r w1 ⟨rfl,hb1⟩;have HB:=hide (zc q hb1);clear hb1 q;go_wp2;go_ret;exact ⟨rfl,HB.out⟩

theorem zdE (a:Option Addr) (n c:Nat) (l:List VR) (o:Option Addr) (p q:Nat) (id:Int) (w:World) (h:GRow vrowF w a n c l) :
  Calls Tryz.prog 129 #[.agg #[.slice a n c,.slice o p q],.int .i64 id] w fun r w'=>r=.returned (.int .i64 (rowAt l id))∧Below w.heap.size w w':=by
 have q0:=zg w (.cells #[.slice a n c,.slice o p q] 59);go_enter Tryz.func129,Tryz.ntmps129;go_wp2_with fail
 refine (zcb a n c o p q _).mono ?_;rintro r w1 ⟨rfl,hb1⟩;have q1:=zc q0 hb1;clear hb1;go_wp2_with fail
 refine (zfW a n c l id _ (h.below q1)).mono ?_;rintro r w2 ⟨rfl,hb2⟩;have HB:=hide (zc q1 hb2);clear hb2 q1 q0;go_wp2;go_ret;exact ⟨rfl,HB.out⟩

end Go.Proofs.YtkcoehmpnkdinaaGreat
