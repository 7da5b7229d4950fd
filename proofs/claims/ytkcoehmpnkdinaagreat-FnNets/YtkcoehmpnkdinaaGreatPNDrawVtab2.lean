/-
  Tables that are drawn, bent or not.
-/
import Derived.Test.YtkcoehmpnkdinaaGreatPNDrawVtab
namespace Go.Proofs.YtkcoehmpnkdinaaGreat
set_option maxRecDepth 100000
set_option maxHeartbeats 16000000
open Go.RowKit

theorem VSt.pushed {w wr wx:World} {C:Nat} {a0:Option Addr} {l0 c0:Nat} {z0:List Int} {X B:Nat} {a:Option Addr} {n c:Nat} {o:Option Addr} {p q:Nat} {v:VT} (h:VSt w wr C a0 l0 c0 z0 X B a n c o p q v) {a':Option Addr} {n' c':Nat} {l:List VR} (how:wx.ownsRow B 98 3 (.slice a' n' c') n' (vrowF.all l)) (hgr:wr.grownBy wx (Value.slice a n c).ownBlock) (hb:Below B wr wx) :
  wx.heap[X]? = some (.cells #[.slice a n c,.slice o p q] 59)∧VSt w (wx.setCell ⟨X,0,none⟩ (.slice a' n' c')) C a0 l0 c0 z0 X B a' n' c' o p q ⟨l,v.own⟩:=by
 have hC:=h.hC;have hB:=h.hB;have hX:=h.hX;have kX:=ze h.box hgr (fun k hk=>zN h.own.rows h.box (by decide) k hk);have kJ:=ze h.res hgr (fun k hk=>zN h.own.rows h.res (by decide) k hk);have hI:=zC h.own.own h.own.rows (by decide) hgr;have wn:=h.went.madeAt hb (by omega) (by omega);refine ⟨kX,⟨?_,⟨zB how (zm (rb:=X) 0 _) (zN how kX (by decide)),zB hI (zm (rb:=X) 0 _) (zN hI kX (by decide)),h.own.i64⟩,zam kJ (by omega),wn.madeAt (zj (Below.refl w.heap.size wx) (by omega) _ _) hC (Nat.le_refl _),hC,hB,hX⟩⟩;exact zu (j:=0) kX _

theorem VSt.setOwn {w wr:World} {C:Nat} {a0:Option Addr} {l0 c0:Nat} {z0:List Int} {X B g:Nat} {a:Option Addr} {n c p q:Nat} {v:VT} (h:VSt w wr C a0 l0 c0 z0 X B a n c (some ⟨g,0,none⟩) p q v) (hp:0 < p) {id:Int} (hid : -9223372036854775808≤id∧id≤9223372036854775807) :
  ((∃u,wr.cell? ⟨g,0,none⟩=some u)∧wr.frozen? ⟨g,0,none⟩=false)∧VSt w (wr.setCell ⟨g,0,none⟩ (.int .i64 id)) C a0 l0 c0 z0 X B a n c (some ⟨g,0,none⟩) p q ⟨v.rows,v.own.set 0 id⟩:=by
 have hC:=h.hC;have hB:=h.hB;have hg:=(h.own.own.lt g rfl).1;have n1:=zN h.own.own h.box (by decide) g rfl;have n2:=zN h.own.own h.res (by decide) g rfl;obtain ⟨f,hO⟩:=h.own.setOwn hp hid;exact ⟨f,⟨zam h.box (fun e=>n1 e.symm),hO,zam h.res (fun e=>n2 e.symm),h.went.madeAt (zj (Below.refl w.heap.size wr) (by omega) _ _) hC (Nat.le_refl _),hC,hB,h.hX⟩⟩

theorem Fine.more {v:VT} {p m:Nat} (h:Fine v p m) (r:VR) (hr:r.Few):Fine ⟨v.rows++[r],v.own⟩ p (m+7):=by
 refine ⟨fun x hx => ?_,h.own, ?_⟩
 ·rcases List.mem_append.1 hx with hx | hx
  ·exact h.rows x hx
  ·rw [List.mem_singleton.1 hx];exact hr
 ·have:=h.len
  simp
  omega

theorem Fine.owned {v:VT} {p m:Nat} (h:Fine v p m) (id:Int):Fine ⟨v.rows,v.own.set 0 id⟩ p (m+7):=⟨h.rows,by simpa using h.own,by have:=h.len; simp only; omega⟩

theorem zjz (C:Nat) (a0:Option Addr) (l0 c0:Nat) (z0:List Int) (w:World) (hc:Cur w C a0 l0 c0 z0) :
  Calls Tryz.prog 82 #[.pointer (some ⟨C,0,none⟩)] w fun e w'=>∃a n c o p q v ports pp,e=.returned (.tuple #[.agg #[.slice a n c,.slice o p q],.int .i64 ports])∧VOwn w' w.heap.size a n c o p q v∧Fine v pp 13∧1≤pp∧pp≤4∧(0≤ports∧ports≤7)∧Went w w' C a0 l0 c0 z0:=by
 have hlt:=hc.lt;generalize hw1:w.alloc (Obj.cells #[Value.slice none 0 0,Value.slice none 0 0] 59)=w1;have b01:=zb hw1;have k0:=zk hw1;have z1:w.heap.size < w1.heap.size:=by rw [← hw1]; simp
 have wn1:=Went.start hc b01;go_enter Tryz.func82,Tryz.ntmps82;go_wp2_with fail
 refine (zy C a0 l0 c0 z0 4 _ wn1.cur (by omega)).mono ?_;rintro e w2 ⟨x,rfl,hx0,hx1,-,wt2⟩;have hx1:=hx1 (by omega);have wn2:=wn1.trans wt2;have k2:=ze k0 wt2.grown (by intro k e; cases e; omega);have z2:w.heap.size < w2.heap.size:=Nat.lt_of_lt_of_le z1 wt2.grown.size;have hwx:IntKind.i64.wrap (1+x)=1+x:=by rw [IntKind.wrap_i64]; omega
 obtain ⟨pp,hpp⟩:∃pp:Nat,1+x=(pp:Int):=⟨(1+x).toNat,by omega⟩;have hp1:1≤pp:=by omega
 have hp4:pp≤4:=by omega
 clear wt2 wn1 k0 z1;go_wp2_with fail
 refine (ziO C a0 l0 c0 z0 pp hp1 (by omega) _ wn2.cur).mono ?_;rintro e w3 ⟨a,n,c,o,p,q,v,rfl,t3,hF,wt3⟩;obtain ⟨B,hB⟩:∃B,B=w2.heap.size:=⟨_,rfl⟩;generalize hwX:w3.alloc (Obj.cells #[Value.slice a n c,Value.slice o p q] 59)=wX;have b3X:=zb hwX;have st:VSt w wX C a0 l0 c0 z0 w3.heap.size B a n c o p q v:=⟨by rw [← hwX]; exact zt _ _,by rw [hB]; exact t3.below b3X,za (ze k2 wt3.grown (by intro k e; cases e; omega)) b3X,(wn2.trans wt3).made b3X,hlt,by rw [hB]; exact z2,by rw [hB]; exact wt3.grown.size⟩;obtain ⟨⟨x0,x1⟩,x2,x3⟩:=zG st.box;clear t3 b3X k2 wt3 wn2;go_wp2_with fail
 refine (zy C a0 l0 c0 z0 12 _ st.went.cur (by omega)).mono ?_;rintro e w4 ⟨y,rfl,hy0,hy1,-,wt4⟩;have st:=st.draw wt4;clear wt4 x0 x1 x2 x3 hwX hy1;generalize w3.heap.size=X at st ⊢;have hln:=st.own.len;have hFl:=hF.len;have hFo:=hF.own;have H67:Hid (n≤6∧p=pp):=hide (by omega);have hn6:n≤6:=H67.out.1;have HF:=hide hF;have HLN:=hide hln;clear hF hln hFl hFo hpp hwx;by_cases y0:y=0
 ·subst y0;have st:=st.below (zr (Below.refl _ _));obtain ⟨⟨x0,x1⟩,-⟩:=zG st.box;(go_wp2_with fail);refine wp_region_held_drew (S:=(fun _=>True)) (by kernel_rfl) (trivial) (fun hHeld => ?_)
  repeat' first
  |
   with_reducible refine kLa ?_
   first
   |
    refine kLf 0 ?_;refine kK 0 ?_
   |
    refine kLf 2 ?_;refine kK 2 ?_
   |
    refine kLf 5 ?_;refine kK 5 ?_
   |
    refine kLf 8 ?_;refine kK 8 ?_
   |
    refine kLf 10 ?_;refine kK 10 ?_
   |
    refine kLf 13 ?_;refine kK 13 ?_
   |
    refine kLp [1,3,6] ?_
   |
    refine kLp [3,6] ?_
   |
    refine kLp [4,6] ?_
   |
    refine kLp [6] ?_
   |
    refine kLp [7] ?_
   |
    refine kLp [9] ?_
   |
    refine kLp [11] ?_
   |
    refine kLp [12] ?_
   |
    refine kLp [14] ?_
   |
    refine kLp [4] ?_
   |
    refine kLp [3] ?_
   |
    refine kLp [1,4,6] ?_
   |
    refine kLp [1,6] ?_
   |
    refine kLp [1,7] ?_
   |
    refine kLp [1,9] ?_
   |
    refine kLp [1,11] ?_
   |
    refine kLp [1] ?_
   |
    refine kLp [1,4] ?_
   |
    refine kLp [1,3] ?_
   |
    refine wpAnyH_done (by kernel_rfl) ?_ _;clear hHeld x0 x1 x2 x3;obtain ⟨⟨x0,x1⟩,-⟩:=zG st.box;obtain ⟨⟨g0,g1⟩,f0,f1⟩:=zG st.res;have HO:=hide st.out;have HFF:=hide (HF.out.more ⟨i,m,b⟩ (by unfold VR.Few VR.Rng I64; simp only; omega));clear st;go_wp2;exact bodyPost_ret (v:=.tuple #[.agg #[.slice a7 (n+1) c7,.slice o p q],.int .i64 (pp:Int)]) (by simp [results,Tryz.results82,go_sem, *]) rfl ⟨_,_,_,_,_,_,_,(pp:Int),pp,rfl,HO.out.1,HFF.out,by omega,by omega,by omega,HO.out.2⟩
  |
   exact AllReadyH.nil
  |
   refine kLc 1 (fun K hK => ?_) ?_;go_simp;refine kO hK (trivial) fun hHeld => ?_
   clear hK K
  |
   refine kLc 3 (fun K hK => ?_) ?_;go_simp
   first
   | refine zaj (K:=K _) (fun wx kq1 hbx => ?_)
   | refine zab (K:=K _) (fun wx kq1 hbx => ?_)
   (try have kq2:=za kq2 hbx);have hq1:=st.went.cur.lt;have st:=st.below hbx;clear hbx x0 x1;obtain ⟨⟨x0,x1⟩,-⟩:=zG st.box;refine kO hK (trivial) fun hHeld => ?_
   clear hK K
  |
   refine kLc 4 (fun K hK => ?_) ?_;go_simp;refine (zb6 C a0 l0 c0 z0 [0,1,9,100] _ _ _ st.went.cur hq1 kq1 rfl (by simp) (by simp)).mono ?_;rintro e wx ⟨i,hi,rfl,wtx⟩;have hi:0≤i∧i≤100:=by simp at hi; omega
   (try have kq2:=zkE kq2 st.went.cur wtx);have st:=st.draw wtx;clear wtx x0 x1;obtain ⟨⟨x0,x1⟩,-⟩:=zG st.box;(go_wp2_with fail);refine kO hK (trivial) fun hHeld => ?_
   clear hK K
  |
   refine kLc 6 (fun K hK => ?_) ?_;go_simp
   first
   | refine zaj (K:=K _) (fun wx kq2 hbx => ?_)
   | refine zab (K:=K _) (fun wx kq2 hbx => ?_)
   (try have kq1:=za kq1 hbx);have hq2:=st.went.cur.lt;have st:=st.below hbx;clear hbx x0 x1;obtain ⟨⟨x0,x1⟩,-⟩:=zG st.box;refine kO hK (trivial) fun hHeld => ?_
   clear hK K
  |
   refine kLc 7 (fun K hK => ?_) ?_;go_simp;refine (zb6 C a0 l0 c0 z0 [-1,0,1,64] _ _ _ st.went.cur hq2 kq2 rfl (by simp) (by simp)).mono ?_;rintro e wx ⟨m,hm,rfl,wtx⟩;have hm : -1≤m∧m≤64:=by simp at hm; omega
   have st:=st.draw wtx;clear wtx x0 x1;obtain ⟨⟨x0,x1⟩,-⟩:=zG st.box;(go_wp2_with fail);refine kO hK (trivial) fun hHeld => ?_
   clear hK K
  |
   refine kLc 9 (fun K hK => ?_) ?_;go_simp;refine (zy C a0 l0 c0 z0 3 _ st.went.cur (by omega)).mono ?_;rintro e wx ⟨b,rfl,hb0,hb1,-,wtx⟩;have hb1:=hb1 (by omega);have st:=st.draw wtx;clear wtx x0 x1;obtain ⟨⟨x0,x1⟩,-⟩:=zG st.box;(go_wp2_with fail);refine kO hK (trivial) fun hHeld => ?_
   clear hK K
  |
   refine kLc 11 (fun K hK => ?_) ?_;go_simp
   first
   | refine zaj (K:=K _) (fun wx kr hbx => ?_)
   | refine zab (K:=K _) (fun wx kr hbx => ?_)
   have gr:GRow vrowF wx _ 1 1 [⟨i,m,b⟩]:=zD (F:=vrowF) (zdq vrowF (x:=⟨i,m,b⟩) (base:=0) kr rfl (Nat.zero_le _));have st:=st.below hbx;clear hbx kr x0 x1;obtain ⟨⟨x0,x1⟩,-⟩:=zG st.box;refine kO hK (trivial) fun hHeld => ?_
   clear hK K
  |
   refine kLc 12 (fun K hK => ?_) ?_;refine zI (F:=vrowF) rfl _ _ 57 98 rfl B Tryz.underlying57 zbA rfl (by decide) _ n v.rows rfl st.own.rows _ 1 1 [⟨i,m,b⟩] rfl gr (by omega) st.size ?_;intro a7 c7 wx how hrow hgr hbx;have st2:=st.pushed how hgr hbx;obtain ⟨⟨x0,x1⟩,x2,x3⟩:=zG st2.1;clear how hrow hgr hbx gr st;refine kO hK (trivial) fun hHeld => ?_
   clear hK K
  |
   refine kLc 14 (fun K hK => ?_) ?_;go_simp;have st:=st2.2;clear st2;refine kO hK (trivial) fun hHeld => ?_
   clear hK K
 by_cases y1:y=1
 ·subst y1;obtain ⟨g,rfl,-,-⟩:=st.own.addr (by have:=H67.out; omega);have hpp:0 < p:=by have:=H67.out; omega
  have i1:(0:Int) < (p:Int):=by omega
  have st:=st.below (zr (Below.refl _ _));(go_wp2_with fail);refine wp_region_held_drew (S:=(fun W=>zcc W X 1 (.slice (some ⟨g,0,none⟩) p q))) (by kernel_rfl) ((zG st.box).1.2) (fun hHeld => ?_);refine kK 0 ?_;refine kK 1 ?_;refine kK 2 ?_;refine kR 3 fun K hK => ?_
  go_simp
  first
  | refine zaj (K:=K _) (fun wx kq1 hbx => ?_)
  | refine zab (K:=K _) (fun wx kq1 hbx => ?_)
  have hq1:=st.went.cur.lt;have st:=st.below hbx;clear hbx;refine kO hK ((zG st.box).1.2) fun hHeld => ?_
  clear hK K;refine kR 4 fun K hK => ?_
  go_simp;refine (zb6 C a0 l0 c0 z0 [0,7] _ _ _ st.went.cur hq1 kq1 rfl (by simp) (by simp)).mono ?_;rintro e wx ⟨i,hi,rfl,wtx⟩;have hi:0≤i∧i≤7:=by simp at hi; omega
  have st:=st.draw wtx;clear wtx kq1;(go_wp2_with fail);refine kO hK ((zG st.box).1.2) fun hHeld => ?_
  clear hK K;refine kK 5 ?_;refine kR 6 fun K hK => ?_
  obtain ⟨⟨⟨u,cu⟩,cf⟩,st⟩:=st.setOwn hpp (id:=i) (by omega);go_simp;clear cu cf;refine kO hK ((zG st.box).1.2) fun hHeld => ?_
  clear hK K;refine wpAnyH_done (by kernel_rfl) ?_ _;clear hHeld;obtain ⟨⟨x0,x1⟩,-⟩:=zG st.box;obtain ⟨⟨g0,g1⟩,f0,f1⟩:=zG st.res;have HO:=hide st.out;have HFF:=hide (HF.out.owned i);clear st;go_wp2;exact bodyPost_ret (v:=.tuple #[.agg #[.slice a n c,.slice (some ⟨g,0,none⟩) p q],.int .i64 (pp:Int)]) (by simp [results,Tryz.results82,go_sem, *]) rfl ⟨_,_,_,_,_,_,_,(pp:Int),pp,rfl,HO.out.1,HFF.out,by omega,by omega,by omega,HO.out.2⟩
 by_cases y2:y=2
 ·subst y2;obtain ⟨⟨x0,x1⟩,-⟩:=zG st.box;(go_wp2_with fail);refine (zan C a0 l0 c0 z0 [0,6,7] _ _ w4 st.went.cur rfl rfl (by simp) (by simp)).mono ?_;rintro e w5 ⟨i,hi,rfl,wtx⟩;have hi:0≤i∧i≤7:=by simp at hi; omega
  have st:=st.draw wtx;clear wtx x0 x1;obtain ⟨⟨x0,x1⟩,-⟩:=zG st.box;obtain ⟨⟨g0,g1⟩,f0,f1⟩:=zG st.res;have HO:=hide st.out;have HFF:=hide (HF.out.mono (m':=13) (by omega));clear st;go_wp2;exact bodyPost_ret (v:=.tuple #[.agg #[.slice a n c,.slice o p q],.int .i64 i]) (by simp [results,Tryz.results82,go_sem, *]) rfl ⟨_,_,_,_,_,_,_,i,pp,rfl,HO.out.1,HFF.out,by omega,by omega,by omega,HO.out.2⟩
 by_cases y3:y=3
 ·subst y3;go_wp2
  go_loopw [6] (fun i wr=>∃(k:Nat) (a:Option Addr) (n c:Nat) (o:Option Addr) (p q:Nat) (v:VT),k≤6∧i=.int .i64 k∧VSt w wr C a0 l0 c0 z0 X B a n c o p q v∧Fine v pp (6+k)) (fun i _=>6 - (intOf i).toNat)
  case atStart=>exact ⟨0,a,n,c,o,p,q,v,Nat.zero_le _,rfl,st,HF.out⟩
  case round =>
   clear st HF HLN H67 hn6;obtain ⟨k,a,n,c,o,p,q,v,hk,rfl,st,hF⟩:=hrel;have hln:=st.own.len;have hFl:=hF.len;have hFo:=hF.own;have hn12:n≤12:=by omega
   have hp12:p≤4:=by omega
   have HF:=hide hF;clear hF hln hFl hFo;by_cases hk6:k < 6
   ·obtain ⟨⟨x0,x1⟩,-⟩:=zG st.box;have hwk:IntKind.i64.wrap (10+(k:Int))=10+(k:Int):=by rw [IntKind.wrap_i64]; omega
    (go_wp2_with fail);refine (zec a n c o p q v ⟨10+(k:Int),0,0⟩ _ st.own.tab (by omega) (by omega)).mono ?_;rintro e w5 ⟨a7,n7,c7,o7,q7,rfl,hO,hb⟩;have hF2:=HF.out.row (r:=⟨10+(k:Int),0,0⟩) (by unfold VR.Few VR.Rng I64; simp only; omega);have hO:=hO.lt (base':=B) st.size;have st:=st.below hb;obtain ⟨⟨g0,g1⟩,f0,f1⟩:=zG st.box;have HS:=hide (st.set hO);have HF2:=hide hF2;clear hb x0 x1 hO st hF2;go_wp2
    go_roundw
    case rel=>exact ⟨k+1,a7,n7,c7,o7,p,q7,_,by omega,by go_num,HS.out,HF2.out⟩
    case measure=>simp [intOf]; omega
   ·have hk':k=6:=by omega
    subst hk';obtain ⟨⟨x0,x1⟩,-⟩:=zG st.box;obtain ⟨⟨g0,g1⟩,f0,f1⟩:=zG st.res;have HO:=hide st.out;have HFF:=hide (HF.out.mono (m':=13) (by omega));clear st;go_wp2;exact bodyPost_ret (v:=.tuple #[.agg #[.slice a n c,.slice o p q],.int .i64 (pp:Int)]) (by simp [results,Tryz.results82,go_sem, *]) rfl ⟨_,_,_,_,_,_,_,(pp:Int),pp,rfl,HO.out.1,HFF.out,by omega,by omega,by omega,HO.out.2⟩
 ·have e0:(y == 0)=false:=by simp; omega
  have e1:(y == 1)=false:=by simp; omega
  have e2:(y == 2)=false:=by simp; omega
  have e3:(y == 3)=false:=by simp; omega
  obtain ⟨⟨x0,x1⟩,-⟩:=zG st.box;obtain ⟨⟨g0,g1⟩,f0,f1⟩:=zG st.res;have HO:=hide st.out;have HFF:=hide (HF.out.mono (m':=13) (by omega));clear st;go_wp2;exact bodyPost_ret (v:=.tuple #[.agg #[.slice a n c,.slice o p q],.int .i64 (pp:Int)]) (by simp [results,Tryz.results82,go_sem, *]) rfl ⟨_,_,_,_,_,_,_,(pp:Int),pp,rfl,HO.out.1,HFF.out,by omega,by omega,by omega,HO.out.2⟩

end Go.Proofs.YtkcoehmpnkdinaaGreat
