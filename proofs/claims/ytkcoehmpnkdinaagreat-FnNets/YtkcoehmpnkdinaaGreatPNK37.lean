/-
  Packed: StepSaid StepMath StepIs NetKeep DrawNt5 NetNewT.
-/
import Derived.Test.YtkcoehmpnkdinaaGreatPNK12
import Derived.Test.YtkcoehmpnkdinaaGreatPNK22
import Derived.Test.YtkcoehmpnkdinaaGreatPNK36
namespace Go.Proofs.YtkcoehmpnkdinaaGreat
set_option maxRecDepth 100000
set_option maxHeartbeats 16000000
open Go.RowKit

theorem GRow.drop7 {w:World} {b off n c k:Nat} {l:List SY} (h:GRow sayF w (some ⟨b,off,none⟩) n c l) (hk:k≤n):GRow sayF w (if c=k then some ⟨b,off,none⟩ else some ⟨b,off+k*7,none⟩) (n - k) (c - k) (l.drop k) where
 size:=by have:=h.size; simp; omega
 le:=by have:=h.le; omega
 top:=by have:=h.top; omega
 nil:=by split <;> (intro h; cases h)
 cell:=by
  have hle:=h.le;by_cases hc0:c=k
  ·exact .inl (by omega)
  ·rw [if_neg hc0];rcases h.cell with h0 | ⟨b',off',ha,hc⟩
   ·exact .inl (by omega)
   ·cases ha;refine .inr ⟨b,off+k*7,rfl,fun i x hi j v hv => ?_⟩;rw [List.getElem?_drop] at hi
    have:=hc (k+i) x hi j v hv
    have e7:sayF.k=7:=rfl;rw [e7] at this ⊢;rw [show off+k*7+i*7+j=off+(k+i)*7+j by omega];exact this

theorem GRow.drop70 {w:World} {b n c k:Nat} {l:List SY} (h:GRow sayF w (some ⟨b,0,none⟩) n c l) (hk:k≤n):GRow sayF w (if c=k then some ⟨b,0,none⟩ else some ⟨b,k*7,none⟩) (n - k) (c - k) (l.drop k):=by
 have:=h.drop7 hk
 rwa [Nat.zero_add] at this

theorem NbSt.saidNew {w w1:World} {base X:Nat} {M:NV} (h:NbSt w base X M) (hb:Below w.heap.size w w1) {ao:Option Addr} {n cap:Nat} {ss:List SY} (hr:w1.ownsRow base 74 7 (.slice ao n cap) n (sayF.all ss)) :
  w1.heap[X]? = some (.cells #[.slice M.ba M.bn M.bc,.slice M.la M.ln M.lc,.slice M.sa M.sn M.sc] 31)∧NbSt (w1.setCell ⟨X,2,none⟩ (.slice ao n cap)) base X { M with sa:=ao,sn:=n,sc:=cap,ss:=ss }∧Below base w (w1.setCell ⟨X,2,none⟩ (.slice ao n cap)):=by
 have h1:=h.later hb;have k1:=h1.box;have hgx:w1.grownBy (w1.setCell ⟨X,2,none⟩ (.slice ao n cap)) (some X):=zm 2 _;have nb:=NOwn.boxed (M:={ M with sa:=ao,sn:=n,sc:=cap,ss:=ss }) ⟨h1.own.b,h1.own.l,hr⟩ k1 hgx;have b1:Below base w w1:=hb.mono h.size;have hle:=h.le;refine ⟨k1,⟨?_,nb,h.le⟩,b1.grown hgx (by have:=zcB k1; omega) (by intro k e; cases e; omega)⟩
 have:=zu (j:=2) k1 (.slice ao n cap)
 simpa using this

def atSet (l:List BR) (i:Nat) (f:BR→BR):List BR:=match l[i]? with
 | some B=>l.set i (f B)
 | none=>l
def zh1 (bs:List BR) (ls:List LK) (s:SY):List BR:=match ls[s.l.toNat]? with
 | some x=>if s.back=true then atSet bs x.a.toNat (fun B=>hearB B x.p s.v) else atSet bs x.b.toNat (fun B=>hearB B x.q s.v)
 | none=>bs
def zcF (bs:List BR) (ls:List LK) (kind:Int) (s:SY):List BR:=if kind=2∧zaw bs ls s.l=true then zh1 bs ls s else bs

theorem zds {bs:List BV} {i:Nat} {y y2:BV} {f:BR→BR} (h:bs[i]? = some y) (hy:y2.B=f y.B):(bs.set i y2).map BV.B=atSet (bs.map BV.B) (i:Int).toNat f:=by
 unfold atSet;rw [Int.toNat_natCast,List.getElem?_map,h]
 simp [List.map_set,hy]

theorem zfG (M:NV) (base X k:Nat) (kind:Int) (s:SY) (w:World) (h:NbSt w base X M) (hs:M.ss[k]? = some s) (hsl:M.ss.length≤40) (he:∀x∈M.ls,zce M.brs x) (hsm:∀y∈M.bs,y.Small20) (hso:SayOk M.ls s) :
  Calls Tryz.prog 112 #[.pointer (some ⟨X,0,none⟩),.agg #[.int .i64 kind,.int .i64 (k:Int)]] w fun e w'=>e=.returned (.tuple #[])∧∃(bs2:List BV) (sa:Option Addr) (sn sc:Nat),NbSt w' base X { M with bs:=bs2,sa:=sa,sn:=sn,sc:=sc,ss:=M.ss.take k++M.ss.drop (k+1) }∧bs2.map BV.B=zcF M.brs M.ls kind s∧Below base w w':=by
 obtain ⟨ba,bn,bc,bs,la,ln,lc,ls,sa0,sn,sc,ss⟩:=M;have he:∀x∈ls,zce (bs.map BV.B) x:=he;dsimp only at hs hsl hsm hso
 show Calls Tryz.prog 112 #[.pointer (some ⟨X,0,none⟩),.agg #[.int .i64 kind,.int .i64 (k:Int)]] w fun e w'=>e=.returned (.tuple #[])∧∃(bs2:List BV) (sa:Option Addr) (sn sc:Nat),NbSt w' base X ⟨ba,bn,bc,bs2,la,ln,lc,ls,sa,sn,sc,(ss.take k++ss.drop (k+1))⟩∧bs2.map BV.B=zcF (bs.map BV.B) ls kind s∧Below base w w'
 have hss:ss.length=sn:=h.own.row.s.size;have hk:k < sn:=by have:=(List.getElem?_eq_some_iff.1 hs).1; omega
 have hcap:sn≤sc:=h.own.row.s.le;have htop:=h.own.row.s.top;unfold maxLen at htop;dsimp only at htop;obtain ⟨g,hg⟩:∃g,sa0=some ⟨g,0,none⟩:=zbO h.own.s (show 0 < sn by omega);subst hg;have HE:=hide he;have HSM:=hide hsm;have HSO:=hide hso;have HSZ:=hide h.size;have HXL:Hid (X < w.heap.size):=hide (zcB h.box);clear he hsm hso;generalize hw1:w.alloc (Obj.cells #[.int .i64 kind,.int .i64 (k:Int)] 123)=w1;have b01:=zb hw1;have kE:=zk hw1;have HZ1:Hid (w1.heap.size=w.heap.size+1):=hide (by rw [← hw1]; simp);have st:=h.later b01;have HSC:Hid (∀W,Below w1.heap.size w1 W→zcc W g (k*7) (.int .i64 s.l)∧zcc W g (k*7+1) (.bool s.back)∧zcc W g (k*7+2) (.int .i64 s.v.r)∧zcc W g (k*7+3) (.int .i64 s.v.c)∧zcc W g (k*7+4) (.int .i64 s.v.h)∧zcc W g (k*7+5) (.int .i64 s.v.b)∧zcc W g (k*7+6) (.int .i64 s.v.p)):=hide (fun W hW=>by
  have h2:GRow sayF w1 (some ⟨g,0,none⟩) sn sc ss:=st.own.row.s
  have:=zbn h2 hW hs
  simpa using this)
 have i1:(0:Int)≤(k:Int):=by omega
 have i2:(k:Int) < (sn:Int):=by omega
 have i3:(k:Int)≤(sc:Int):=by omega
 have i4:(0:Int)≤(k:Int)+1:=by omega
 have i5:(k:Int)+1≤(sn:Int):=by omega
 have i6:IntKind.i64.wrap ((k:Int)+1)=(k:Int)+1:=by rw [IntKind.wrap_i64]; omega
 clear h hs;go_enter Tryz.func112,Tryz.ntmps112;go_upto_region 1 with fail
 go_cut [4] from 5 to 12 (fun v wx=>∃Y:Nat,v=.pointer (some ⟨Y,0,none⟩)∧NbSt wx base X ⟨ba,bn,bc,bs,la,ln,lc,ls,(some ⟨g,0,none⟩),sn,sc,ss⟩∧wx.heap[w.heap.size]? = some (.cells #[.int .i64 kind,.int .i64 (k:Int)] 123)∧wx.heap[Y]? = some (.cells #[.int .i64 s.l,.bool s.back,.int .i64 s.v.r,.int .i64 s.v.c,.int .i64 s.v.h,.int .i64 s.v.b,.int .i64 s.v.p] 74)∧w1.heap.size≤Y∧Below base w wx)
 case first =>
  have vv:Below w1.heap.size w1 w1.drew:=zr (Below.refl _ _);refine wp_region_held_drew (S:=(fun W=>(zcc W X 0 (.slice ba bn bc)∧zcc W X 1 (.slice la ln lc)∧zcc W X 2 (.slice (some ⟨g,0,none⟩) sn sc))∧(zcc W w.heap.size 0 (.int .i64 kind)∧zcc W w.heap.size 1 (.int .i64 (k:Int)))∧zcc W g (k*7) (.int .i64 s.l)∧zcc W g (k*7+1) (.bool s.back)∧zcc W g (k*7+2) (.int .i64 s.v.r)∧zcc W g (k*7+3) (.int .i64 s.v.c)∧zcc W g (k*7+4) (.int .i64 s.v.h)∧zcc W g (k*7+5) (.int .i64 s.v.b)∧zcc W g (k*7+6) (.int .i64 s.v.p))) (by kernel_rfl) (⟨zd (za st.box vv),zJ (za kE vv),HSC.out _ vv⟩) (fun hHeld => ?_);refine kK 0 ?_;refine kK 1 ?_;refine kK 2 ?_;refine kK 3 ?_;refine kK 4 ?_;refine kK 5 ?_;refine kK 6 ?_;refine kK 7 ?_;refine kR 8 fun K hK => ?_
  go_simp
  first
  | refine zaj (K:=K _) (fun wx kY hbx => ?_)
  | refine zab (K:=K _) (fun wx kY hbx => ?_)
  have gY:w1.heap.size≤_:=vv.size;have vv:=zc vv hbx;have vy:=vv;clear hbx;refine kO hK (⟨zd (za st.box vv),zJ (za kE vv),HSC.out _ vv⟩) fun hHeld => ?_
  clear hK K;refine kR 9 fun K hK => ?_
  obtain ⟨z0,z1,z2,z3,z4,z5,z6⟩:=zew kY;have f0:=zi kY 0;have f1:=zi kY 1;have f2:=zi kY 2;have f3:=zi kY 3;have f4:=zi kY 4;have f5:=zi kY 5;have f6:=zi kY 6;go_simp;refine zjE (K:=K _) kY _ _ _ _ _ _ _ (fun wq kS hgq => ?_);have vv:=vv.grown hgq vv.size (by intro j e; cases e; exact gY);refine kO hK (⟨zd (za st.box vv),zJ (za kE vv),HSC.out _ vv⟩) fun hHeld => ?_
  clear hK K;refine wpAnyH_done (by kernel_rfl) ?_ _;clear hHeld z0 z1 z2 z3 z4 z5 z6 f0 f1 f2 f3 f4 f5 f6 kY hgq vy;(go_wp2_with fail)
  go_meet
  exact ⟨_,rfl,st.later vv,za kE vv,kS,gY,(b01.mono HSZ.out).trans (vv.mono st.size)⟩
 case rest =>
  obtain ⟨Y,rfl,st2,kE2,kS2,hY2,hB2⟩:=hcut;obtain ⟨w2,hw2⟩:∃y,y=wc:=⟨_,rfl⟩;subst hw2;clear st kE b01 HSC hw1;have st:=st2;have HGS:Hid (∀W,Below w2.heap.size w2 W→GRow sayF W (some ⟨g,0,none⟩) sn sc ss):=hide (fun W hW=>GRow.below (F:=sayF) (show GRow sayF w2 (some ⟨g,0,none⟩) sn sc ss from st2.own.row.s) hW);have KE:=hide kE2;have KS:=hide kS2;have HB2:=hide hB2;have HYL:Hid (w.heap.size < Y):=hide (by have:=HZ1.out; omega);clear st2 kE2 kS2 hB2 hY2 HZ1;(go_upto_region 2 with fail)
  go_cut [4] from 13 to 33 (fun v wx=>v=.pointer (some ⟨Y,0,none⟩)∧∃(sa:Option Addr) (sn sc:Nat),NbSt wx base X ⟨ba,bn,bc,bs,la,ln,lc,ls,sa,sn,sc,(ss.take k++ss.drop (k+1))⟩∧wx.heap[w.heap.size]? = some (.cells #[.int .i64 kind,.int .i64 (k:Int)] 123)∧wx.heap[Y]? = some (.cells #[.int .i64 s.l,.bool s.back,.int .i64 s.v.r,.int .i64 s.v.c,.int .i64 s.v.h,.int .i64 s.v.b,.int .i64 s.v.p] 74)∧Below base w wx)
  case first =>
   have vv:Below w2.heap.size w2 w2.drew:=zr (Below.refl _ _);have x2:=(zd (za st.box vv)).2.2;have kE:=za KE.out vv;refine wp_region_held_drew (S:=(fun W=>(zcc W w.heap.size 0 (.int .i64 kind)∧zcc W w.heap.size 1 (.int .i64 (k:Int))))) (by kernel_rfl) (zJ kE) (fun hHeld => ?_)
   repeat' first
   |
    with_reducible refine kLa ?_
    first
    |
     refine kLf 0 ?_;refine kK 0 ?_
    |
     refine kLf 2 ?_;refine kK 2 ?_
    |
     refine kLf 3 ?_;refine kK 3 ?_
    |
     refine kLf 4 ?_;refine kK 4 ?_
    |
     refine kLf 6 ?_;refine kK 6 ?_
    |
     refine kLf 7 ?_;refine kK 7 ?_
    |
     refine kLf 10 ?_;refine kK 10 ?_
    |
     refine kLf 11 ?_;refine kK 11 ?_
    |
     refine kLf 12 ?_;refine kK 12 ?_
    |
     refine kLf 14 ?_;refine kK 14 ?_
    |
     refine kLf 15 ?_;refine kK 15 ?_
    |
     refine kLf 16 ?_;refine kK 16 ?_
    |
     refine kLf 8 ?_;refine kK 8 ?_
    |
     refine kLf 17 ?_;refine kK 17 ?_
    |
     refine kLf 19 ?_;refine kK 19 ?_
    |
     refine kLf 20 ?_;refine kK 20 ?_
    |
     refine kLp [1,5,13] ?_
    |
     refine kLp [5,13] ?_
    |
     refine kLp [9,13] ?_
    |
     refine kLp [13] ?_
    |
     refine kLp [18] ?_
    |
     refine kLp [21] ?_
    |
     refine kLp [9] ?_
    |
     refine kLp [5] ?_
    |
     refine kLp [1,13] ?_
    |
     refine kLp [1] ?_
    |
     refine kLp [1,5] ?_
    |
     refine wpAnyH_done (by kernel_rfl) ?_ _;have HST:=hide stN;have HKE:=hide kE;have HKS:=hide kS2;have HBN:=hide (HB2.out.trans hBN);clear hHeld x2 kE kS2 kX stN hBN fz hgX hR vv;(go_wp2_with fail)
     all_goals (go_meet; exact ⟨rfl,_,_,_,HST.out,HKE.out,HKS.out,HBN.out⟩)
   |
    exact AllReadyH.nil
   |
    refine kLc 1 (fun K hK => ?_) ?_;go_simp
    first
    | refine zaj (K:=K _) (fun wx kY hbx => ?_)
    | refine zab (K:=K _) (fun wx kY hbx => ?_)
    have hR:=zdW sayF (base:=w2.heap.size) kY (by have:=vv.size; first | exact this | exact Nat.le_refl _);have vv:=zc vv hbx;have x2:=(zd (za st.box vv)).2.2;have kE:=za KE.out vv;clear hbx kY;refine kO hK (zJ kE) fun hHeld => ?_
    clear hK K
   |
    refine kLc 5 (fun K hK => ?_) ?_;go_simp;refine kO hK (zJ kE) fun hHeld => ?_
    clear hK K
   |
    refine kLc 9 (fun K hK => ?_) ?_;refine zI (F:=sayF) rfl _ _ 29 74 rfl w2.heap.size Tryz.underlying29 zd1 rfl (by decide) _ 0 [] rfl hR _ k sc (ss.take k) rfl ((HGS.out _ vv).take (show k≤sn by omega)) (by omega) vv.size ?_;intro aR cR wx how _ hgr hbx;have hR:=how;have vv:=vv.trans hbx;have x2:=(zd (za st.box vv)).2.2;have kE:=za KE.out vv;clear how hgr hbx;simp only [Nat.zero_add,List.nil_append] at hR ⊢;refine kO hK (zJ kE) fun hHeld => ?_
    clear hK K
   |
    refine kLc 13 (fun K hK => ?_) ?_;go_simp;refine kO hK (zJ kE) fun hHeld => ?_
    clear hK K
   |
    refine kLc 18 (fun K hK => ?_) ?_;refine zI (F:=sayF) rfl _ _ 29 74 rfl w2.heap.size Tryz.underlying29 zd1 rfl (by decide) _ k (ss.take k) rfl hR _ (sn - (k+1)) (sc - (k+1)) (ss.drop (k+1)) rfl ((HGS.out _ vv).drop70 (show k+1≤sn by omega)) (by omega) vv.size ?_;intro aQ cQ wy how _ hgr hbx;have hR:=how;have vv:=vv.trans hbx;obtain ⟨kX,stN,hBN⟩:=st.saidNew vv (zL hR st.size);have x2:=(zd (za st.box vv)).2.2;have kE:=za KE.out vv;have fz:=zi kX 2;clear how hgr hbx;refine kO hK (zJ kE) fun hHeld => ?_
    clear hK K
   |
    refine kLc 21 (fun K hK => ?_) ?_;go_simp;have hgX:wy.grownBy (wy.setCell ⟨X,2,none⟩ (.slice aQ (k+(sn - (k+1))) cQ)) (some X):=zm 2 _;have kE:=ze kE hgX (by intro j e; cases e; have:=HXL.out; omega);have kS2:=ze (za KS.out vv) hgX (by intro j e; cases e; have:=HXL.out; have:=HYL.out; omega);refine kO hK (zJ kE) fun hHeld => ?_
    clear hK K
  case rest =>
   obtain ⟨rfl,sa2,sn2,sc2,st2,kE,kS,hB⟩:=hcut;obtain ⟨w3,hw3⟩:∃y,y=wc:=⟨_,rfl⟩;subst hw3;clear st HGS KE KS HB2 HYL;have st:=st2;clear st2;obtain ⟨sl,sb,sv⟩:=s;obtain ⟨l,hl⟩:∃l:Nat,sl=(l:Int):=⟨sl.toNat,by have:=HSO.out.1; simp at this; omega⟩;subst hl;obtain ⟨x,hx⟩:∃x,ls[l]? = some x:=⟨_,List.getElem?_eq_getElem (by have:=HSO.out.1; simp at this; omega)⟩;obtain ⟨hnab,u,v,hpa,hpb,-⟩:=HE.out x (List.mem_of_getElem? hx);dsimp only at kS;have vv:Below w3.heap.size w3 w3.drew:=zr (Below.refl _ _);(go_upto_region 3 with fail);by_cases hk2:kind=2
   ·subst hk2;refine wp_region_held_drew (S:=(fun W=>(zcc W X 0 (.slice ba bn bc)∧zcc W X 1 (.slice la ln lc)∧zcc W X 2 (.slice sa2 sn2 sc2))∧(zcc W w.heap.size 0 (.int .i64 2)∧zcc W w.heap.size 1 (.int .i64 (k:Int)))∧(zcc W Y 0 (.int .i64 (l:Int))∧zcc W Y 1 (.bool sb)∧zcc W Y 2 (.int .i64 sv.r)∧zcc W Y 3 (.int .i64 sv.c)∧zcc W Y 4 (.int .i64 sv.h)∧zcc W Y 5 (.int .i64 sv.b)∧zcc W Y 6 (.int .i64 sv.p)))) (by kernel_rfl) (⟨zd (za st.box vv),zJ (za kE vv),zew (za kS vv)⟩) (fun hHeld => ?_);refine kK 0 ?_;refine kK 1 ?_;refine kV 2 (.bool true) ?_;refine kV 3 (.bool true) ?_;refine kK 4 ?_;refine kK 5 ?_;refine kK 6 ?_;refine kK 7 ?_;refine kK 8 ?_;refine kR 9 fun K hK => ?_
    go_simp;refine (za8 ⟨ba,bn,bc,bs,la,ln,lc,ls,sa2,sn2,sc2,(ss.take k++ss.drop (k+1))⟩ (l:Int) _ (st.own.below vv).row).mono ?_;rintro e wz ⟨rfl,hbz⟩;have vv:=zc vv hbz;generalize hU:zaw _ _ _=U;have hU:zaw (bs.map BV.B) ls (l:Int)=U:=hU;(go_wp2_with fail);refine kO hK (⟨zd (za st.box vv),zJ (za kE vv),zew (za kS vv)⟩) fun hHeld => ?_
    clear hK K;refine kK 10 ?_;refine wpAnyH_done (by kernel_rfl) ?_ _;cases U
    ·have HST:=hide (st.later vv);have HB:=hide (hB.trans (vv.mono st.size));have HNO:Hid (bs.map BV.B=zcF (bs.map BV.B) ls 2 ⟨(l:Int),sb,sv⟩):=hide (by unfold zcF; rw [if_neg (by intro hc; rw [hU] at hc; cases hc.2)]);clear st vv hB;go_wp2;refine bodyPost_end (v:=.tuple #[]) (by simp [results,Tryz.results112,go_sem, *]) rfl ?_
     first | exact ⟨rfl,bs,sa2,sn2,sc2,HST.out,HNO.out,HB.out⟩ | exact ⟨rfl,bs,⟨sa2,sn2,sc2,HST.out⟩,HNO.out,HB.out⟩
    ·cases sb
     ·obtain ⟨i,y,hi,hy⟩:=zbD hpb;have HS:Hid (∀y2:BV,y2.B=hearB y.B x.q sv→(bs.set i y2).map BV.B=zcF (bs.map BV.B) ls 2 ⟨(l:Int),false,sv⟩):=hide (fun y2 hy2=>by
       unfold zcF zh1;rw [if_pos ⟨rfl,hU⟩];simp only [Int.toNat_natCast,hx,if_false,Bool.false_eq_true];rw [hi];exact zds (f:=fun B=>hearB B x.q sv) hy hy2)
      obtain ⟨x0,x1,x2⟩:=zd (za st.box vv);obtain ⟨s0,s1,s2,s3,s4,s5,s6⟩:=zew (za kS vv);have HL:=hide hx;have HYM:=hide (HSM.out y (List.mem_of_getElem? hy));have HYI:=hide hy;have HI:=hide hi;clear hHeld hx hy hi hU hpa hpb hnab;(go_wp2_with fail);refine (ziH ⟨ba,bn,bc,bs,la,ln,lc,ls,sa2,sn2,sc2,(ss.take k++ss.drop (k+1))⟩ base X l i x y sv _ (st.later vv) HL.out HYI.out HI.out HYM.out).mono ?_;rintro e w4 ⟨rfl,y2,hy2,st4,b4⟩;have HST:=hide st4;have HY2:=hide (HS.out y2 hy2);have HB:=hide ((hB.trans (vv.mono st.size)).trans b4);clear st vv hB st4 b4 hy2 x0 x1 x2 s0 s1 s2 s3 s4 s5 s6;go_wp2;refine bodyPost_end (v:=.tuple #[]) (by simp [results,Tryz.results112,go_sem, *]) rfl ?_
      first | exact ⟨rfl,bs.set i y2,sa2,sn2,sc2,HST.out,HY2.out,HB.out⟩ | exact ⟨rfl,bs.set i y2,⟨sa2,sn2,sc2,HST.out⟩,HY2.out,HB.out⟩
     ·obtain ⟨i,y,hi,hy⟩:=zbD hpa;have HS:Hid (∀y2:BV,y2.B=hearB y.B x.p sv→(bs.set i y2).map BV.B=zcF (bs.map BV.B) ls 2 ⟨(l:Int),true,sv⟩):=hide (fun y2 hy2=>by
       unfold zcF zh1;rw [if_pos ⟨rfl,hU⟩];simp only [Int.toNat_natCast,hx,if_true];rw [hi];exact zds (f:=fun B=>hearB B x.p sv) hy hy2)
      obtain ⟨x0,x1,x2⟩:=zd (za st.box vv);obtain ⟨s0,s1,s2,s3,s4,s5,s6⟩:=zew (za kS vv);have HL:=hide hx;have HYM:=hide (HSM.out y (List.mem_of_getElem? hy));have HYI:=hide hy;have HI:=hide hi;clear hHeld hx hy hi hU hpa hpb hnab;(go_wp2_with fail);refine (zhl ⟨ba,bn,bc,bs,la,ln,lc,ls,sa2,sn2,sc2,(ss.take k++ss.drop (k+1))⟩ base X l i x y sv _ (st.later vv) HL.out HYI.out HI.out HYM.out).mono ?_;rintro e w4 ⟨rfl,y2,hy2,st4,b4⟩;have HST:=hide st4;have HY2:=hide (HS.out y2 hy2);have HB:=hide ((hB.trans (vv.mono st.size)).trans b4);clear st vv hB st4 b4 hy2 x0 x1 x2 s0 s1 s2 s3 s4 s5 s6;go_wp2;refine bodyPost_end (v:=.tuple #[]) (by simp [results,Tryz.results112,go_sem, *]) rfl ?_
      first | exact ⟨rfl,bs.set i y2,sa2,sn2,sc2,HST.out,HY2.out,HB.out⟩ | exact ⟨rfl,bs.set i y2,⟨sa2,sn2,sc2,HST.out⟩,HY2.out,HB.out⟩
   ·have e2:(kind == 2)=false:=by simpa using hk2
    refine wp_region_held_drew (S:=(fun W=>(zcc W X 0 (.slice ba bn bc)∧zcc W X 1 (.slice la ln lc)∧zcc W X 2 (.slice sa2 sn2 sc2))∧(zcc W w.heap.size 0 (.int .i64 kind)∧zcc W w.heap.size 1 (.int .i64 (k:Int)))∧(zcc W Y 0 (.int .i64 (l:Int))∧zcc W Y 1 (.bool sb)∧zcc W Y 2 (.int .i64 sv.r)∧zcc W Y 3 (.int .i64 sv.c)∧zcc W Y 4 (.int .i64 sv.h)∧zcc W Y 5 (.int .i64 sv.b)∧zcc W Y 6 (.int .i64 sv.p)))) (by kernel_rfl) (⟨zd (za st.box vv),zJ (za kE vv),zew (za kS vv)⟩) (fun hHeld => ?_);refine kK 0 ?_;refine kK 1 ?_;refine kV 2 (.bool false) ?_;refine kV 3 (.bool false) ?_;refine kN 4 ?_;refine kN 5 ?_;refine kN 6 ?_;refine kN 7 ?_;refine kN 8 ?_;refine kN 9 ?_;refine kK 10 ?_;refine wpAnyH_done (by kernel_rfl) ?_ _;have HST:=hide (st.later vv);have HB:=hide (hB.trans (vv.mono st.size));have HNO:Hid (bs.map BV.B=zcF (bs.map BV.B) ls kind ⟨(l:Int),sb,sv⟩):=hide (by unfold zcF; rw [if_neg (by intro hc; exact hk2 hc.1)]);clear st vv hB;go_wp2;refine bodyPost_end (v:=.tuple #[]) (by simp [results,Tryz.results112,go_sem, *]) rfl ?_
    first | exact ⟨rfl,bs,sa2,sn2,sc2,HST.out,HNO.out,HB.out⟩ | exact ⟨rfl,bs,⟨sa2,sn2,sc2,HST.out⟩,HNO.out,HB.out⟩

def BR.Sm (B:BR):Prop:=B.ports.length≤1048576∧B.f.length≤1048576∧B.v.rows.length≤1048576∧B.v.own.length≤1048576
theorem zlT {V B:BR} (h:lessB V B) (hB:B.Sm):V.Sm:=by
 obtain ⟨h1,h2,h3⟩:=h;obtain ⟨s1,s2,s3,s4⟩:=hB;exact ⟨by omega,by omega,by rw [h3]; exact s3,by rw [h3]; exact s4⟩
theorem zgc {w:World} {N:NV} (h:zas w N) (hs:∀B∈N.brs,B.Sm):∀y∈N.bs,y.Small20:=by
 intro y hy;have r:=h.item y hy;have s:=hs y.B (by unfold NV.brs; exact List.mem_map_of_mem hy);have q1:=r.ports.size;have q2:=r.f.size;have q3:=r.v.rows.size;have q4:=r.v.own.size;obtain ⟨s1,s2,s3,s4⟩:=s;exact ⟨by omega,by omega,by omega,by omega⟩
theorem zlV {w:World} {N:NV} (h:zas w N) (hs:∀y∈N.bs,y.Small20):∀B∈N.brs,B.Sm:=by
 intro B hB;obtain ⟨y,hy,rfl⟩:=List.mem_map.1 hB;have r:=h.item y hy;have q1:=r.ports.size;have q2:=r.f.size;have q3:=r.v.rows.size;have q4:=r.v.own.size;obtain ⟨s1,s2,s3,s4⟩:=hs y hy;exact ⟨by omega,by omega,by omega,by omega⟩
theorem zj1 {l:List BV} (h:∀y∈l,y.Small20):∀x∈l,x.n≤16777216∧x.fn≤16777216∧x.rn≤16777216∧x.on≤16777216:=by
 intro x hx;obtain ⟨h1,h2,h3,h4⟩:=h x hx;exact ⟨by omega,by omega,by omega,by omega⟩

theorem zZ {w w':World} {base i:Nat} {o:Obj} (h:w.heap[i]? = some o) (hb:Below base w w') (hi:i < base):w'.heap[i]? = some o:=by rw [hb.block i hi]; exact h

theorem NOwn.out {W:World} {base:Nat} {M:NV} (h:NOwn W base M) {R:Nat} {cs:Array Value} (hR:W.heap[R]? = some (.cells cs 31)):NOwn (((W.setCell ⟨R,0,none⟩ (.slice M.ba M.bn M.bc)).setCell ⟨R,1,none⟩ (.slice M.la M.ln M.lc)).setCell ⟨R,2,none⟩ (.slice M.sa M.sn M.sc)) base M :=
 h.boxed hR (zM (zM (zm (rb:=R) 0 _) (zm 1 _)) (zm 2 _))
theorem zay {B:Nat} {w W:World} (h:Below B w W) {R:Nat} (hR:B≤R) (v0 v1 v2:Value):Below B w (((W.setCell ⟨R,0,none⟩ v0).setCell ⟨R,1,none⟩ v1).setCell ⟨R,2,none⟩ v2) :=
 zj (zj (zj h hR 0 v0) hR 1 v1) hR 2 v2

theorem NV.Same.brs {N M:NV} (h:N.Same M):N.brs=M.brs:=h.b

def zaS (bs:List BR) (ls:List LK) (ss:List SY) (kd:Int):Nat:=if kd=1∨kd=6 then bs.length else if kd=2∨kd=3 then ss.length else if kd=4∨kd=5 then ls.length else 0
def zbs (bs:List BR) (ls:List LK) (ss:List SY) (kd a:Int):Prop:=0≤a∧a < (zaS bs ls ss kd:Int)
def zcO (bs:List BR) (ls:List LK) (k:Nat) (up:Bool):List BR:=if zaw bs ls (k:Int)=up then bs else match ls[k]? with
 | some x=>atSet (atSet bs x.a.toNat (fun B=>linkB B x.p up)) x.b.toNat (fun B=>linkB B x.q up)
 | none=>bs
def zeD (bs:List BR) (ls:List LK) (ss:List SY) (kd:Int) (k:Nat):List BR:=match ss[k]? with
 | some s=>zcF bs ls kd s
 | none=>bs
def stepB (bs:List BR) (ls:List LK) (ss:List SY) (kd a:Int):List BR:=if kd=6 then atSet bs a.toNat tickB else if kd=2∨kd=3 then zeD bs ls ss kd a.toNat else if kd=4∨kd=5 then zcO bs ls a.toNat (decide (kd=5)) else bs
def stepS (bs:List BR) (ls:List LK) (ss:List SY) (kd a:Int):List SY:=if kd=1 then sayTo bs ls a ss ls.length else if kd=2∨kd=3 then ss.take a.toNat++ss.drop (a.toNat+1) else ss

structure StepR (a:List BR × List LK × List SY) (kd i:Int) (b:List BR × List LK × List SY) (q:Bool):Prop where
 l:b.2.1=a.2.1
 yes:NetOk a.1 a.2.1 a.2.2→zbs a.1 a.2.1 a.2.2 kd i→q=true∧b.1=stepB a.1 a.2.1 a.2.2 kd i∧b.2.2=stepS a.1 a.2.1 a.2.2 kd i
 no:¬(NetOk a.1 a.2.1 a.2.2∧zbs a.1 a.2.1 a.2.2 kd i)→q=false∧b.1=a.1∧b.2.2=a.2.2

def zbd (N:NV) (kd i:Int) (M:NV) (q:Bool):Prop:=StepR (N.brs,N.ls,N.ss) kd i (M.brs,M.ls,M.ss) q

theorem zcU {N M:NV} {kd i:Int} (hS:M.Same N) (h:¬(NetOk N.brs N.ls N.ss∧zbs N.brs N.ls N.ss kd i)):zbd N kd i M false :=
 ⟨hS.l,fun h1 h2=>absurd ⟨h1,h2⟩ h,fun _=>⟨rfl,hS.b,hS.s⟩⟩
theorem zb9 {N M:NV} {kd i:Int} (hl:M.ls=N.ls) (ho:NetOk N.brs N.ls N.ss) (ht:zbs N.brs N.ls N.ss kd i) (hb:M.brs=stepB N.brs N.ls N.ss kd i) (hs:M.ss=stepS N.brs N.ls N.ss kd i):zbd N kd i M true :=
 ⟨hl,fun _ _=>⟨rfl,hb,hs⟩,fun hc=>absurd ⟨ho,ht⟩ hc⟩

structure zd4 (ls:List LK) (U:Int→Int→Option Bool) (k:Nat) (B B':BR):Prop where
 id:B'.id=B.id
 ok:zz B'=true
 len:B'.ports.length=B.ports.length
 port:∀(p:Nat) (x':PT),B'.ports[p]? = some x'→∃x,B.ports[p]? = some x∧x'.up=(U (k:Int) (p:Int)).getD x.up∧(x'.has=true→x.has=true∨usedL ls (k:Int) (p:Int)≠0)
structure Kept (ls:List LK) (U:Int→Int→Option Bool) (bs bs':List BR):Prop where
 len:bs'.length=bs.length
 at':∀(k:Nat) (B':BR),bs'[k]? = some B'→∃B,bs[k]? = some B∧zd4 ls U k B B'

def noU:Int→Int→Option Bool:=fun _ _=>none
def atU (a p:Int) (up:Bool):Int→Int→Option Bool:=fun b q=>if b=a∧q=p then some up else none
def orU (U V:Int→Int→Option Bool):Int→Int→Option Bool:=fun b q=>(V b q).orElse (fun _=>U b q)

theorem zcq {ls:List LK} {k:Nat} {B:BR} (h:zz B=true):zd4 ls noU k B B:=⟨rfl,h,rfl,fun _ x' hx=>⟨x',hx,rfl,.inl⟩⟩
theorem zlM {ls:List LK} {bs:List BR} (h:∀B∈bs,zz B=true):Kept ls noU bs bs:=⟨rfl,fun _ B hB=>⟨B,hB,zcq (h B (List.mem_of_getElem? hB))⟩⟩
theorem Kept.trans {ls:List LK} {U V:Int→Int→Option Bool} {a b c:List BR} (h:Kept ls U a b) (g:Kept ls V b c):Kept ls (orU U V) a c where
 len:=g.len.trans h.len
 at':=fun k B'' h2=>by
  obtain ⟨B',h1,g1⟩:=g.at' k B'' h2;obtain ⟨B,h0,g0⟩:=h.at' k B' h1;refine ⟨B,h0,g1.id.trans g0.id,g1.ok,g1.len.trans g0.len,fun p x'' hx'' => ?_⟩;obtain ⟨x',hx',e1,u1⟩:=g1.port p x'' hx'';obtain ⟨x,hx,e0,u0⟩:=g0.port p x' hx';refine ⟨x,hx, ?_,fun hh=>(u1 hh).elim u0 .inr⟩;rw [e1,e0];unfold orU;cases V (k:Int) (p:Int) <;> rfl
theorem orU_no:orU noU noU=noU:=rfl

theorem zgS {ls:List LK} {U:Int→Int→Option Bool} {bs bs':List BR} (h:Kept ls U bs bs') {b p:Int} {u:PT} (hu:zak bs b p=some u):∃u',zak bs' b p=some u'∧u'.up=(U b p).getD u.up:=by
 unfold zak at hu
 split at hu
 ·next hb =>
  cases hB:bs[b.toNat]? with
  | none=>rw [hB] at hu; cases hu
  | some B =>
   rw [hB] at hu;have hu:B.ports[p.toNat]? = some u:=hu;have hk:b.toNat < bs'.length:=by rw [h.len]; exact (List.getElem?_eq_some_iff.1 hB).1
   obtain ⟨B0,hB0,g⟩:=h.at' b.toNat _ (List.getElem?_eq_getElem hk);rw [hB] at hB0;cases hB0;have hp:p.toNat < (bs'[b.toNat]).ports.length:=by rw [g.len]; exact (List.getElem?_eq_some_iff.1 hu).1
   obtain ⟨x,hx,e,-⟩:=g.port p.toNat _ (List.getElem?_eq_getElem hp);rw [hu] at hx;cases hx;refine ⟨(bs'[b.toNat]).ports[p.toNat], ?_, ?_⟩;rotate_left
   ·rw [show ((b.toNat:Nat):Int)=b by omega,show ((p.toNat:Nat):Int)=p by omega] at e;exact e
   ·unfold zak;rw [if_pos hb,List.getElem?_eq_getElem hk];exact List.getElem?_eq_getElem hp
 ·cases hu

theorem zdF {ls:List LK} {U:Int→Int→Option Bool} {bs bs':List BR} {ss ss':List SY} (hU:∀y∈ls,U y.a y.p=U y.b y.q) (h:NetOk bs ls ss) (hk:Kept ls U bs bs') (hs:zcH ls ss'):NetOk bs' ls ss':=by
 obtain ⟨⟨h1,h2,h3,h4⟩,⟨l1,l2⟩,q,-⟩:=h;refine ⟨⟨fun x hx => ?_,fun i j x y hij hx hy => ?_,by rw [hk.len]; exact h3,by rw [hk.len]; exact h4⟩,⟨l1,fun x hx => ?_⟩,fun i B' hB' p x' hx' hh => ?_,hs⟩
 ·obtain ⟨k,hk2,rfl⟩:=List.mem_iff_getElem.1 hx;obtain ⟨B,-,g⟩:=hk.at' k _ (List.getElem?_eq_getElem hk2);exact g.ok
 ·obtain ⟨B,hB,g⟩:=hk.at' i x hx;obtain ⟨D,hD,g'⟩:=hk.at' j y hy;rw [g.id,g'.id];exact h2 i j B D hij hB hD
 ·obtain ⟨⟨hne,u,v,hu,hv,huv⟩,hc⟩:=l2 x hx;obtain ⟨u',hu',eu⟩:=zgS hk hu;obtain ⟨v',hv',ev⟩:=zgS hk hv;exact ⟨⟨hne,u',v',hu',hv',by rw [eu,ev,hU x hx,huv]⟩,hc⟩
 ·obtain ⟨B,hB,g⟩:=hk.at' i B' hB';obtain ⟨x,hx,-,hu⟩:=g.port p x' hx';rcases hu hh with h5 | h5
  ·exact q i B hB p x hx h5
  ·exact h5

theorem zbR {ls:List LK} {U:Int→Int→Option Bool} {bs:List BR} (h:∀B∈bs,zz B=true) {i:Nat} {f:BR→BR} (hn:∀k:Nat,k≠i→∀p,U (k:Int) p=none) (hf:∀B,bs[i]? = some B→zd4 ls U i B (f B)):Kept ls U bs (atSet bs i f):=by
 have base:∀(k:Nat) (B:BR),bs[k]? = some B→k≠i→zd4 ls U k B B:=fun k B hB hk=>⟨rfl,h B (List.mem_of_getElem? hB),rfl,fun p x hx=>⟨x,hx,by rw [hn k hk]; rfl,.inl⟩⟩
 unfold atSet
 split
 ·next B hB =>
  refine ⟨by simp,fun k B' hB' => ?_⟩;rw [List.getElem?_set] at hB'
  split at hB'
  ·next e =>
   subst e
   split at hB'
   ·cases hB';exact ⟨B,hB,hf B hB⟩
   ·cases hB'
  ·next e=>exact ⟨B',hB',base k B' hB' (fun h=>e h.symm)⟩
 ·next hB =>
  refine ⟨rfl,fun k B' hB'=>⟨B',hB',base k B' hB' (fun e => ?_)⟩⟩;subst e;rw [hB] at hB';cases hB'

theorem zeL {ls:List LK} {i:Nat} {B:BR} (h:zz B=true) (p:Int) (v:VD) (hu:usedL ls (i:Int) p≠0):zd4 ls noU i B (hearB B p v):=by
 have h0:=zkv h p v;unfold hearB at *
 split
 ·next ht =>
  have hp:0≤p:=by
   unfold za9 at ht;simp only [Bool.and_eq_true,decide_eq_true_eq] at ht;exact ht.2.1
  split
  ·next x hx =>
   split
   ·next hc =>
    rw [if_pos ht,hx] at h0;dsimp only at h0;rw [if_pos hc] at h0;refine ⟨rfl,h0,by simp [turned],fun q x' hx' => ?_⟩;have hy':(B.ports.set p.toNat ⟨x.up,x.k,true,v⟩)[q]? = some x':=hx';rw [List.getElem?_set] at hy'
    split at hy'
    ·next e =>
     subst e;have e2:(⟨x.up,x.k,true,v⟩:PT)=x':=by simpa [(List.getElem?_eq_some_iff.1 hx).1] using hy'
     subst e2;exact ⟨x,hx,rfl,fun _=>.inr (by rw [show ((p.toNat:Nat):Int)=p by omega]; exact hu)⟩
    ·exact ⟨x',hy',rfl,.inl⟩
   ·exact zcq h
  ·exact zcq h
 ·exact zcq h

theorem zht {ls:List LK} {i:Nat} {B:BR} (h:zz B=true):zd4 ls noU i B (tickB B):=by
 have h0:=zkT h;unfold tickB at *;rw [if_pos h] at *;exact ⟨rfl,h0,rfl,fun q x' hx'=>⟨x',hx',rfl,.inl⟩⟩

theorem zeM {ls:List LK} {i:Nat} {B:BR} (h:zz B=true) (j:Nat) (up:Bool) (hj:j < B.ports.length):zd4 ls (atU (i:Int) (j:Int) up) i B (linkB B (j:Int) up):=by
 have h0:=zh4 h (j:Int) up;have ht:za9 B (j:Int)=true:=by
  unfold za9;rw [h,decide_eq_true (show (0:Int)≤j by omega),decide_eq_true (show (j:Int)≤(B.ports.length:Int) - 1 by omega)]
  rfl
 unfold linkB at *;rw [if_pos ht,Int.toNat_natCast,List.getElem?_eq_getElem hj] at *;dsimp only at *;refine ⟨rfl,h0,by simp [turned],fun q x' hx' => ?_⟩;have hy':(B.ports.set j ⟨up,(B.ports[j]).k,false,⟨0,0,0,0,0⟩⟩)[q]? = some x':=hx';rw [List.getElem?_set] at hy'
 split at hy'
 ·next e =>
  subst e;have e2:(⟨up,(B.ports[j]).k,false,⟨0,0,0,0,0⟩⟩:PT)=x':=by simpa [hj] using hy'
  subst e2;exact ⟨_,List.getElem?_eq_getElem hj,by unfold atU; rw [if_pos ⟨rfl,rfl⟩]; rfl,fun e=>by cases e⟩
 ·next e =>
  refine ⟨x',hy', ?_,.inl⟩;unfold atU;rw [if_neg (fun hc=>e (by omega))]
  rfl

theorem zk8 {B:BR} (h:zz B=true) (p:Int) (hp:0≤p∧p≤7):okVd (sayV B.id B.ports p)=true:=by
 have hid:=(zad h).2.1;have hid:1≤B.id∧B.id≤99:=by unfold in3 at hid; simpa using hid
 unfold okVd sayV okVc;simp only [Bool.and_eq_true,decide_eq_true_eq];cases hb:zS B.id B.ports with
 | none=>exact ⟨hid,⟨by simp [bestV],by simp [bestV]⟩,⟨by simp [bestV],by simp [bestV]⟩,hid,hp⟩
 | some fj =>
  obtain ⟨f,j⟩:=fj;obtain ⟨x,-,ho,rfl⟩:=zfP hb;obtain ⟨-,-,hs,-⟩:=zgN ho;unfold zdi zbh at hs;simp only [Bool.and_eq_true,decide_eq_true_eq,okVc] at hs;simp only [bestV,stepV];omega

theorem za0 {bs:List BR} {b p:Int} {u:PT} (h:zak bs b p=some u):∃(i j:Nat) (B:BR),b=(i:Int)∧p=(j:Int)∧bs[i]? = some B∧B.ports[j]? = some u:=by
 unfold zak at h
 split at h
 ·next hb =>
  cases hB:bs[b.toNat]? with
  | none=>rw [hB] at h; cases h
  | some B =>
   rw [hB] at h;exact ⟨b.toNat,p.toNat,B,by omega,by omega,hB,h⟩
 ·cases h

theorem zjX {bs:List BR} {ls:List LK} {ss:List SY} (h:NetOk bs ls ss) (b:Int):∀k,k≤ls.length→zcH ls (sayTo bs ls b ss k)
 | 0,_=>h.2.2.2
 | k+1,hk=>by
  have ih:=zjX h b k (by omega)
  show zcH ls (zbJ bs ls b (sayTo bs ls b ss k) k)
  unfold zbJ
  split
  ·next x hx =>
   split
   ·next hc =>
    obtain ⟨⟨hne,u,v,hu,hv,-⟩,-⟩:=h.2.1.2 x (List.mem_of_getElem? hx);obtain ⟨i,j,A,ea,ep,hA,hpA⟩:=za0 hu;obtain ⟨i2,j2,D,eb,eq,hD,hpD⟩:=za0 hv;have okA:=h.1.1 A (List.mem_of_getElem? hA);have okD:=h.1.1 D (List.mem_of_getElem? hD);have lA:=(zad okA).2.2.2.1;have lD:=(zad okD).2.2.2.1;have lA:(A.ports.length:Int)≤6:=by unfold in3 at lA; simp at lA; omega
    have lD:(D.ports.length:Int)≤6:=by unfold in3 at lD; simp at lD; omega
    have jA:=(List.getElem?_eq_some_iff.1 hpA).1;have jD:=(List.getElem?_eq_some_iff.1 hpD).1;have add:∀(back:Bool) (vv:VD),okVd vv=true→zcH ls (sayTo bs ls b ss k++[⟨(k:Int),back,vv⟩]):=fun back vv hvv=>by
     refine ⟨by rw [List.length_append]; simp; omega,fun s hs => ?_⟩;rcases List.mem_append.1 hs with h1 | h1
     ·exact ih.2 s h1
     ·simp at h1
      rw [h1];exact ⟨by simp; omega,hvv⟩
    split
    ·refine add _ _ ?_;unfold sayAt;rw [ea,Int.toNat_natCast,hA];exact zk8 okA _ (by omega)
    ·split
     ·refine add _ _ ?_;unfold sayAt;rw [eb,Int.toNat_natCast,hD];exact zk8 okD _ (by omega)
     ·exact ih
   ·exact ih
  ·exact ih

theorem zj6 {ls:List LK} {x:LK} (h:x∈ls):usedL ls x.a x.p≠0∧usedL ls x.b x.q≠0:=by
 unfold usedL;obtain ⟨h1,h2⟩:=zdy h;exact ⟨by have:=List.count_pos_iff.2 h1; omega,by have:=List.count_pos_iff.2 h2; omega⟩

theorem zbQ {ls:List LK} (h:(endsL ls).Nodup) {x y:LK} (hx:x∈ls) (hy:y∈ls) (he:(y.a,y.p)=(x.a,x.p)∨(y.a,y.p)=(x.b,x.q)∨(y.b,y.q)=(x.a,x.p)∨(y.b,y.q)=(x.b,x.q)):y=x:=by
 induction ls with
 | nil=>cases hx
 | cons z l ih =>
  rw [zdx] at h;obtain ⟨h1,h2⟩:=List.nodup_cons.1 h;obtain ⟨h3,h4⟩:=List.nodup_cons.1 h2;rcases List.mem_cons.1 hx with ex | hx1 <;> rcases List.mem_cons.1 hy with ey | hy1
  ·rw [ex,ey]
  ·exfalso
   subst ex;obtain ⟨m1,m2⟩:=zdy hy1;rcases he with e | e | e | e
   ·exact h1 (List.mem_cons_of_mem _ (e▸m1))
   ·exact h3 (e▸m1)
   ·exact h1 (List.mem_cons_of_mem _ (e▸m2))
   ·exact h3 (e▸m2)
  ·exfalso
   subst ey;obtain ⟨m1,m2⟩:=zdy hx1;rcases he with e | e | e | e
   ·exact h1 (List.mem_cons_of_mem _ (e▸m1))
   ·exact h1 (List.mem_cons_of_mem _ (e▸m2))
   ·exact h3 (e▸m1)
   ·exact h3 (e▸m2)
  ·exact ih h4 hx1 hy1

theorem ziP {bs:List BR} {ls:List LK} {ss:List SY} (h:NetOk bs ls ss) (k:Nat) (up:Bool):NetOk (zcO bs ls k up) ls ss:=by
 unfold zcO
 split
 ·exact h
 ·split
  ·next x hx =>
   have hxm:=List.mem_of_getElem? hx;have hnd:=((zbF bs ls).1 h.2.1).2.2;obtain ⟨⟨hne,u,v,hu,hv,-⟩,-⟩:=h.2.1.2 x hxm;obtain ⟨i,j,A,ea,ep,hA,hpA⟩:=za0 hu;obtain ⟨i2,j2,D,eb,eq,hD,hpD⟩:=za0 hv;have hij:i2≠i:=fun e=>hne (by rw [ea,eb,e])
   have k1:Kept ls (atU x.a x.p up) bs (atSet bs x.a.toNat (fun B=>linkB B x.p up)):=by
    rw [ea,ep,Int.toNat_natCast];refine zbR h.1.1 (fun m hm p=>by unfold atU; rw [if_neg (fun hc=>hm (by omega))]) (fun B hB => ?_);rw [hA] at hB;cases hB;exact zeM (h.1.1 A (List.mem_of_getElem? hA)) j up (List.getElem?_eq_some_iff.1 hpA).1
   have ok1:∀B∈atSet bs x.a.toNat (fun B=>linkB B x.p up),zz B=true:=fun B hB=>by
    obtain ⟨m,hm,rfl⟩:=List.mem_iff_getElem.1 hB;obtain ⟨_,_,g⟩:=k1.at' m _ (List.getElem?_eq_getElem hm);exact g.ok
   have k2:Kept ls (atU x.b x.q up) (atSet bs x.a.toNat (fun B=>linkB B x.p up)) (atSet (atSet bs x.a.toNat (fun B=>linkB B x.p up)) x.b.toNat (fun B=>linkB B x.q up)):=by
    have hD2:(atSet bs x.a.toNat (fun B=>linkB B x.p up))[i2]? = some D:=by
     unfold atSet
     split
     ·rw [ea,Int.toNat_natCast,List.getElem?_set_ne (fun e=>hij e.symm)]; exact hD
     ·exact hD
    rw [eb,eq,Int.toNat_natCast];refine zbR ok1 (fun m hm p=>by unfold atU; rw [if_neg (fun hc=>hm (by omega))]) (fun B hB => ?_);rw [hD2] at hB;cases hB;exact zeM (h.1.1 D (List.mem_of_getElem? hD)) j2 up (List.getElem?_eq_some_iff.1 hpD).1
   refine zdF (fun y hy => ?_) h (k1.trans k2) h.2.2.2;unfold orU atU;by_cases e:y=x
   ·rw [e]
    simp [hne]
   ·rw [if_neg (fun hc=>e (zbQ hnd hxm hy (.inr (.inl (by rw [hc.1,hc.2]))))),if_neg (fun hc=>e (zbQ hnd hxm hy (.inl (by rw [hc.1,hc.2])))),if_neg (fun hc=>e (zbQ hnd hxm hy (.inr (.inr (.inr (by rw [hc.1,hc.2])))))),if_neg (fun hc=>e (zbQ hnd hxm hy (.inr (.inr (.inl (by rw [hc.1,hc.2]))))))]
  ·exact h

theorem ziI {bs:List BR} {ls:List LK} {ss:List SY} (h:NetOk bs ls ss) (kd:Int) (k:Nat):NetOk (zeD bs ls ss kd k) ls ss:=by
 unfold zeD
 split
 ·unfold zcF
  split
  ·unfold zh1
   split
   ·next s hs hc x hx =>
    have hu:=zj6 (List.mem_of_getElem? hx);obtain ⟨⟨hne,u,v,hpu,hpv,-⟩,-⟩:=h.2.1.2 x (List.mem_of_getElem? hx);obtain ⟨i,j,A,ea,ep,hA,hpA⟩:=za0 hpu;obtain ⟨i2,j2,D,eb,eq,hD,hpD⟩:=za0 hpv
    split
    ·refine zdF (U:=noU) (fun _ _=>rfl) h (zbR h.1.1 (fun _ _ _=>rfl) (fun B hB => ?_)) h.2.2.2;exact zeL (h.1.1 B (List.mem_of_getElem? hB)) _ _ (by rw [show ((x.a.toNat:Nat):Int)=x.a by omega]; exact hu.1)
    ·refine zdF (U:=noU) (fun _ _=>rfl) h (zbR h.1.1 (fun _ _ _=>rfl) (fun B hB => ?_)) h.2.2.2;exact zeL (h.1.1 B (List.mem_of_getElem? hB)) _ _ (by rw [show ((x.b.toNat:Nat):Int)=x.b by omega]; exact hu.2)
   ·exact h
  ·exact h
 ·exact h

theorem zi2 {bs:List BR} {ls:List LK} {ss:List SY} (h:NetOk bs ls ss) (kd a:Int):NetOk (stepB bs ls ss kd a) ls (stepS bs ls ss kd a):=by
 have hS:zcH ls (stepS bs ls ss kd a):=by
  unfold stepS
  split
  ·exact zjX h a ls.length (Nat.le_refl _)
  ·split
   ·refine ⟨?_,fun s hs=>h.2.2.2.2 s ?_⟩
    ·have h1:=h.2.2.2.1;simp only [List.length_append,List.length_take,List.length_drop];omega
    ·rcases List.mem_append.1 hs with h1 | h1
     ·exact List.mem_of_mem_take h1
     ·exact List.mem_of_mem_drop h1
   ·exact h.2.2.2
 have hB:NetOk (stepB bs ls ss kd a) ls ss:=by
  unfold stepB
  split
  ·exact zdF (U:=noU) (fun _ _=>rfl) h (zbR h.1.1 (fun _ _ _=>rfl) (fun B hB=>zht (h.1.1 B (List.mem_of_getElem? hB)))) h.2.2.2
  ·split
   ·exact ziI h kd a.toNat
   ·split
    ·exact ziP h a.toNat _
    ·exact h
 exact ⟨hB.1,hB.2.1,hB.2.2.1,hS⟩

theorem zkS {a b:List BR × List LK × List SY} {kd i:Int} {q:Bool} (h:StepR a kd i b q) (ha:NetOk a.1 a.2.1 a.2.2):NetOk b.1 b.2.1 b.2.2:=by
 by_cases ht:zbs a.1 a.2.1 a.2.2 kd i
 ·obtain ⟨-,e1,e2⟩:=h.yes ha ht;rw [e1,h.l,e2];exact zi2 ha kd i
 ·obtain ⟨-,e1,e2⟩:=h.no (fun hc=>ht hc.2);rw [e1,h.l,e2];exact ha

theorem zjv (s:Int):∀(n i:Nat),i < n→(idsTo s n)[i]? = some (1+(s+(i:Int)*3) % 7)
 | 0,i,h=>absurd h (Nat.not_lt_zero _)
 | n+1,i,h=>by
  rw [idsTo];by_cases e:i=n
  ·subst e;rw [List.getElem?_append_right (by rw [zbE]; exact Nat.le_refl _),zbE,Nat.sub_self]
   rfl
  ·rw [List.getElem?_append_left (by rw [zbE]; omega)];exact zjv s n i (by omega)

theorem zlP {s:Int} {pp:Nat} {i:Nat} (hp:1≤pp∧pp≤6):zn (1+(s+(i:Int)*3) % 7) (pp:Int)=zP (1+(s+(i:Int)*3) % 7) pp:=by
 unfold zn;rw [if_pos (by simp; omega),Int.toNat_natCast]

theorem zkm {s:Int} {nn pp:Nat} {ls:List LK} (hn:1≤nn∧nn≤6) (hp:1≤pp∧pp≤6) (h:zdl nn pp ls):NetOk (newBs (idsTo s nn) (pp:Int)) ls []:=by
 have hlen:(newBs (idsTo s nn) (pp:Int)).length=nn:=by unfold newBs; rw [List.length_map,zbE]
 have hat:∀i:Nat,i < nn→(newBs (idsTo s nn) (pp:Int))[i]? = some (zP (1+(s+(i:Int)*3) % 7) pp):=fun i hi=>by rw [zct (zjv s nn i hi),zlP hp]
 have hport:∀b p:Int,0≤b∧b < (nn:Int)→0≤p∧p < (pp:Int)→zak (newBs (idsTo s nn) (pp:Int)) b p=some newPt:=fun b p hb hq=>by
  unfold zak;rw [if_pos ⟨hb.1,hq.1⟩,hat b.toNat (by omega)]
  show (List.replicate pp newPt)[p.toNat]? = some newPt
  rw [List.getElem?_replicate,if_pos (by omega)]
 refine ⟨⟨fun x hx => ?_,fun i j x y hij hx hy => ?_,by rw [hlen]; exact hn.1,by rw [hlen]; exact hn.2⟩,(zbF _ _).2 ⟨h.len,fun x hx => ?_,h.nd⟩,fun i B hB p x hx hh => ?_,by simp,by intro s hs; cases hs⟩
 ·obtain ⟨i,hi,rfl⟩:=List.mem_iff_getElem.1 hx;rw [hlen] at hi
  have:=hat i hi
  rw [List.getElem?_eq_getElem (by rw [hlen]; exact hi)] at this;rw [Option.some.inj this];exact zf5 (by omega) hp
 ·have hj:j < nn:=by rw [← hlen]; exact (List.getElem?_eq_some_iff.1 hy).1
  rw [hat i (by omega)] at hx;rw [hat j hj] at hy;cases hx;cases hy
  show 1+(s+(i:Int)*3) % 7≠1+(s+(j:Int)*3) % 7
  omega
 ·obtain ⟨h1,h2,h3,h4,h5⟩:=h.at' x hx;exact ⟨h1,newPt,newPt,hport _ _ h2 h4,hport _ _ h3 h5,rfl⟩
 ·have hi:i < nn:=by rw [← hlen]; exact (List.getElem?_eq_some_iff.1 hB).1
  rw [hat i hi] at hB;cases hB;have hx:(List.replicate pp newPt)[p]? = some x:=hx;rw [List.getElem?_replicate] at hx
  split at hx
  ·cases hx;cases hh
  ·cases hx

def costB (B:BR) (p:Nat) (x:PT) (k:Int):BR:={ B with ports:=B.ports.set p { x with k:=k } }

theorem zhs {ls:List LK} {i:Nat} {B:BR} (h:zz B=true) {p:Nat} {x:PT} (hx:B.ports[p]? = some x) {k:Int} (hk:1≤k∧k≤1000):zd4 ls noU i B (costB B p x k):=by
 have hp:ptOk { x with k:=k }=true:=by
  have h1:=zhD h hx;unfold ptOk at *;simp only [Bool.and_eq_true] at h1 ⊢;exact ⟨by simp; omega,h1.2⟩
 refine ⟨rfl,zga h hp,by simp [costB],fun q x' hx' => ?_⟩;have hy':(B.ports.set p { x with k:=k })[q]? = some x':=hx';rw [List.getElem?_set] at hy'
 split at hy'
 ·next e =>
  subst e;have e2:({ x with k:=k }:PT)=x':=by simpa [(List.getElem?_eq_some_iff.1 hx).1] using hy'
  subst e2;exact ⟨x,hx,rfl,.inl⟩
 ·exact ⟨x',hy',rfl,.inl⟩

theorem ziC {bs:List BR} {ls:List LK} {ss:List SY} (h:NetOk bs ls ss) {i p:Nat} {B:BR} {x:PT} (hB:bs[i]? = some B) (hx:B.ports[p]? = some x) {k:Int} (hk:1≤k∧k≤1000):NetOk (bs.set i (costB B p x k)) ls ss:=by
 have e:bs.set i (costB B p x k)=atSet bs i (fun B=>costB B p x k):=by unfold atSet; rw [hB]
 rw [e];refine zdF (U:=noU) (fun _ _=>rfl) h (zbR h.1.1 (fun _ _ _=>rfl) (fun D hD => ?_)) h.2.2.2;rw [hB] at hD;cases hD;exact zhs (h.1.1 B (List.mem_of_getElem? hB)) hx hk

theorem NOwn.cost {w:World} {base:Nat} {M:NV} (h:NOwn w base M) {i p:Nat} {y:BV} {x:PT} (hy:M.bs[i]? = some y) (hx:y.B.ports[p]? = some x) {g:Nat} (hg:y.a=some ⟨g,0,none⟩) (k:Int) :
  NOwn (w.setCell ⟨g,p*8+1,none⟩ (.int .i64 k)) base { M with bs:=M.bs.set i { y with B:=costB y.B p x k } }:=by
 have hO:=h.b.item y (List.mem_of_getElem? hy);have hports:w.ownsRow base 79 8 (.slice (some ⟨g,0,none⟩) y.n y.c) y.n (ptF.all y.B.ports):=by rw [← hg]; exact hO.ports
 obtain ⟨pre,post,e1,e2,e3⟩:=zcj (y:={ y with B:=costB y.B p x k }) hy;obtain ⟨pr,po,f1,f2,f3⟩:=zcj (y:={ x with k:=k }) hx;have hgs:w.grownBy (w.setCell ⟨g,p*8+1,none⟩ (.int .i64 k)) (some g):=zm _ _;have hgs2:w.grownBy (w.setCell ⟨g,p*8+1,none⟩ (.int .i64 k)) (Value.slice (some ⟨g,0,none⟩) y.n y.c).ownBlock:=hgs;have hNew:(w.setCell ⟨g,p*8+1,none⟩ (.int .i64 k)).ownsRow base 79 8 (.slice (some ⟨g,0,none⟩) y.n y.c) y.n (ptF.all (y.B.ports.set p { x with k:=k })):=by
  rw [← f3];rw [f1] at hports;rw [f2];exact zK (F:=ptF) hports 1 (.int .i64 k) (by decide) rfl
 have hrow:(w.setCell ⟨g,p*8+1,none⟩ (.int .i64 k)).ownsRow base 61 11 (.slice M.ba M.bn M.bc) M.bn (brF.all M.bs):=zC h.b.row hports (by decide) hgs2;have hall:brF.all (M.bs.set i { y with B:=costB y.B p x k })=brF.all M.bs:=by
  rw [← e3]
  conv=>rhs; rw [e1]
  rw [brF.all_append,brF.all_append,brF.all_cons,brF.all_cons]
  rfl
 refine ⟨?_,zC h.l hports (by decide) hgs2,zC h.s hports (by decide) hgs2⟩
 show BOs _ base M.ba M.bn M.bc (M.bs.set i { y with B:=costB y.B p x k })
 have hb:=h.b;rw [e1] at hb;have hit:({ y with B:=costB y.B p x k }:BV).Own (w.setCell ⟨g,p*8+1,none⟩ (.int .i64 k)) base:=by
  refine ⟨?_,zC hO.f hports (by decide) hgs2,⟨zC hO.v.rows hports (by decide) hgs2,zC hO.v.own hports (by decide) hgs2,hO.v.i64⟩⟩
  show (w.setCell ⟨g,p*8+1,none⟩ (.int .i64 k)).ownsRow base 79 8 (.slice y.a y.n y.c) y.n (ptF.all (y.B.ports.set p { x with k:=k }))
  rw [hg];exact hNew
 have hO3:Only [g] w (w.setCell ⟨g,p*8+1,none⟩ (.int .i64 k)):=Only.set w g _ _;rw [← e3] at hall ⊢;refine hb.turn (bs:=[g]) (fun z hz b hb1 hb2=>zdR hb.apart z hz b hb1 hb2) hO3 (fun b hb'=>.inl ?_) (by rw [hall]; exact hrow) hit;rw [List.mem_singleton] at hb';rw [hb'];exact zb5.2 (.inl (by rw [hg]; simp [blkL]))

structure NnSt (w wr:World) (X:Nat) (la:Option Addr) (ln lc:Nat) (l:List LK) (ba:Option Addr) (bn bc:Nat) (bs:List BV):Prop where
 box:wr.heap[X]? = some (.cells #[.slice ba bn bc,.slice la ln lc,.slice none 0 0] 31)
 res:wr.heap[w.heap.size]? = some (.cells #[.slice none 0 0,.slice none 0 0,.slice none 0 0] 31)
 b:BOs wr (w.heap.size+1) ba bn bc bs
 l:wr.ownsRow (w.heap.size+1) 44 4 (.slice la ln lc) ln (linkF.all l)
 below:Below w.heap.size w wr
 lt:w.heap.size < X

theorem NnSt.later {w wr:World} {X:Nat} {la:Option Addr} {ln lc:Nat} {l:List LK} {ba:Option Addr} {bn bc:Nat} {bs:List BV} (h:NnSt w wr X la ln lc l ba bn bc bs) {w':World} (hb:Below wr.heap.size wr w'):NnSt w w' X la ln lc l ba bn bc bs :=
 ⟨za h.box hb,za h.res hb,h.b.below hb,zl h.l hb,zc h.below hb,h.lt⟩

theorem NnSt.size {w wr:World} {X:Nat} {la:Option Addr} {ln lc:Nat} {l:List LK} {ba:Option Addr} {bn bc:Nat} {bs:List BV} (h:NnSt w wr X la ln lc l ba bn bc bs):w.heap.size+1≤wr.heap.size:=zcB h.res

theorem NnSt.rows {w wr:World} {X:Nat} {la:Option Addr} {ln lc:Nat} {l:List LK} {ba:Option Addr} {bn bc:Nat} {bs:List BV} (h:NnSt w wr X la ln lc l ba bn bc bs) {w':World} (hg:wr.grownBy w' (Value.slice ba bn bc).ownBlock):w'.heap[X]? = some (.cells #[.slice ba bn bc,.slice la ln lc,.slice none 0 0] 31)∧w'.heap[w.heap.size]? = some (.cells #[.slice none 0 0,.slice none 0 0,.slice none 0 0] 31)∧w'.ownsRow (w.heap.size+1) 44 4 (.slice la ln lc) ln (linkF.all l)∧Below w.heap.size w w' :=
 ⟨ze h.box hg (fun k hk=>zN h.b.row h.box (by decide) k hk),ze h.res hg (fun k hk=>zN h.b.row h.res (by decide) k hk),zC h.l h.b.row (by decide) hg,h.below.grown hg h.below.size (by intro k hk; have:=(h.b.row.lt k hk).1; omega)⟩

theorem NnSt.push {w wr:World} {X:Nat} {la:Option Addr} {ln lc:Nat} {l:List LK} {ba:Option Addr} {bn bc:Nat} {bs:List BV} (h:NnSt w wr X la ln lc l ba bn bc bs) {w1 w2:World} (hb:Below wr.heap.size wr w1) {y:BV} (hy:y.Own w1 wr.heap.size) (hg:w1.grownBy w2 (Value.slice ba bn bc).ownBlock) {ao':Option Addr} {cap':Nat} (hr:w2.ownsRow (w.heap.size+1) 61 11 (.slice ao' (bn+1) cap') (bn+1) (brF.all (bs++[y]))) :
  w2.heap[X]? = some (.cells #[.slice ba bn bc,.slice la ln lc,.slice none 0 0] 31)∧Below w.heap.size w w2∧NnSt w (w2.setCell ⟨X,0,none⟩ (.slice ao' (bn+1) cap')) X la ln lc l ao' (bn+1) cap' (bs++[y]):=by
 have hp:=h.b.push hb hy h.size hg hr;obtain ⟨h1,h2,h3,h4⟩:=(h.later hb).rows hg;have hgx:w2.grownBy (w2.setCell ⟨X,0,none⟩ (.slice ao' (bn+1) cap')) (some X):=zm 0 _;have hlt:=h.lt;refine ⟨h1,h4, ?_,ze h2 hgx (by intro k e; cases e; omega),hp.boxed h1 hgx,zB h3 hgx (zN h3 h1 (by decide)),h4.grown hgx h4.size (by intro k e; cases e; omega),hlt⟩
 have:=zu (j:=0) h1 (.slice ao' (bn+1) cap')
 simpa using this

theorem NnSt.put {w wr:World} {X:Nat} {la:Option Addr} {ln lc:Nat} {l:List LK} {g bn bc:Nat} {pre post:List BV} {x y:BV} (h:NnSt w wr X la ln lc l (some ⟨g,0,none⟩) bn bc (pre++x::post)) {w1 w2:World} (hb:Below wr.heap.size wr w1) (hy:y.Own w1 wr.heap.size) (hg:w1.grownBy w2 (some g)) (hr:w2.ownsRow (w.heap.size+1) 61 11 (.slice (some ⟨g,0,none⟩) bn bc) bn (brF.all (pre++y::post))) :
  NnSt w w2 X la ln lc l (some ⟨g,0,none⟩) bn bc (pre++y::post):=by
 have hp:=h.b.put hb hy h.size hg hr;obtain ⟨h1,h2,h3,h4⟩:=(h.later hb).rows (w':=w2) hg;exact ⟨h1,h2,hp,h3,h4,h.lt⟩

theorem NnSt.out {w wr:World} {X:Nat} {la:Option Addr} {ln lc:Nat} {l:List LK} {ba:Option Addr} {bn bc:Nat} {bs:List BV} (h:NnSt w wr X la ln lc l ba bn bc bs):zbC (((wr.setCell ⟨w.heap.size,0,none⟩ (.slice ba bn bc)).setCell ⟨w.heap.size,1,none⟩ (.slice la ln lc)).setCell ⟨w.heap.size,2,none⟩ (.slice none 0 0)) w.heap.size ⟨ba,bn,bc,bs,la,ln,lc,l,none,0,0,[]⟩∧Below w.heap.size w (((wr.setCell ⟨w.heap.size,0,none⟩ (.slice ba bn bc)).setCell ⟨w.heap.size,1,none⟩ (.slice la ln lc)).setCell ⟨w.heap.size,2,none⟩ (.slice none 0 0)) :=
 ⟨((zbC.apart (M:=⟨ba,bn,bc,bs,la,ln,lc,l,none,0,0,[]⟩) ⟨h.b,h.l,rfl,rfl,rfl,rfl⟩ (zM (zM (zm 0 _) (zm 1 _)) (zm 2 _)) (by omega)).lt (by omega)),zj (zj (zj h.below (Nat.le_refl _) 0 _) (Nat.le_refl _) 1 _) (Nat.le_refl _) 2 _⟩

structure NewIs (ids:List Int) (ports:Int) (l:List LK) (M:NV):Prop where
 yes:NetOk (newBs ids ports) l []→M.bs.map BV.B=upBs ids ports∧M.ls=l
 no:¬NetOk (newBs ids ports) l []→M.bs=[]∧M.ls=[]
def zgn (ids:List Int) (ports:Int) (l:List LK) (w:World) (e:Ending) (w':World):Prop:=∃M:NV,e=.returned (.agg #[.slice M.ba M.bn M.bc,.slice M.la M.ln M.lc,.slice M.sa M.sn M.sc])∧zbC w' w.heap.size M∧NewIs ids ports l M∧Below w.heap.size w w'

theorem zel {ids:List Int} {ports:Int} {l:List LK} {w w':World} (h:¬NetOk (newBs ids ports) l []) (hb:Below w.heap.size w w'):zgn ids ports l w (.returned (.agg #[.slice none 0 0,.slice none 0 0,.slice none 0 0])) w' :=
 ⟨⟨none,0,0,[],none,0,0,[],none,0,0,[]⟩,rfl,⟨zhe _ _,World.ownsRow_nil _ _ _ _,rfl,rfl,rfl,rfl⟩,⟨fun k=>absurd k h,fun _=>⟨rfl,rfl⟩⟩,hb⟩

end Go.Proofs.YtkcoehmpnkdinaaGreat
