/-
  Packed: StepSaid StepMath StepIs.
-/
import Derived.Test.YtkaefmfopejbaaaGreatPAK31
namespace Go.Proofs.YtkaefmfopejbaaaGreat
set_option maxRecDepth 100000
set_option maxHeartbeats 16000000
open Go.RowKit

theorem GRow.drop7 {w:World} {b off n c k:Nat} {l:List SY} (h:GRow sayF w (some ⟨b,off,none⟩) n c l) (hk:k≤n):GRow sayF w (if c=k then some ⟨b,off,none⟩ else some ⟨b,off+k*7,none⟩) (n - k) (c - k) (l.drop k) where
 size:=by have:=h.size; simp; omega
 le:=by have:=h.le; omega
 top:=by have:=h.top; omega
 nil:=by split <;> (intro h; cases h)
 cell:=by
  have hle:=h.le;by_cases hc0:c=k
  ·exact .inl (by omega)
  ·rw [if_neg hc0];rcases h.cell with h0 | ⟨b',off',ha,hc⟩
   ·exact .inl (by omega)
   ·cases ha;refine .inr ⟨b,off+k*7,rfl,fun i x hi j v hv => ?_⟩;rw [List.getElem?_drop] at hi
    have:=hc (k+i) x hi j v hv
    have e7:sayF.k=7:=rfl;rw [e7] at this ⊢;rw [show off+k*7+i*7+j=off+(k+i)*7+j by omega];exact this

theorem GRow.drop70 {w:World} {b n c k:Nat} {l:List SY} (h:GRow sayF w (some ⟨b,0,none⟩) n c l) (hk:k≤n):GRow sayF w (if c=k then some ⟨b,0,none⟩ else some ⟨b,k*7,none⟩) (n - k) (c - k) (l.drop k):=by
 have:=h.drop7 hk
 rwa [Nat.zero_add] at this

theorem NbSt.saidNew {w w1:World} {base X:Nat} {M:NV} (h:NbSt w base X M) (hb:Below w.heap.size w w1) {ao:Option Addr} {n cap:Nat} {ss:List SY} (hr:w1.ownsRow base 99 7 (.slice ao n cap) n (sayF.all ss)) :
  w1.heap[X]? = some (.cells #[.slice M.ba M.bn M.bc,.slice M.la M.ln M.lc,.slice M.sa M.sn M.sc] 28)∧NbSt (w1.setCell ⟨X,2,none⟩ (.slice ao n cap)) base X { M with sa:=ao,sn:=n,sc:=cap,ss:=ss }∧Below base w (w1.setCell ⟨X,2,none⟩ (.slice ao n cap)):=by
 have h1:=h.later hb;have k1:=h1.box;have hgx:w1.grownBy (w1.setCell ⟨X,2,none⟩ (.slice ao n cap)) (some X):=zj 2 _;have nb:=NOwn.boxed (M:={ M with sa:=ao,sn:=n,sc:=cap,ss:=ss }) ⟨h1.own.b,h1.own.l,hr⟩ k1 hgx;have b1:Below base w w1:=hb.mono h.size;have hle:=h.le;refine ⟨k1,⟨?_,nb,h.le⟩,b1.grown hgx (by have:=zaX k1; omega) (by intro k e; cases e; omega)⟩
 have:=zB (j:=2) k1 (.slice ao n cap)
 simpa using this

def atSet (l:List BR) (i:Nat) (f:BR→BR):List BR:=match l[i]? with
 | some B=>l.set i (f B)
 | none=>l
def zjg (bs:List BR) (ls:List LK) (s:SY):List BR:=match ls[s.l.toNat]? with
 | some x=>if s.back=true then atSet bs x.a.toNat (fun B=>hearB B x.p s.v) else atSet bs x.b.toNat (fun B=>hearB B x.q s.v)
 | none=>bs
def zcV (bs:List BR) (ls:List LK) (kind:Int) (s:SY):List BR:=if kind=2∧zT bs ls s.l=true then zjg bs ls s else bs

theorem zcJ {bs:List BV} {i:Nat} {y y2:BV} {f:BR→BR} (h:bs[i]? = some y) (hy:y2.B=f y.B):(bs.set i y2).map BV.B=atSet (bs.map BV.B) (i:Int).toNat f:=by
 unfold atSet;rw [Int.toNat_natCast,List.getElem?_map,h]
 simp [List.map_set,hy]

theorem zgB (M:NV) (base X k:Nat) (kind:Int) (s:SY) (w:World) (h:NbSt w base X M) (hs:M.ss[k]? = some s) (hsl:M.ss.length≤40) (he:∀x∈M.ls,zcl M.brs x) (hsm:∀y∈M.bs,y.Small20) (hso:SayOk M.ls s) :
  Calls Tryz.prog 78 #[.pointer (some ⟨X,0,none⟩),.agg #[.int .i64 kind,.int .i64 (k:Int)]] w fun e w'=>e=.returned (.tuple #[])∧∃(bs2:List BV) (sa:Option Addr) (sn sc:Nat),NbSt w' base X { M with bs:=bs2,sa:=sa,sn:=sn,sc:=sc,ss:=M.ss.take k++M.ss.drop (k+1) }∧bs2.map BV.B=zcV M.brs M.ls kind s∧Below base w w':=by
 obtain ⟨ba,bn,bc,bs,la,ln,lc,ls,sa0,sn,sc,ss⟩:=M;have he:∀x∈ls,zcl (bs.map BV.B) x:=he;dsimp only at hs hsl hsm hso
 show Calls Tryz.prog 78 #[.pointer (some ⟨X,0,none⟩),.agg #[.int .i64 kind,.int .i64 (k:Int)]] w fun e w'=>e=.returned (.tuple #[])∧∃(bs2:List BV) (sa:Option Addr) (sn sc:Nat),NbSt w' base X ⟨ba,bn,bc,bs2,la,ln,lc,ls,sa,sn,sc,(ss.take k++ss.drop (k+1))⟩∧bs2.map BV.B=zcV (bs.map BV.B) ls kind s∧Below base w w'
 have hss:ss.length=sn:=h.own.row.s.size;have hk:k < sn:=by have:=(List.getElem?_eq_some_iff.1 hs).1; omega
 have hcap:sn≤sc:=h.own.row.s.le;have htop:=h.own.row.s.top;unfold maxLen at htop;dsimp only at htop;obtain ⟨g,hg⟩:∃g,sa0=some ⟨g,0,none⟩:=zbP h.own.s (show 0 < sn by omega);subst hg;have HE:=hide he;have HSM:=hide hsm;have HSO:=hide hso;have HSZ:=hide h.size;have HXL:Hid (X < w.heap.size):=hide (zaX h.box);clear he hsm hso;generalize hw1:w.alloc (Obj.cells #[.int .i64 kind,.int .i64 (k:Int)] 94)=w1;have b01:=zb hw1;have kE:=zk hw1;have HZ1:Hid (w1.heap.size=w.heap.size+1):=hide (by rw [← hw1]; simp);have st:=h.later b01;have HSC:Hid (∀W,Below w1.heap.size w1 W→zcc W g (k*7) (.int .i64 s.l)∧zcc W g (k*7+1) (.bool s.back)∧zcc W g (k*7+2) (.int .i64 s.v.r)∧zcc W g (k*7+3) (.int .i64 s.v.c)∧zcc W g (k*7+4) (.int .i64 s.v.h)∧zcc W g (k*7+5) (.int .i64 s.v.b)∧zcc W g (k*7+6) (.int .i64 s.v.p)):=hide (fun W hW=>by
  have h2:GRow sayF w1 (some ⟨g,0,none⟩) sn sc ss:=st.own.row.s
  have:=zby h2 hW hs
  simpa using this)
 have i1:(0:Int)≤(k:Int):=by omega
 have i2:(k:Int) < (sn:Int):=by omega
 have i3:(k:Int)≤(sc:Int):=by omega
 have i4:(0:Int)≤(k:Int)+1:=by omega
 have i5:(k:Int)+1≤(sn:Int):=by omega
 have i6:IntKind.i64.wrap ((k:Int)+1)=(k:Int)+1:=by rw [IntKind.wrap_i64]; omega
 clear h hs;go_enter Tryz.func78,Tryz.ntmps78;go_upto_region 1 with fail
 go_cut [4] from 5 to 12 (fun v wx=>∃Y:Nat,v=.pointer (some ⟨Y,0,none⟩)∧NbSt wx base X ⟨ba,bn,bc,bs,la,ln,lc,ls,(some ⟨g,0,none⟩),sn,sc,ss⟩∧wx.heap[w.heap.size]? = some (.cells #[.int .i64 kind,.int .i64 (k:Int)] 94)∧wx.heap[Y]? = some (.cells #[.int .i64 s.l,.bool s.back,.int .i64 s.v.r,.int .i64 s.v.c,.int .i64 s.v.h,.int .i64 s.v.b,.int .i64 s.v.p] 99)∧w1.heap.size≤Y∧Below base w wx)
 case first =>
  have vv:Below w1.heap.size w1 w1.drew:=zq (Below.refl _ _);refine wp_region_held_drew (S:=(fun W=>(zcc W X 0 (.slice ba bn bc)∧zcc W X 1 (.slice la ln lc)∧zcc W X 2 (.slice (some ⟨g,0,none⟩) sn sc))∧(zcc W w.heap.size 0 (.int .i64 kind)∧zcc W w.heap.size 1 (.int .i64 (k:Int)))∧zcc W g (k*7) (.int .i64 s.l)∧zcc W g (k*7+1) (.bool s.back)∧zcc W g (k*7+2) (.int .i64 s.v.r)∧zcc W g (k*7+3) (.int .i64 s.v.c)∧zcc W g (k*7+4) (.int .i64 s.v.h)∧zcc W g (k*7+5) (.int .i64 s.v.b)∧zcc W g (k*7+6) (.int .i64 s.v.p))) (by kernel_rfl) (⟨zd (za st.box vv),zm (za kE vv),HSC.out _ vv⟩) (fun hHeld => ?_);refine kK 0 ?_;refine kK 1 ?_;refine kK 2 ?_;refine kK 3 ?_;refine kK 4 ?_;refine kK 5 ?_;refine kK 6 ?_;refine kK 7 ?_;refine kR 8 fun K hK => ?_
  go_simp
  first
  | refine zw (K:=K _) (fun wx kY hbx => ?_)
  | refine zo (K:=K _) (fun wx kY hbx => ?_)
  have gY:w1.heap.size≤_:=vv.size;have vv:=zc vv hbx;have vy:=vv;clear hbx;refine kO hK (⟨zd (za st.box vv),zm (za kE vv),HSC.out _ vv⟩) fun hHeld => ?_
  clear hK K;refine kR 9 fun K hK => ?_
  obtain ⟨z0,z1,z2,z3,z4,z5,z6⟩:=zag kY;have f0:=zf kY 0;have f1:=zf kY 1;have f2:=zf kY 2;have f3:=zf kY 3;have f4:=zf kY 4;have f5:=zf kY 5;have f6:=zf kY 6;go_simp;refine zhK (K:=K _) kY _ _ _ _ _ _ _ (fun wq kS hgq => ?_);have vv:=vv.grown hgq vv.size (by intro j e; cases e; exact gY);refine kO hK (⟨zd (za st.box vv),zm (za kE vv),HSC.out _ vv⟩) fun hHeld => ?_
  clear hK K;refine wpAnyH_done (by kernel_rfl) ?_ _;clear hHeld z0 z1 z2 z3 z4 z5 z6 f0 f1 f2 f3 f4 f5 f6 kY hgq vy;(go_wp2_with fail)
  go_meet
  exact ⟨_,rfl,st.later vv,za kE vv,kS,gY,(b01.mono HSZ.out).trans (vv.mono st.size)⟩
 case rest =>
  obtain ⟨Y,rfl,st2,kE2,kS2,hY2,hB2⟩:=hcut;obtain ⟨w2,hw2⟩:∃y,y=wc:=⟨_,rfl⟩;subst hw2;clear st kE b01 HSC hw1;have st:=st2;have HGS:Hid (∀W,Below w2.heap.size w2 W→GRow sayF W (some ⟨g,0,none⟩) sn sc ss):=hide (fun W hW=>GRow.below (F:=sayF) (show GRow sayF w2 (some ⟨g,0,none⟩) sn sc ss from st2.own.row.s) hW);have KE:=hide kE2;have KS:=hide kS2;have HB2:=hide hB2;have HYL:Hid (w.heap.size < Y):=hide (by have:=HZ1.out; omega);clear st2 kE2 kS2 hB2 hY2 HZ1;(go_upto_region 2 with fail)
  go_cut [4] from 13 to 33 (fun v wx=>v=.pointer (some ⟨Y,0,none⟩)∧∃(sa:Option Addr) (sn sc:Nat),NbSt wx base X ⟨ba,bn,bc,bs,la,ln,lc,ls,sa,sn,sc,(ss.take k++ss.drop (k+1))⟩∧wx.heap[w.heap.size]? = some (.cells #[.int .i64 kind,.int .i64 (k:Int)] 94)∧wx.heap[Y]? = some (.cells #[.int .i64 s.l,.bool s.back,.int .i64 s.v.r,.int .i64 s.v.c,.int .i64 s.v.h,.int .i64 s.v.b,.int .i64 s.v.p] 99)∧Below base w wx)
  case first =>
   have vv:Below w2.heap.size w2 w2.drew:=zq (Below.refl _ _);have x2:=(zd (za st.box vv)).2.2;have kE:=za KE.out vv;refine wp_region_held_drew (S:=(fun W=>(zcc W w.heap.size 0 (.int .i64 kind)∧zcc W w.heap.size 1 (.int .i64 (k:Int))))) (by kernel_rfl) (zm kE) (fun hHeld => ?_);refine kK 0 ?_;refine kK 2 ?_;refine kK 3 ?_;refine kK 4 ?_;refine kK 6 ?_;refine kK 7 ?_;refine kK 10 ?_;refine kK 11 ?_;refine kK 12 ?_;refine kK 14 ?_;refine kK 15 ?_;refine kK 16 ?_;refine tR [1,5,13] ?_;refine kC (fun K hK => ?_) ?_
   ·go_simp
    first
    | refine zw (K:=K _) (fun wx kY hbx => ?_)
    | refine zo (K:=K _) (fun wx kY hbx => ?_)
    have hR:=zQ sayF (base:=w2.heap.size) kY (by have:=vv.size; first | exact this | exact Nat.le_refl _);have vv:=zc vv hbx;have x2:=(zd (za st.box vv)).2.2;have kE:=za KE.out vv;clear hbx kY;refine kO hK (zm kE) fun hHeld => ?_
    clear hK K;refine tR [5,13] ?_;refine kC (fun K hK => ?_) ?_
    ·go_simp;refine kO hK (zm kE) fun hHeld => ?_
     clear hK K;refine kK 8 ?_;refine tR [9,13] ?_;refine kC (fun K hK => ?_) ?_
     ·refine zi (F:=sayF) rfl _ _ 26 99 rfl w2.heap.size Tryz.underlying26 zW rfl (by decide) _ 0 [] rfl hR _ k sc (ss.take k) rfl ((HGS.out _ vv).take (show k≤sn by omega)) (by omega) vv.size ?_;intro aR cR wx how _ hgr hbx;have hR:=how;have vv:=vv.trans hbx;have x2:=(zd (za st.box vv)).2.2;have kE:=za KE.out vv;clear how hgr hbx;simp only [Nat.zero_add,List.nil_append] at hR ⊢;refine kO hK (zm kE) fun hHeld => ?_
      clear hK K;refine kR 13 fun K hK => ?_
      go_simp;refine kO hK (zm kE) fun hHeld => ?_
      clear hK K;refine kK 17 ?_;refine kR 18 fun K hK => ?_
      refine zi (F:=sayF) rfl _ _ 26 99 rfl w2.heap.size Tryz.underlying26 zW rfl (by decide) _ k (ss.take k) rfl hR _ (sn - (k+1)) (sc - (k+1)) (ss.drop (k+1)) rfl ((HGS.out _ vv).drop70 (show k+1≤sn by omega)) (by omega) vv.size ?_;intro aQ cQ wy how _ hgr hbx;have hR:=how;have vv:=vv.trans hbx;obtain ⟨kX,stN,hBN⟩:=st.saidNew vv (zH hR st.size);have x2:=(zd (za st.box vv)).2.2;have kE:=za KE.out vv;have fz:=zf kX 2;clear how hgr hbx;refine kO hK (zm kE) fun hHeld => ?_
      clear hK K;refine kK 19 ?_;refine kK 20 ?_;refine kR 21 fun K hK => ?_
      go_simp;have hgX:wy.grownBy (wy.setCell ⟨X,2,none⟩ (.slice aQ (k+(sn - (k+1))) cQ)) (some X):=zj 2 _;have kE:=ze kE hgX (by intro j e; cases e; have:=HXL.out; omega);have kS2:=ze (za KS.out vv) hgX (by intro j e; cases e; have:=HXL.out; have:=HYL.out; omega);refine kO hK (zm kE) fun hHeld => ?_
      clear hK K;refine wpAnyH_done (by kernel_rfl) ?_ _;have HST:=hide stN;have HKE:=hide kE;have HKS:=hide kS2;have HBN:=hide (HB2.out.trans hBN);clear hHeld x2 kE kS2 kX stN hBN fz hgX hR vv;(go_wp2_with fail)
      all_goals (go_meet; exact ⟨rfl,_,_,_,HST.out,HKE.out,HKS.out,HBN.out⟩)
     refine kC (fun K hK => ?_) ?_
     ·go_simp;refine kO hK (zm kE) fun hHeld => ?_
      clear hK K;refine kK 17 ?_;refine kR 9 fun K hK => ?_
      refine zi (F:=sayF) rfl _ _ 26 99 rfl w2.heap.size Tryz.underlying26 zW rfl (by decide) _ 0 [] rfl hR _ k sc (ss.take k) rfl ((HGS.out _ vv).take (show k≤sn by omega)) (by omega) vv.size ?_;intro aR cR wx how _ hgr hbx;have hR:=how;have vv:=vv.trans hbx;have x2:=(zd (za st.box vv)).2.2;have kE:=za KE.out vv;clear how hgr hbx;simp only [Nat.zero_add,List.nil_append] at hR ⊢;refine kO hK (zm kE) fun hHeld => ?_
      clear hK K;refine kR 18 fun K hK => ?_
      refine zi (F:=sayF) rfl _ _ 26 99 rfl w2.heap.size Tryz.underlying26 zW rfl (by decide) _ k (ss.take k) rfl hR _ (sn - (k+1)) (sc - (k+1)) (ss.drop (k+1)) rfl ((HGS.out _ vv).drop70 (show k+1≤sn by omega)) (by omega) vv.size ?_;intro aQ cQ wy how _ hgr hbx;have hR:=how;have vv:=vv.trans hbx;obtain ⟨kX,stN,hBN⟩:=st.saidNew vv (zH hR st.size);have x2:=(zd (za st.box vv)).2.2;have kE:=za KE.out vv;have fz:=zf kX 2;clear how hgr hbx;refine kO hK (zm kE) fun hHeld => ?_
      clear hK K;refine kK 19 ?_;refine kK 20 ?_;refine kR 21 fun K hK => ?_
      go_simp;have hgX:wy.grownBy (wy.setCell ⟨X,2,none⟩ (.slice aQ (k+(sn - (k+1))) cQ)) (some X):=zj 2 _;have kE:=ze kE hgX (by intro j e; cases e; have:=HXL.out; omega);have kS2:=ze (za KS.out vv) hgX (by intro j e; cases e; have:=HXL.out; have:=HYL.out; omega);refine kO hK (zm kE) fun hHeld => ?_
      clear hK K;refine wpAnyH_done (by kernel_rfl) ?_ _;have HST:=hide stN;have HKE:=hide kE;have HKS:=hide kS2;have HBN:=hide (HB2.out.trans hBN);clear hHeld x2 kE kS2 kX stN hBN fz hgX hR vv;(go_wp2_with fail)
      all_goals (go_meet; exact ⟨rfl,_,_,_,HST.out,HKE.out,HKS.out,HBN.out⟩)
     exact AllReadyH.nil
    refine kC (fun K hK => ?_) ?_
    ·go_simp;refine kO hK (zm kE) fun hHeld => ?_
     clear hK K;refine kK 17 ?_;refine kR 5 fun K hK => ?_
     go_simp;refine kO hK (zm kE) fun hHeld => ?_
     clear hK K;refine kK 8 ?_;refine kR 9 fun K hK => ?_
     refine zi (F:=sayF) rfl _ _ 26 99 rfl w2.heap.size Tryz.underlying26 zW rfl (by decide) _ 0 [] rfl hR _ k sc (ss.take k) rfl ((HGS.out _ vv).take (show k≤sn by omega)) (by omega) vv.size ?_;intro aR cR wx how _ hgr hbx;have hR:=how;have vv:=vv.trans hbx;have x2:=(zd (za st.box vv)).2.2;have kE:=za KE.out vv;clear how hgr hbx;simp only [Nat.zero_add,List.nil_append] at hR ⊢;refine kO hK (zm kE) fun hHeld => ?_
     clear hK K;refine kR 18 fun K hK => ?_
     refine zi (F:=sayF) rfl _ _ 26 99 rfl w2.heap.size Tryz.underlying26 zW rfl (by decide) _ k (ss.take k) rfl hR _ (sn - (k+1)) (sc - (k+1)) (ss.drop (k+1)) rfl ((HGS.out _ vv).drop70 (show k+1≤sn by omega)) (by omega) vv.size ?_;intro aQ cQ wy how _ hgr hbx;have hR:=how;have vv:=vv.trans hbx;obtain ⟨kX,stN,hBN⟩:=st.saidNew vv (zH hR st.size);have x2:=(zd (za st.box vv)).2.2;have kE:=za KE.out vv;have fz:=zf kX 2;clear how hgr hbx;refine kO hK (zm kE) fun hHeld => ?_
     clear hK K;refine kK 19 ?_;refine kK 20 ?_;refine kR 21 fun K hK => ?_
     go_simp;have hgX:wy.grownBy (wy.setCell ⟨X,2,none⟩ (.slice aQ (k+(sn - (k+1))) cQ)) (some X):=zj 2 _;have kE:=ze kE hgX (by intro j e; cases e; have:=HXL.out; omega);have kS2:=ze (za KS.out vv) hgX (by intro j e; cases e; have:=HXL.out; have:=HYL.out; omega);refine kO hK (zm kE) fun hHeld => ?_
     clear hK K;refine wpAnyH_done (by kernel_rfl) ?_ _;have HST:=hide stN;have HKE:=hide kE;have HKS:=hide kS2;have HBN:=hide (HB2.out.trans hBN);clear hHeld x2 kE kS2 kX stN hBN fz hgX hR vv;(go_wp2_with fail)
     all_goals (go_meet; exact ⟨rfl,_,_,_,HST.out,HKE.out,HKS.out,HBN.out⟩)
    exact AllReadyH.nil
   refine kC (fun K hK => ?_) ?_
   ·go_simp;refine kO hK (zm kE) fun hHeld => ?_
    clear hK K;refine kK 8 ?_;refine tR [1,13] ?_;refine kC (fun K hK => ?_) ?_
    ·go_simp
     first
     | refine zw (K:=K _) (fun wx kY hbx => ?_)
     | refine zo (K:=K _) (fun wx kY hbx => ?_)
     have hR:=zQ sayF (base:=w2.heap.size) kY (by have:=vv.size; first | exact this | exact Nat.le_refl _);have vv:=zc vv hbx;have x2:=(zd (za st.box vv)).2.2;have kE:=za KE.out vv;clear hbx kY;refine kO hK (zm kE) fun hHeld => ?_
     clear hK K;refine tR [9,13] ?_;refine kC (fun K hK => ?_) ?_
     ·refine zi (F:=sayF) rfl _ _ 26 99 rfl w2.heap.size Tryz.underlying26 zW rfl (by decide) _ 0 [] rfl hR _ k sc (ss.take k) rfl ((HGS.out _ vv).take (show k≤sn by omega)) (by omega) vv.size ?_;intro aR cR wx how _ hgr hbx;have hR:=how;have vv:=vv.trans hbx;have x2:=(zd (za st.box vv)).2.2;have kE:=za KE.out vv;clear how hgr hbx;simp only [Nat.zero_add,List.nil_append] at hR ⊢;refine kO hK (zm kE) fun hHeld => ?_
      clear hK K;refine kR 13 fun K hK => ?_
      go_simp;refine kO hK (zm kE) fun hHeld => ?_
      clear hK K;refine kK 17 ?_;refine kR 18 fun K hK => ?_
      refine zi (F:=sayF) rfl _ _ 26 99 rfl w2.heap.size Tryz.underlying26 zW rfl (by decide) _ k (ss.take k) rfl hR _ (sn - (k+1)) (sc - (k+1)) (ss.drop (k+1)) rfl ((HGS.out _ vv).drop70 (show k+1≤sn by omega)) (by omega) vv.size ?_;intro aQ cQ wy how _ hgr hbx;have hR:=how;have vv:=vv.trans hbx;obtain ⟨kX,stN,hBN⟩:=st.saidNew vv (zH hR st.size);have x2:=(zd (za st.box vv)).2.2;have kE:=za KE.out vv;have fz:=zf kX 2;clear how hgr hbx;refine kO hK (zm kE) fun hHeld => ?_
      clear hK K;refine kK 19 ?_;refine kK 20 ?_;refine kR 21 fun K hK => ?_
      go_simp;have hgX:wy.grownBy (wy.setCell ⟨X,2,none⟩ (.slice aQ (k+(sn - (k+1))) cQ)) (some X):=zj 2 _;have kE:=ze kE hgX (by intro j e; cases e; have:=HXL.out; omega);have kS2:=ze (za KS.out vv) hgX (by intro j e; cases e; have:=HXL.out; have:=HYL.out; omega);refine kO hK (zm kE) fun hHeld => ?_
      clear hK K;refine wpAnyH_done (by kernel_rfl) ?_ _;have HST:=hide stN;have HKE:=hide kE;have HKS:=hide kS2;have HBN:=hide (HB2.out.trans hBN);clear hHeld x2 kE kS2 kX stN hBN fz hgX hR vv;(go_wp2_with fail)
      all_goals (go_meet; exact ⟨rfl,_,_,_,HST.out,HKE.out,HKS.out,HBN.out⟩)
     refine kC (fun K hK => ?_) ?_
     ·go_simp;refine kO hK (zm kE) fun hHeld => ?_
      clear hK K;refine kK 17 ?_;refine kR 9 fun K hK => ?_
      refine zi (F:=sayF) rfl _ _ 26 99 rfl w2.heap.size Tryz.underlying26 zW rfl (by decide) _ 0 [] rfl hR _ k sc (ss.take k) rfl ((HGS.out _ vv).take (show k≤sn by omega)) (by omega) vv.size ?_;intro aR cR wx how _ hgr hbx;have hR:=how;have vv:=vv.trans hbx;have x2:=(zd (za st.box vv)).2.2;have kE:=za KE.out vv;clear how hgr hbx;simp only [Nat.zero_add,List.nil_append] at hR ⊢;refine kO hK (zm kE) fun hHeld => ?_
      clear hK K;refine kR 18 fun K hK => ?_
      refine zi (F:=sayF) rfl _ _ 26 99 rfl w2.heap.size Tryz.underlying26 zW rfl (by decide) _ k (ss.take k) rfl hR _ (sn - (k+1)) (sc - (k+1)) (ss.drop (k+1)) rfl ((HGS.out _ vv).drop70 (show k+1≤sn by omega)) (by omega) vv.size ?_;intro aQ cQ wy how _ hgr hbx;have hR:=how;have vv:=vv.trans hbx;obtain ⟨kX,stN,hBN⟩:=st.saidNew vv (zH hR st.size);have x2:=(zd (za st.box vv)).2.2;have kE:=za KE.out vv;have fz:=zf kX 2;clear how hgr hbx;refine kO hK (zm kE) fun hHeld => ?_
      clear hK K;refine kK 19 ?_;refine kK 20 ?_;refine kR 21 fun K hK => ?_
      go_simp;have hgX:wy.grownBy (wy.setCell ⟨X,2,none⟩ (.slice aQ (k+(sn - (k+1))) cQ)) (some X):=zj 2 _;have kE:=ze kE hgX (by intro j e; cases e; have:=HXL.out; omega);have kS2:=ze (za KS.out vv) hgX (by intro j e; cases e; have:=HXL.out; have:=HYL.out; omega);refine kO hK (zm kE) fun hHeld => ?_
      clear hK K;refine wpAnyH_done (by kernel_rfl) ?_ _;have HST:=hide stN;have HKE:=hide kE;have HKS:=hide kS2;have HBN:=hide (HB2.out.trans hBN);clear hHeld x2 kE kS2 kX stN hBN fz hgX hR vv;(go_wp2_with fail)
      all_goals (go_meet; exact ⟨rfl,_,_,_,HST.out,HKE.out,HKS.out,HBN.out⟩)
     exact AllReadyH.nil
    refine kC (fun K hK => ?_) ?_
    ·go_simp;refine kO hK (zm kE) fun hHeld => ?_
     clear hK K;refine kK 17 ?_;refine kR 1 fun K hK => ?_
     go_simp
     first
     | refine zw (K:=K _) (fun wx kY hbx => ?_)
     | refine zo (K:=K _) (fun wx kY hbx => ?_)
     have hR:=zQ sayF (base:=w2.heap.size) kY (by have:=vv.size; first | exact this | exact Nat.le_refl _);have vv:=zc vv hbx;have x2:=(zd (za st.box vv)).2.2;have kE:=za KE.out vv;clear hbx kY;refine kO hK (zm kE) fun hHeld => ?_
     clear hK K;refine kR 9 fun K hK => ?_
     refine zi (F:=sayF) rfl _ _ 26 99 rfl w2.heap.size Tryz.underlying26 zW rfl (by decide) _ 0 [] rfl hR _ k sc (ss.take k) rfl ((HGS.out _ vv).take (show k≤sn by omega)) (by omega) vv.size ?_;intro aR cR wx how _ hgr hbx;have hR:=how;have vv:=vv.trans hbx;have x2:=(zd (za st.box vv)).2.2;have kE:=za KE.out vv;clear how hgr hbx;simp only [Nat.zero_add,List.nil_append] at hR ⊢;refine kO hK (zm kE) fun hHeld => ?_
     clear hK K;refine kR 18 fun K hK => ?_
     refine zi (F:=sayF) rfl _ _ 26 99 rfl w2.heap.size Tryz.underlying26 zW rfl (by decide) _ k (ss.take k) rfl hR _ (sn - (k+1)) (sc - (k+1)) (ss.drop (k+1)) rfl ((HGS.out _ vv).drop70 (show k+1≤sn by omega)) (by omega) vv.size ?_;intro aQ cQ wy how _ hgr hbx;have hR:=how;have vv:=vv.trans hbx;obtain ⟨kX,stN,hBN⟩:=st.saidNew vv (zH hR st.size);have x2:=(zd (za st.box vv)).2.2;have kE:=za KE.out vv;have fz:=zf kX 2;clear how hgr hbx;refine kO hK (zm kE) fun hHeld => ?_
     clear hK K;refine kK 19 ?_;refine kK 20 ?_;refine kR 21 fun K hK => ?_
     go_simp;have hgX:wy.grownBy (wy.setCell ⟨X,2,none⟩ (.slice aQ (k+(sn - (k+1))) cQ)) (some X):=zj 2 _;have kE:=ze kE hgX (by intro j e; cases e; have:=HXL.out; omega);have kS2:=ze (za KS.out vv) hgX (by intro j e; cases e; have:=HXL.out; have:=HYL.out; omega);refine kO hK (zm kE) fun hHeld => ?_
     clear hK K;refine wpAnyH_done (by kernel_rfl) ?_ _;have HST:=hide stN;have HKE:=hide kE;have HKS:=hide kS2;have HBN:=hide (HB2.out.trans hBN);clear hHeld x2 kE kS2 kX stN hBN fz hgX hR vv;(go_wp2_with fail)
     all_goals (go_meet; exact ⟨rfl,_,_,_,HST.out,HKE.out,HKS.out,HBN.out⟩)
    exact AllReadyH.nil
   refine kC (fun K hK => ?_) ?_
   ·go_simp;refine kO hK (zm kE) fun hHeld => ?_
    clear hK K;refine kK 17 ?_;refine tR [1,5] ?_;refine kC (fun K hK => ?_) ?_
    ·go_simp
     first
     | refine zw (K:=K _) (fun wx kY hbx => ?_)
     | refine zo (K:=K _) (fun wx kY hbx => ?_)
     have hR:=zQ sayF (base:=w2.heap.size) kY (by have:=vv.size; first | exact this | exact Nat.le_refl _);have vv:=zc vv hbx;have x2:=(zd (za st.box vv)).2.2;have kE:=za KE.out vv;clear hbx kY;refine kO hK (zm kE) fun hHeld => ?_
     clear hK K;refine kR 5 fun K hK => ?_
     go_simp;refine kO hK (zm kE) fun hHeld => ?_
     clear hK K;refine kK 8 ?_;refine kR 9 fun K hK => ?_
     refine zi (F:=sayF) rfl _ _ 26 99 rfl w2.heap.size Tryz.underlying26 zW rfl (by decide) _ 0 [] rfl hR _ k sc (ss.take k) rfl ((HGS.out _ vv).take (show k≤sn by omega)) (by omega) vv.size ?_;intro aR cR wx how _ hgr hbx;have hR:=how;have vv:=vv.trans hbx;have x2:=(zd (za st.box vv)).2.2;have kE:=za KE.out vv;clear how hgr hbx;simp only [Nat.zero_add,List.nil_append] at hR ⊢;refine kO hK (zm kE) fun hHeld => ?_
     clear hK K;refine kR 18 fun K hK => ?_
     refine zi (F:=sayF) rfl _ _ 26 99 rfl w2.heap.size Tryz.underlying26 zW rfl (by decide) _ k (ss.take k) rfl hR _ (sn - (k+1)) (sc - (k+1)) (ss.drop (k+1)) rfl ((HGS.out _ vv).drop70 (show k+1≤sn by omega)) (by omega) vv.size ?_;intro aQ cQ wy how _ hgr hbx;have hR:=how;have vv:=vv.trans hbx;obtain ⟨kX,stN,hBN⟩:=st.saidNew vv (zH hR st.size);have x2:=(zd (za st.box vv)).2.2;have kE:=za KE.out vv;have fz:=zf kX 2;clear how hgr hbx;refine kO hK (zm kE) fun hHeld => ?_
     clear hK K;refine kK 19 ?_;refine kK 20 ?_;refine kR 21 fun K hK => ?_
     go_simp;have hgX:wy.grownBy (wy.setCell ⟨X,2,none⟩ (.slice aQ (k+(sn - (k+1))) cQ)) (some X):=zj 2 _;have kE:=ze kE hgX (by intro j e; cases e; have:=HXL.out; omega);have kS2:=ze (za KS.out vv) hgX (by intro j e; cases e; have:=HXL.out; have:=HYL.out; omega);refine kO hK (zm kE) fun hHeld => ?_
     clear hK K;refine wpAnyH_done (by kernel_rfl) ?_ _;have HST:=hide stN;have HKE:=hide kE;have HKS:=hide kS2;have HBN:=hide (HB2.out.trans hBN);clear hHeld x2 kE kS2 kX stN hBN fz hgX hR vv;(go_wp2_with fail)
     all_goals (go_meet; exact ⟨rfl,_,_,_,HST.out,HKE.out,HKS.out,HBN.out⟩)
    refine kC (fun K hK => ?_) ?_
    ·go_simp;refine kO hK (zm kE) fun hHeld => ?_
     clear hK K;refine kK 8 ?_;refine kR 1 fun K hK => ?_
     go_simp
     first
     | refine zw (K:=K _) (fun wx kY hbx => ?_)
     | refine zo (K:=K _) (fun wx kY hbx => ?_)
     have hR:=zQ sayF (base:=w2.heap.size) kY (by have:=vv.size; first | exact this | exact Nat.le_refl _);have vv:=zc vv hbx;have x2:=(zd (za st.box vv)).2.2;have kE:=za KE.out vv;clear hbx kY;refine kO hK (zm kE) fun hHeld => ?_
     clear hK K;refine kR 9 fun K hK => ?_
     refine zi (F:=sayF) rfl _ _ 26 99 rfl w2.heap.size Tryz.underlying26 zW rfl (by decide) _ 0 [] rfl hR _ k sc (ss.take k) rfl ((HGS.out _ vv).take (show k≤sn by omega)) (by omega) vv.size ?_;intro aR cR wx how _ hgr hbx;have hR:=how;have vv:=vv.trans hbx;have x2:=(zd (za st.box vv)).2.2;have kE:=za KE.out vv;clear how hgr hbx;simp only [Nat.zero_add,List.nil_append] at hR ⊢;refine kO hK (zm kE) fun hHeld => ?_
     clear hK K;refine kR 18 fun K hK => ?_
     refine zi (F:=sayF) rfl _ _ 26 99 rfl w2.heap.size Tryz.underlying26 zW rfl (by decide) _ k (ss.take k) rfl hR _ (sn - (k+1)) (sc - (k+1)) (ss.drop (k+1)) rfl ((HGS.out _ vv).drop70 (show k+1≤sn by omega)) (by omega) vv.size ?_;intro aQ cQ wy how _ hgr hbx;have hR:=how;have vv:=vv.trans hbx;obtain ⟨kX,stN,hBN⟩:=st.saidNew vv (zH hR st.size);have x2:=(zd (za st.box vv)).2.2;have kE:=za KE.out vv;have fz:=zf kX 2;clear how hgr hbx;refine kO hK (zm kE) fun hHeld => ?_
     clear hK K;refine kK 19 ?_;refine kK 20 ?_;refine kR 21 fun K hK => ?_
     go_simp;have hgX:wy.grownBy (wy.setCell ⟨X,2,none⟩ (.slice aQ (k+(sn - (k+1))) cQ)) (some X):=zj 2 _;have kE:=ze kE hgX (by intro j e; cases e; have:=HXL.out; omega);have kS2:=ze (za KS.out vv) hgX (by intro j e; cases e; have:=HXL.out; have:=HYL.out; omega);refine kO hK (zm kE) fun hHeld => ?_
     clear hK K;refine wpAnyH_done (by kernel_rfl) ?_ _;have HST:=hide stN;have HKE:=hide kE;have HKS:=hide kS2;have HBN:=hide (HB2.out.trans hBN);clear hHeld x2 kE kS2 kX stN hBN fz hgX hR vv;(go_wp2_with fail)
     all_goals (go_meet; exact ⟨rfl,_,_,_,HST.out,HKE.out,HKS.out,HBN.out⟩)
    exact AllReadyH.nil
   exact AllReadyH.nil
  case rest =>
   obtain ⟨rfl,sa2,sn2,sc2,st2,kE,kS,hB⟩:=hcut;obtain ⟨w3,hw3⟩:∃y,y=wc:=⟨_,rfl⟩;subst hw3;clear st HGS KE KS HB2 HYL;have st:=st2;clear st2;obtain ⟨sl,sb,sv⟩:=s;obtain ⟨l,hl⟩:∃l:Nat,sl=(l:Int):=⟨sl.toNat,by have:=HSO.out.1; simp at this; omega⟩;subst hl;obtain ⟨x,hx⟩:∃x,ls[l]? = some x:=⟨_,List.getElem?_eq_getElem (by have:=HSO.out.1; simp at this; omega)⟩;obtain ⟨hnab,u,v,hpa,hpb,-⟩:=HE.out x (List.mem_of_getElem? hx);dsimp only at kS;have vv:Below w3.heap.size w3 w3.drew:=zq (Below.refl _ _);(go_upto_region 3 with fail);by_cases hk2:kind=2
   ·subst hk2;refine wp_region_held_drew (S:=(fun W=>(zcc W X 0 (.slice ba bn bc)∧zcc W X 1 (.slice la ln lc)∧zcc W X 2 (.slice sa2 sn2 sc2))∧(zcc W w.heap.size 0 (.int .i64 2)∧zcc W w.heap.size 1 (.int .i64 (k:Int)))∧(zcc W Y 0 (.int .i64 (l:Int))∧zcc W Y 1 (.bool sb)∧zcc W Y 2 (.int .i64 sv.r)∧zcc W Y 3 (.int .i64 sv.c)∧zcc W Y 4 (.int .i64 sv.h)∧zcc W Y 5 (.int .i64 sv.b)∧zcc W Y 6 (.int .i64 sv.p)))) (by kernel_rfl) (⟨zd (za st.box vv),zm (za kE vv),zag (za kS vv)⟩) (fun hHeld => ?_);refine kK 0 ?_;refine kK 1 ?_;refine kV 2 (.bool true) ?_;refine kV 3 (.bool true) ?_;refine kK 4 ?_;refine kK 5 ?_;refine kK 6 ?_;refine kK 7 ?_;refine kK 8 ?_;refine kR 9 fun K hK => ?_
    go_simp;refine (zbc ⟨ba,bn,bc,bs,la,ln,lc,ls,sa2,sn2,sc2,(ss.take k++ss.drop (k+1))⟩ (l:Int) _ (st.own.below vv).row).mono ?_;rintro e wz ⟨rfl,hbz⟩;have vv:=zc vv hbz;generalize hU:zT _ _ _=U;have hU:zT (bs.map BV.B) ls (l:Int)=U:=hU;(go_wp2_with fail);refine kO hK (⟨zd (za st.box vv),zm (za kE vv),zag (za kS vv)⟩) fun hHeld => ?_
    clear hK K;refine kK 10 ?_;refine wpAnyH_done (by kernel_rfl) ?_ _;cases U
    ·have HST:=hide (st.later vv);have HB:=hide (hB.trans (vv.mono st.size));have HNO:Hid (bs.map BV.B=zcV (bs.map BV.B) ls 2 ⟨(l:Int),sb,sv⟩):=hide (by unfold zcV; rw [if_neg (by intro hc; rw [hU] at hc; cases hc.2)]);clear st vv hB;go_wp2;refine bodyPost_end (v:=.tuple #[]) (by simp [results,Tryz.results78,go_sem, *]) rfl ?_
     first | exact ⟨rfl,bs,sa2,sn2,sc2,HST.out,HNO.out,HB.out⟩ | exact ⟨rfl,bs,⟨sa2,sn2,sc2,HST.out⟩,HNO.out,HB.out⟩
    ·cases sb
     ·obtain ⟨i,y,hi,hy⟩:=za8 hpb;have HS:Hid (∀y2:BV,y2.B=hearB y.B x.q sv→(bs.set i y2).map BV.B=zcV (bs.map BV.B) ls 2 ⟨(l:Int),false,sv⟩):=hide (fun y2 hy2=>by
       unfold zcV zjg;rw [if_pos ⟨rfl,hU⟩];simp only [Int.toNat_natCast,hx,if_false,Bool.false_eq_true];rw [hi];exact zcJ (f:=fun B=>hearB B x.q sv) hy hy2)
      obtain ⟨x0,x1,x2⟩:=zd (za st.box vv);obtain ⟨s0,s1,s2,s3,s4,s5,s6⟩:=zag (za kS vv);have HL:=hide hx;have HYM:=hide (HSM.out y (List.mem_of_getElem? hy));have HYI:=hide hy;have HI:=hide hi;clear hHeld hx hy hi hU hpa hpb hnab;(go_wp2_with fail);refine (zjY ⟨ba,bn,bc,bs,la,ln,lc,ls,sa2,sn2,sc2,(ss.take k++ss.drop (k+1))⟩ base X l i x y sv _ (st.later vv) HL.out HYI.out HI.out HYM.out).mono ?_;rintro e w4 ⟨rfl,y2,hy2,st4,b4⟩;have HST:=hide st4;have HY2:=hide (HS.out y2 hy2);have HB:=hide ((hB.trans (vv.mono st.size)).trans b4);clear st vv hB st4 b4 hy2 x0 x1 x2 s0 s1 s2 s3 s4 s5 s6;go_wp2;refine bodyPost_end (v:=.tuple #[]) (by simp [results,Tryz.results78,go_sem, *]) rfl ?_
      first | exact ⟨rfl,bs.set i y2,sa2,sn2,sc2,HST.out,HY2.out,HB.out⟩ | exact ⟨rfl,bs.set i y2,⟨sa2,sn2,sc2,HST.out⟩,HY2.out,HB.out⟩
     ·obtain ⟨i,y,hi,hy⟩:=za8 hpa;have HS:Hid (∀y2:BV,y2.B=hearB y.B x.p sv→(bs.set i y2).map BV.B=zcV (bs.map BV.B) ls 2 ⟨(l:Int),true,sv⟩):=hide (fun y2 hy2=>by
       unfold zcV zjg;rw [if_pos ⟨rfl,hU⟩];simp only [Int.toNat_natCast,hx,if_true];rw [hi];exact zcJ (f:=fun B=>hearB B x.p sv) hy hy2)
      obtain ⟨x0,x1,x2⟩:=zd (za st.box vv);obtain ⟨s0,s1,s2,s3,s4,s5,s6⟩:=zag (za kS vv);have HL:=hide hx;have HYM:=hide (HSM.out y (List.mem_of_getElem? hy));have HYI:=hide hy;have HI:=hide hi;clear hHeld hx hy hi hU hpa hpb hnab;(go_wp2_with fail);refine (zip ⟨ba,bn,bc,bs,la,ln,lc,ls,sa2,sn2,sc2,(ss.take k++ss.drop (k+1))⟩ base X l i x y sv _ (st.later vv) HL.out HYI.out HI.out HYM.out).mono ?_;rintro e w4 ⟨rfl,y2,hy2,st4,b4⟩;have HST:=hide st4;have HY2:=hide (HS.out y2 hy2);have HB:=hide ((hB.trans (vv.mono st.size)).trans b4);clear st vv hB st4 b4 hy2 x0 x1 x2 s0 s1 s2 s3 s4 s5 s6;go_wp2;refine bodyPost_end (v:=.tuple #[]) (by simp [results,Tryz.results78,go_sem, *]) rfl ?_
      first | exact ⟨rfl,bs.set i y2,sa2,sn2,sc2,HST.out,HY2.out,HB.out⟩ | exact ⟨rfl,bs.set i y2,⟨sa2,sn2,sc2,HST.out⟩,HY2.out,HB.out⟩
   ·have e2:(kind == 2)=false:=by simpa using hk2
    refine wp_region_held_drew (S:=(fun W=>(zcc W X 0 (.slice ba bn bc)∧zcc W X 1 (.slice la ln lc)∧zcc W X 2 (.slice sa2 sn2 sc2))∧(zcc W w.heap.size 0 (.int .i64 kind)∧zcc W w.heap.size 1 (.int .i64 (k:Int)))∧(zcc W Y 0 (.int .i64 (l:Int))∧zcc W Y 1 (.bool sb)∧zcc W Y 2 (.int .i64 sv.r)∧zcc W Y 3 (.int .i64 sv.c)∧zcc W Y 4 (.int .i64 sv.h)∧zcc W Y 5 (.int .i64 sv.b)∧zcc W Y 6 (.int .i64 sv.p)))) (by kernel_rfl) (⟨zd (za st.box vv),zm (za kE vv),zag (za kS vv)⟩) (fun hHeld => ?_);refine kK 0 ?_;refine kK 1 ?_;refine kV 2 (.bool false) ?_;refine kV 3 (.bool false) ?_;refine kN 4 ?_;refine kN 5 ?_;refine kN 6 ?_;refine kN 7 ?_;refine kN 8 ?_;refine kN 9 ?_;refine kK 10 ?_;refine wpAnyH_done (by kernel_rfl) ?_ _;have HST:=hide (st.later vv);have HB:=hide (hB.trans (vv.mono st.size));have HNO:Hid (bs.map BV.B=zcV (bs.map BV.B) ls kind ⟨(l:Int),sb,sv⟩):=hide (by unfold zcV; rw [if_neg (by intro hc; exact hk2 hc.1)]);clear st vv hB;go_wp2;refine bodyPost_end (v:=.tuple #[]) (by simp [results,Tryz.results78,go_sem, *]) rfl ?_
    first | exact ⟨rfl,bs,sa2,sn2,sc2,HST.out,HNO.out,HB.out⟩ | exact ⟨rfl,bs,⟨sa2,sn2,sc2,HST.out⟩,HNO.out,HB.out⟩

def zbf (b0:List BR) (ls:List LK) (cur:List BR) (k:Nat):List BR:=match ls[k]? with
 | some x=>if zT b0 ls (k:Int)=true then atSet (atSet cur x.a.toNat (fun B=>hearB B x.p (sayAt b0 x.b x.q))) x.b.toNat (fun B=>hearB B x.q (sayAt b0 x.a x.p)) else cur
 | none=>cur
def za7 (b0:List BR) (ls:List LK):Nat→List BR
 | 0=>b0
 | k+1=>zbf b0 ls (za7 b0 ls k) k

structure zia (N M:NV):Prop where
 l:M.ls=N.ls
 yes:NetOk N.brs N.ls N.ss→M.brs=za7 N.brs N.ls N.ls.length∧M.ss=[]
 no:¬NetOk N.brs N.ls N.ss→M.brs=N.brs∧M.ss=N.ss

theorem ze9 {P:BR→Prop} {l:List BR} {i:Nat} {f:BR→BR} (h:∀B∈l,P B) (hf:∀B,P B→P (f B)):∀B∈atSet l i f,P B:=by
 unfold atSet
 split
 ·next x hx =>
  intro B hB;rcases List.mem_or_eq_of_mem_set hB with h1 | h1
  ·exact h B h1
  ·rw [h1]; exact hf _ (h _ (List.mem_of_getElem? hx))
 ·exact h

theorem zc8 {P:BR→Prop} {b0:List BR} (ls:List LK) (h:∀B∈b0,P B) (hf:∀B p v,P B→P (hearB B p v)):∀k,∀B∈za7 b0 ls k,P B
 | 0=>h
 | k+1=>by
  have ih:=zc8 ls h hf k
  show ∀B∈zbf b0 ls (za7 b0 ls k) k,P B
  unfold zbf
  split
  ·split
   ·exact ze9 (ze9 ih (fun B=>hf B _ _)) (fun B=>hf B _ _)
   ·exact ih
  ·exact ih

def upsB (B:BR):List Bool:=B.ports.map PT.up

theorem zfa {α:Type} (g:BR→α) {l:List BR} {i:Nat} {f:BR→BR} (hf:∀B,g (f B)=g B):(atSet l i f).map g=l.map g:=by
 unfold atSet
 split
 ·next x hx =>
  rw [List.map_set,hf]
  apply List.ext_getElem?
  intro j;rw [List.getElem?_set]
  split
  ·next e =>
   subst e;have hj:=(List.getElem?_eq_some_iff.1 hx).1;rw [if_pos (by simpa using hj),List.getElem?_map,hx]
   rfl
  ·rfl
 ·rfl

theorem zgM (B:BR) (p:Int) (v:VD):upsB (hearB B p v)=upsB B:=by
 unfold hearB
 split
 ·split
  ·next x hx =>
   split
   ·show List.map PT.up (B.ports.set p.toNat ⟨x.up,x.k,true,v⟩)=List.map PT.up B.ports
    rw [List.map_set]
    apply List.ext_getElem?
    intro j;rw [List.getElem?_set]
    split
    ·next e =>
     subst e;have hj:=(List.getElem?_eq_some_iff.1 hx).1;rw [if_pos (by simpa using hj),List.getElem?_map,hx]
     rfl
    ·rfl
   ·rfl
  ·rfl
 ·rfl

theorem zjF {l l':List BR} (h:l.map upsB=l'.map upsB) (b p:Int):upAt l b p=upAt l' b p:=by
 have key:∀l:List BR,upAt l b p=(match (if 0≤b∧0≤p then ((l.map upsB)[b.toNat]?).bind (fun u=>u[p.toNat]?) else none) with
  | some u=>u
  | none=>false):=by
  intro l;unfold upAt zad;by_cases hc:0≤b∧0≤p
  ·rw [if_pos hc,if_pos hc,List.getElem?_map];cases hl:l[b.toNat]? with
   | none=>rfl
   | some B =>
    show (match B.ports[p.toNat]? with
     | some y=>y.up
     | none=>false)=_
    simp only [Option.map_some,Option.bind_some,upsB,List.getElem?_map];cases B.ports[p.toNat]? <;> rfl
  ·rw [if_neg hc,if_neg hc]
 rw [key,key,h]

theorem zex {l l':List BR} (h:l.map upsB=l'.map upsB) (ls:List LK) (k:Int):zT l ls k=zT l' ls k:=by
 unfold zT
 split
 ·split
  ·rw [zjF h,zjF h]
  ·rfl
 ·rfl

theorem zb2 (b0:List BR) (ls:List LK):∀k,(za7 b0 ls k).map upsB=b0.map upsB
 | 0=>rfl
 | k+1=>by
  show (zbf b0 ls (za7 b0 ls k) k).map upsB=_
  unfold zbf
  split
  ·split
   ·rw [zfa upsB (fun B=>zgM B _ _),zfa upsB (fun B=>zgM B _ _)];exact zb2 b0 ls k
   ·exact zb2 b0 ls k
  ·exact zb2 b0 ls k

theorem ziY {l l':List BR} (h:l.map upsB=l'.map upsB):l.length=l'.length:=by
 have:=congrArg List.length h
 simpa using this

def BR.Sm (B:BR):Prop:=B.ports.length≤1048576∧B.f.length≤1048576∧B.v.rows.length≤1048576∧B.v.own.length≤1048576
theorem zmX {V B:BR} (h:lessB V B) (hB:B.Sm):V.Sm:=by
 obtain ⟨h1,h2,h3⟩:=h;obtain ⟨s1,s2,s3,s4⟩:=hB;exact ⟨by omega,by omega,by rw [h3]; exact s3,by rw [h3]; exact s4⟩
theorem zci {w:World} {N:NV} (h:zaa w N) (hs:∀B∈N.brs,B.Sm):∀y∈N.bs,y.Small20:=by
 intro y hy;have r:=h.item y hy;have s:=hs y.B (by unfold NV.brs; exact List.mem_map_of_mem hy);have q1:=r.ports.size;have q2:=r.f.size;have q3:=r.v.rows.size;have q4:=r.v.own.size;obtain ⟨s1,s2,s3,s4⟩:=s;exact ⟨by omega,by omega,by omega,by omega⟩
theorem zlh {w:World} {N:NV} (h:zaa w N) (hs:∀y∈N.bs,y.Small20):∀B∈N.brs,B.Sm:=by
 intro B hB;obtain ⟨y,hy,rfl⟩:=List.mem_map.1 hB;have r:=h.item y hy;have q1:=r.ports.size;have q2:=r.f.size;have q3:=r.v.rows.size;have q4:=r.v.own.size;obtain ⟨s1,s2,s3,s4⟩:=hs y hy;exact ⟨by omega,by omega,by omega,by omega⟩
theorem zfK {l:List BV} (h:∀y∈l,y.Small20):∀x∈l,x.n≤16777216∧x.fn≤16777216∧x.rn≤16777216∧x.on≤16777216:=by
 intro x hx;obtain ⟨h1,h2,h3,h4⟩:=h x hx;exact ⟨by omega,by omega,by omega,by omega⟩

theorem zR {w w':World} {base i:Nat} {o:Obj} (h:w.heap[i]? = some o) (hb:Below base w w') (hi:i < base):w'.heap[i]? = some o:=by rw [hb.block i hi]; exact h

theorem NOwn.out {W:World} {base:Nat} {M:NV} (h:NOwn W base M) {R:Nat} {cs:Array Value} (hR:W.heap[R]? = some (.cells cs 28)):NOwn (((W.setCell ⟨R,0,none⟩ (.slice M.ba M.bn M.bc)).setCell ⟨R,1,none⟩ (.slice M.la M.ln M.lc)).setCell ⟨R,2,none⟩ (.slice M.sa M.sn M.sc)) base M :=
 h.boxed hR (zI (zI (zj (rb:=R) 0 _) (zj 1 _)) (zj 2 _))
theorem zak {B:Nat} {w W:World} (h:Below B w W) {R:Nat} (hR:B≤R) (v0 v1 v2:Value):Below B w (((W.setCell ⟨R,0,none⟩ v0).setCell ⟨R,1,none⟩ v1).setCell ⟨R,2,none⟩ v2) :=
 zr (zr (zr h hR 0 v0) hR 1 v1) hR 2 v2

theorem zkc {b0:List BR} {ls:List LK} {k:Nat} {x:LK} {cur:List BR} (hx:ls[k]? = some x) (hu:zT b0 ls (k:Int)=true):zbf b0 ls cur k=atSet (atSet cur x.a.toNat (fun B=>hearB B x.p (sayAt b0 x.b x.q))) x.b.toNat (fun B=>hearB B x.q (sayAt b0 x.a x.p)):=by
 unfold zbf; rw [hx]; simp [hu]
theorem zkb {b0:List BR} {ls:List LK} {k:Nat} {cur:List BR} (hu:zT b0 ls (k:Int)=false):zbf b0 ls cur k=cur:=by
 unfold zbf; split <;> simp [hu]

theorem zh4 {bs bs2:List BV} {i:Nat} {y:BV} (h:bs[i]? = some y) (hl:bs2.length=bs.length):∃z,bs2[i]? = some z:=by
 have:=(List.getElem?_eq_some_iff.1 h).1
 exact ⟨_,List.getElem?_eq_getElem (by omega)⟩

def zaN (bs:List BR) (ls:List LK) (ss:List SY) (kd:Int):Nat:=if kd=1∨kd=6 then bs.length else if kd=2∨kd=3 then ss.length else if kd=4∨kd=5 then ls.length else 0
def zbB (bs:List BR) (ls:List LK) (ss:List SY) (kd a:Int):Prop:=0≤a∧a < (zaN bs ls ss kd:Int)
def zc6 (bs:List BR) (ls:List LK) (k:Nat) (up:Bool):List BR:=if zT bs ls (k:Int)=up then bs else match ls[k]? with
 | some x=>atSet (atSet bs x.a.toNat (fun B=>linkB B x.p up)) x.b.toNat (fun B=>linkB B x.q up)
 | none=>bs
def zfk (bs:List BR) (ls:List LK) (ss:List SY) (kd:Int) (k:Nat):List BR:=match ss[k]? with
 | some s=>zcV bs ls kd s
 | none=>bs
def stepB (bs:List BR) (ls:List LK) (ss:List SY) (kd a:Int):List BR:=if kd=6 then atSet bs a.toNat tickB else if kd=2∨kd=3 then zfk bs ls ss kd a.toNat else if kd=4∨kd=5 then zc6 bs ls a.toNat (decide (kd=5)) else bs
def stepS (bs:List BR) (ls:List LK) (ss:List SY) (kd a:Int):List SY:=if kd=1 then sayTo bs ls a ss ls.length else if kd=2∨kd=3 then ss.take a.toNat++ss.drop (a.toNat+1) else ss

structure StepR (a:List BR × List LK × List SY) (kd i:Int) (b:List BR × List LK × List SY) (q:Bool):Prop where
 l:b.2.1=a.2.1
 yes:NetOk a.1 a.2.1 a.2.2→zbB a.1 a.2.1 a.2.2 kd i→q=true∧b.1=stepB a.1 a.2.1 a.2.2 kd i∧b.2.2=stepS a.1 a.2.1 a.2.2 kd i
 no:¬(NetOk a.1 a.2.1 a.2.2∧zbB a.1 a.2.1 a.2.2 kd i)→q=false∧b.1=a.1∧b.2.2=a.2.2

def zbk (N:NV) (kd i:Int) (M:NV) (q:Bool):Prop:=StepR (N.brs,N.ls,N.ss) kd i (M.brs,M.ls,M.ss) q

theorem zda {N M:NV} {kd i:Int} (hS:M.Same N) (h:¬(NetOk N.brs N.ls N.ss∧zbB N.brs N.ls N.ss kd i)):zbk N kd i M false :=
 ⟨hS.l,fun h1 h2=>absurd ⟨h1,h2⟩ h,fun _=>⟨rfl,hS.b,hS.s⟩⟩
theorem zcd {N M:NV} {kd i:Int} (hl:M.ls=N.ls) (ho:NetOk N.brs N.ls N.ss) (ht:zbB N.brs N.ls N.ss kd i) (hb:M.brs=stepB N.brs N.ls N.ss kd i) (hs:M.ss=stepS N.brs N.ls N.ss kd i):zbk N kd i M true :=
 ⟨hl,fun _ _=>⟨rfl,hb,hs⟩,fun hc=>absurd ⟨ho,ht⟩ hc⟩

end Go.Proofs.YtkaefmfopejbaaaGreat
