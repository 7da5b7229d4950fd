/-
  FnSteps answers true of every code: whatever happens to drawn bridges and links, they stay right; what is refused changes nothing.
-/
import Derived.Test.YtkoekkjfcaiagaaGreatPSKW
import Derived.Test.YtkoekkjfcaiagaaGreatPSK01
import Derived.Test.YtkoekkjfcaiagaaGreatPSK06
import Derived.Test.YtkoekkjfcaiagaaGreatPSK16
import Derived.Test.YtkoekkjfcaiagaaGreatPSK26
import Derived.Test.YtkoekkjfcaiagaaGreatPSK32
import Derived.Test.YtkoekkjfcaiagaaGreatPSK36
import Derived.Test.YtkoekkjfcaiagaaGreatPSK41
import Derived.Test.YtkoekkjfcaiagaaGreatPSStepStepI
import Derived.WalkKit
import Derived.ProofKit
import Derived.OpenShut
import Derived.ShutString
import Derived.ChangeOld
import Derived.Below
namespace Go.Proofs.YtkoekkjfcaiagaaGreat
set_option maxRecDepth 100000
set_option maxHeartbeats 16000000
open Go.RowKit

abbrev q549:Oper:=⟨some 29,.call ⟨.value (.func 22),#[.tmp 24,.tmp 28],#[31,51]⟩,48,"laws.go:742",#[⟨0,.data⟩,⟨4,.data⟩],none⟩
abbrev q550:Oper:=⟨some 23,.move (.tmp 29),48,"laws.go:742",#[⟨5,.data⟩],none⟩
abbrev q551:Oper:=⟨some 30,.extract (.tmp 23) 0,31,"laws.go:742",#[⟨6,.data⟩],none⟩
abbrev q552:Oper:=⟨some 31,.extract (.tmp 23) 1,4,"laws.go:742",#[⟨6,.data⟩,{ on:=10,ground:=Ground.gcOnly Departure.lateStores }],none⟩
abbrev q553:Oper:=⟨some 6,.alloc 31,0,"laws.go:742",#[],none⟩
abbrev q554:Oper:=⟨none,.store 31 (.tmp 6) (.tmp 30),0,"laws.go:742",#[⟨9,.data⟩,⟨7,.data⟩,⟨5,.chain⟩,⟨0,.phase⟩,⟨1,.phase⟩,⟨2,.phase⟩,⟨3,.phase⟩,⟨4,.phase⟩,⟨5,.phase⟩,⟨6,.phase⟩,⟨7,.phase⟩,{ on:=8,ground:=Ground.textOnly Departure.lateStores },⟨9,.phase⟩],none⟩
abbrev q555:Oper:=⟨some 7,.assign (.tmp 31),4,"laws.go:742",#[⟨8,.data⟩,⟨10,.chain⟩,⟨0,.phase⟩,⟨1,.phase⟩,⟨2,.phase⟩,⟨3,.phase⟩,⟨4,.phase⟩,⟨5,.phase⟩,⟨6,.phase⟩,⟨7,.phase⟩,⟨8,.phase⟩,⟨9,.phase⟩,⟨10,.phase⟩],none⟩
abbrev q556:Oper:=⟨some 38,.call ⟨.value (.func 23),#[.tmp 33,.tmp 37],#[31,51]⟩,48,"laws.go:743",#[⟨0,.data⟩,⟨4,.data⟩],none⟩
abbrev q557:Oper:=⟨some 32,.move (.tmp 38),48,"laws.go:743",#[⟨5,.data⟩],none⟩
abbrev q558:Oper:=⟨some 39,.extract (.tmp 32) 0,31,"laws.go:743",#[⟨6,.data⟩],none⟩
abbrev q559:Oper:=⟨some 40,.extract (.tmp 32) 1,4,"laws.go:743",#[⟨6,.data⟩,{ on:=10,ground:=Ground.gcOnly Departure.lateStores }],none⟩
abbrev q560:Oper:=⟨some 8,.alloc 31,0,"laws.go:743",#[],none⟩
abbrev q561:Oper:=⟨none,.store 31 (.tmp 8) (.tmp 39),0,"laws.go:743",#[⟨9,.data⟩,⟨7,.data⟩,⟨5,.chain⟩,⟨0,.phase⟩,⟨1,.phase⟩,⟨2,.phase⟩,⟨3,.phase⟩,⟨4,.phase⟩,⟨5,.phase⟩,⟨6,.phase⟩,⟨7,.phase⟩,{ on:=8,ground:=Ground.textOnly Departure.lateStores },⟨9,.phase⟩],none⟩
abbrev q562:Oper:=⟨some 9,.assign (.tmp 40),4,"laws.go:743",#[⟨8,.data⟩,⟨10,.chain⟩,⟨0,.phase⟩,⟨1,.phase⟩,⟨2,.phase⟩,⟨3,.phase⟩,⟨4,.phase⟩,⟨5,.phase⟩,⟨6,.phase⟩,⟨7,.phase⟩,⟨8,.phase⟩,⟨9,.phase⟩,⟨10,.phase⟩],none⟩

theorem zh0 {N M Y:NV} {kd i:Int} {p q:Bool} (h:zam N kd i M p) (k:zam N kd i Y q):M.Same Y∧p=q:=by
 obtain ⟨e,rfl⟩:=ziO h k;simp only [Prod.mk.injEq] at e;exact ⟨⟨e.1,e.2.1,e.2.2⟩,rfl⟩
theorem zjH {N M:NV} {kd i:Int} (h:zam N kd i M false):M.Same N:=by
 by_cases hc:NetOk N.brs N.ls N.ss∧zaB N.brs N.ls N.ss kd i
 ·have:=(h.yes hc.1 hc.2).1
  cases this
 ·obtain ⟨-,e1,e2⟩:=h.no hc;exact ⟨e1,h.l,e2⟩

theorem zh1 (a0:Option Addr) (l0 c0:Nat) (z0:List Int) (w:World) (h0:Row w a0 l0 c0 z0) :
  Calls Tryz.prog 4 #[.slice a0 l0 c0] w fun e w'=>e=.returned (.bool true)∧Below w.heap.size w w':=by
 by_cases hbig:1048576 < l0
 ·have hb1:Calls Tryz.prog 7 #[.slice a0 l0 c0] w fun e w'=>e=.returned (.bool true)∧w'=w:=by
   have i1:(1048576:Int) < l0:=by omega
   go_enter Tryz.func7,Tryz.ntmps7;go_wp2;go_ret;exact ⟨rfl,rfl⟩
  go_enter Tryz.func4,Tryz.ntmps4;go_wp2_with (go_at_call 7; refine hb1.mono ?_; rintro e w' ⟨rfl,rfl⟩)
  go_ret;exact ⟨rfl,Below.refl _ _⟩
 go_enter Tryz.func4,Tryz.ntmps4;go_wp2_with (go_at_call 7; refine (zki a0 l0 c0 _ hbig).mono ?_; rintro e w' ⟨rfl,e3⟩; obtain rfl:=e3.symm)
 refine (zgx a0 l0 c0 z0 _ h0 (by omega)).mono ?_;rintro e w1 ⟨N0,ao,cap,l,rfl,oN,hok,hl,oE,bw⟩;have HOK0:=hide hok;have HL:=hide hl;generalize hwb:w1.alloc (Obj.cells #[.slice N0.ba N0.bn N0.bc,.slice N0.la N0.ln N0.lc,.slice N0.sa N0.sn N0.sc] 31)=w2;have bb:=zb hwb;have kN:=zk hwb;have oN:=oN.below bb;have oE:=zh oE bb;have hXB:w.heap.size≤w1.heap.size:=bw.size;have bw:=zc bw bb;generalize hXN:w1.heap.size=XN at *;clear hok bb hl;go_wp2_with fail
 clear hwb
 go_loopw [5,6,7,8,9] (fun v u6 u7 u8 u9 wr=>∃(i:Nat) (N:NV),v=.int .i64 (i:Int)∧i≤l.length∧NetOk N.brs N.ls N.ss∧wr.heap[XN]?=some (.cells #[.slice N.ba N.bn N.bc,.slice N.la N.ln N.lc,.slice N.sa N.sn N.sc] 31)∧NOwn wr w.heap.size N∧wr.ownsRow w.heap.size 51 2 (.slice ao l.length cap) l.length (evF.all l)∧Below w.heap.size w wr) (fun v _ _ _ _ _=>l.length - (intOf v).toNat)
 case atStart=>exact ⟨0,N0,rfl,Nat.zero_le _,HOK0.out,kN,oN,oE,bw⟩
 case round =>
  clear oN oE bw kN;obtain ⟨i,N,rfl,hi,hok,kN,oN,oE,bw⟩:=hrel;have HOK:=hide hok;have HSZ:=hide (zfv oN.row hok);have hl9:(l.length:Int)≤1000:=by have:=HL.out; omega
  clear hok;obtain ⟨x0,x1,x2⟩:=zd kN;by_cases hil:i < l.length
  ·have hil':(i:Int) < (l.length:Int):=by omega
   have hi0:(0:Int)≤(i:Int):=by omega
   obtain ⟨x,eb,eo,-,hea,v0,v1⟩:=zjg (zB (F:=evF) oE) i hil;have hea:=hide hea;rw [hea.out];(go_upto_region 7 with fail)
   go_cut [6,7] from 23 to 31 (fun va vb wx=>∃(Y6:Nat) (M6:NV) (q6:Bool),va=.pointer (some ⟨Y6,0,none⟩)∧vb=.bool q6∧wx.heap[Y6]?=some (.cells #[.slice M6.ba M6.bn M6.bc,.slice M6.la M6.ln M6.lc,.slice M6.sa M6.sn M6.sc] 31)∧NOwn wx w.heap.size M6∧zam N x.kd x.i M6 q6∧Below wr.heap.size wr wx)
   case first =>
    have vv:Below wr.heap.size wr wr.drew:=zp (Below.refl _ _);refine wp_region_held_drew (S:=(fun W=>(W.cell? ⟨XN,0,none⟩=some (.slice N.ba N.bn N.bc)∧W.cell? ⟨XN,1,none⟩=some (.slice N.la N.ln N.lc)∧W.cell? ⟨XN,2,none⟩=some (.slice N.sa N.sn N.sc))∧W.cell? ⟨eb,eo+i*2,none⟩=some (.int .i64 x.kd)∧W.cell? ⟨eb,eo+i*2+1,none⟩=some (.int .i64 x.i))) (by kernel_rfl) (⟨zd (za kN vv),(vv.cell (zl v0)).trans v0,(vv.cell (zl v1)).trans v1⟩) (fun hHeld => ?_);refine kK 0 ⟨some 24,.load 31 (.tmp 3),31,"laws.go:742",#[],none⟩ ?_;refine kK 1 ⟨some 25,.move (.tmp 4),45,"laws.go:742",#[],none⟩ ?_;refine kK 2 ⟨some 26,.move (.tmp 5),3,"laws.go:742",#[],none⟩ ?_;refine kK 3 ⟨some 27,.indexAddr 45 (.tmp 25) (.tmp 26),0,"laws.go:742",#[⟨1,.data⟩,⟨2,.data⟩],none⟩ ?_;refine kK 4 ⟨some 28,.load 51 (.tmp 27),51,"laws.go:742",#[⟨3,.data⟩],none⟩ ?_;refine tR [5,9] ?_;refine AllReadyH.cons (o:=q549) rfl (fun K hK => ?_) ?_
    ·go_simp;refine (zdm N x.kd x.i _ (oN.row.below vv) (by have:=HSZ.out; omega) (by have:=HSZ.out; omega) (by have:=HSZ.out; omega) (zbC (oN.row.below vv) (fun B hB=>ok_sm (HOK.out.1.1 B hB))) (fun B hB=>ok_rg (HOK.out.1.1 B hB))).mono ?_;rintro r wz3 ⟨M6,q6,rfl,n4,r4,hbz⟩;have n4:=n4.lt (base':=w.heap.size) (Nat.le_trans bw.size vv.size);(try have kY:=za kY hbz);have vv:=zc vv hbz;(go_wp2_with fail);refine hK.out _ _ (⟨zd (za kN vv),(vv.cell (zl v0)).trans v0,(vv.cell (zl v1)).trans v1⟩) (fun hHeld => ?_);clear hK K;(try simp only [Act.put,lA,lB,lC]);refine kK 6 q550 ?_;refine kK 7 q551 ?_;refine kK 8 q552 ?_;refine kR 9 q553 (fun K hK => ?_);go_simp
     first
     | refine zy (K:=K _) (fun wx kY hbz => ?_)
     | refine zq (K:=K _) (fun wx kY hbz => ?_)
     have gY:wr.heap.size≤_:=vv.size;(try have n4:=n4.below hbz);have vv:=zc vv hbz;refine hK.out _ _ (⟨zd (za kN vv),(vv.cell (zl v0)).trans v0,(vv.cell (zl v1)).trans v1⟩) (fun hHeld => ?_);clear hK K;(try simp only [Act.put,lA,lB,lC]);refine kR 10 q554 (fun K hK => ?_);obtain ⟨xx0,xx1,xx2⟩:=zd kY;have ff0:=zf kY 0;have ff1:=zf kY 1;have ff2:=zf kY 2;go_simp;refine zT (K:=K _) kY _ _ _ (fun wq kQ hgq => ?_);have n4:=n4.boxed kY hgq;have vv:=vv.grown hgq vv.size (by intro j e; cases e; exact gY);refine hK.out _ _ (⟨zd (za kN vv),(vv.cell (zl v0)).trans v0,(vv.cell (zl v1)).trans v1⟩) (fun hHeld => ?_);clear hK K;(try simp only [Act.put,lA,lB,lC]);refine kK 11 q555 ?_;refine wpAnyH_done (by kernel_rfl) ?_ _;clear hHeld;(go_wp2_with fail)
     go_meet
     exact ⟨_,M6,q6,rfl,rfl,kQ,n4,r4,vv⟩
    refine AllReadyH.cons (o:=q553) rfl (fun K hK => ?_) ?_
    ·go_simp
     first
     | refine zy (K:=K _) (fun wx kY hbz => ?_)
     | refine zq (K:=K _) (fun wx kY hbz => ?_)
     have gY:wr.heap.size≤_:=vv.size;(try have n4:=n4.below hbz);have vv:=zc vv hbz;refine hK.out _ _ (⟨zd (za kN vv),(vv.cell (zl v0)).trans v0,(vv.cell (zl v1)).trans v1⟩) (fun hHeld => ?_);clear hK K;(try simp only [Act.put,lA,lB,lC]);refine kR 5 q549 (fun K hK => ?_);go_simp;refine (zdm N x.kd x.i _ (oN.row.below vv) (by have:=HSZ.out; omega) (by have:=HSZ.out; omega) (by have:=HSZ.out; omega) (zbC (oN.row.below vv) (fun B hB=>ok_sm (HOK.out.1.1 B hB))) (fun B hB=>ok_rg (HOK.out.1.1 B hB))).mono ?_;rintro r wz3 ⟨M6,q6,rfl,n4,r4,hbz⟩;have n4:=n4.lt (base':=w.heap.size) (Nat.le_trans bw.size vv.size);(try have kY:=za kY hbz);have vv:=zc vv hbz;(go_wp2_with fail);refine hK.out _ _ (⟨zd (za kN vv),(vv.cell (zl v0)).trans v0,(vv.cell (zl v1)).trans v1⟩) (fun hHeld => ?_);clear hK K;(try simp only [Act.put,lA,lB,lC]);refine kK 6 q550 ?_;refine kK 7 q551 ?_;refine kK 8 q552 ?_;refine kR 10 q554 (fun K hK => ?_);obtain ⟨xx0,xx1,xx2⟩:=zd kY;have ff0:=zf kY 0;have ff1:=zf kY 1;have ff2:=zf kY 2;go_simp;refine zT (K:=K _) kY _ _ _ (fun wq kQ hgq => ?_);have n4:=n4.boxed kY hgq;have vv:=vv.grown hgq vv.size (by intro j e; cases e; exact gY);refine hK.out _ _ (⟨zd (za kN vv),(vv.cell (zl v0)).trans v0,(vv.cell (zl v1)).trans v1⟩) (fun hHeld => ?_);clear hK K;(try simp only [Act.put,lA,lB,lC]);refine kK 11 q555 ?_;refine wpAnyH_done (by kernel_rfl) ?_ _;clear hHeld;(go_wp2_with fail)
     go_meet
     exact ⟨_,M6,q6,rfl,rfl,kQ,n4,r4,vv⟩
    exact AllReadyH.nil
   case rest =>
    obtain ⟨Y6,M6,q6,rfl,rfl,k6,o6,s6,v6⟩:=hcut;obtain ⟨wm,hwm⟩:∃u,u=wc:=⟨_,rfl⟩;subst hwm;have HOK6:Hid (NetOk M6.brs M6.ls M6.ss):=hide (zd1 s6 HOK.out);have S6:=hide s6;have kN:=za kN v6;have oN:=oN.below v6;have oE:=zh oE v6;have bw:=zc bw v6;have v0:=(v6.cell (zl v0)).trans v0;have v1:=(v6.cell (zl v1)).trans v1;clear v6 s6 x0 x1 x2;obtain ⟨x0,x1,x2⟩:=zd kN;(go_upto_region 8 with fail)
    go_cut [8,9] from 32 to 40 (fun va vb wx=>∃(Y8:Nat) (M8:NV) (q8:Bool),va=.pointer (some ⟨Y8,0,none⟩)∧vb=.bool q8∧wx.heap[Y8]?=some (.cells #[.slice M8.ba M8.bn M8.bc,.slice M8.la M8.ln M8.lc,.slice M8.sa M8.sn M8.sc] 31)∧NOwn wx w.heap.size M8∧zam N x.kd x.i M8 q8∧Below wm.heap.size wm wx)
    case first =>
     have vv:Below wm.heap.size wm wm.drew:=zp (Below.refl _ _);refine wp_region_held_drew (S:=(fun W=>(W.cell? ⟨XN,0,none⟩=some (.slice N.ba N.bn N.bc)∧W.cell? ⟨XN,1,none⟩=some (.slice N.la N.ln N.lc)∧W.cell? ⟨XN,2,none⟩=some (.slice N.sa N.sn N.sc))∧W.cell? ⟨eb,eo+i*2,none⟩=some (.int .i64 x.kd)∧W.cell? ⟨eb,eo+i*2+1,none⟩=some (.int .i64 x.i))) (by kernel_rfl) (⟨zd (za kN vv),(vv.cell (zl v0)).trans v0,(vv.cell (zl v1)).trans v1⟩) (fun hHeld => ?_);refine kK 0 ⟨some 33,.load 31 (.tmp 3),31,"laws.go:743",#[],none⟩ ?_;refine kK 1 ⟨some 34,.move (.tmp 4),45,"laws.go:743",#[],none⟩ ?_;refine kK 2 ⟨some 35,.move (.tmp 5),3,"laws.go:743",#[],none⟩ ?_;refine kK 3 ⟨some 36,.indexAddr 45 (.tmp 34) (.tmp 35),0,"laws.go:743",#[⟨1,.data⟩,⟨2,.data⟩],none⟩ ?_;refine kK 4 ⟨some 37,.load 51 (.tmp 36),51,"laws.go:743",#[⟨3,.data⟩],none⟩ ?_;refine tR [5,9] ?_;refine AllReadyH.cons (o:=q556) rfl (fun K hK => ?_) ?_
     ·go_simp;refine (zbq N x.kd x.i _ (oN.row.below vv) (by have:=HSZ.out; omega) (by have:=HSZ.out; omega) (by have:=HSZ.out; omega) (zbC (oN.row.below vv) (fun B hB=>ok_sm (HOK.out.1.1 B hB))) (fun B hB=>zf5 (HOK.out.1.1 B hB))).mono ?_;rintro r wz3 ⟨M8,q8,rfl,n4,r4,hbz⟩;have n4:=n4.lt (base':=w.heap.size) (Nat.le_trans bw.size vv.size);(try have kY:=za kY hbz);have vv:=zc vv hbz;(go_wp2_with fail);refine hK.out _ _ (⟨zd (za kN vv),(vv.cell (zl v0)).trans v0,(vv.cell (zl v1)).trans v1⟩) (fun hHeld => ?_);clear hK K;(try simp only [Act.put,lA,lB,lC]);refine kK 6 q557 ?_;refine kK 7 q558 ?_;refine kK 8 q559 ?_;refine kR 9 q560 (fun K hK => ?_);go_simp
      first
      | refine zy (K:=K _) (fun wx kY hbz => ?_)
      | refine zq (K:=K _) (fun wx kY hbz => ?_)
      have gY:wm.heap.size≤_:=vv.size;(try have n4:=n4.below hbz);have vv:=zc vv hbz;refine hK.out _ _ (⟨zd (za kN vv),(vv.cell (zl v0)).trans v0,(vv.cell (zl v1)).trans v1⟩) (fun hHeld => ?_);clear hK K;(try simp only [Act.put,lA,lB,lC]);refine kR 10 q561 (fun K hK => ?_);obtain ⟨xx0,xx1,xx2⟩:=zd kY;have ff0:=zf kY 0;have ff1:=zf kY 1;have ff2:=zf kY 2;go_simp;refine zT (K:=K _) kY _ _ _ (fun wq kQ hgq => ?_);have n4:=n4.boxed kY hgq;have vv:=vv.grown hgq vv.size (by intro j e; cases e; exact gY);refine hK.out _ _ (⟨zd (za kN vv),(vv.cell (zl v0)).trans v0,(vv.cell (zl v1)).trans v1⟩) (fun hHeld => ?_);clear hK K;(try simp only [Act.put,lA,lB,lC]);refine kK 11 q562 ?_;refine wpAnyH_done (by kernel_rfl) ?_ _;clear hHeld;(go_wp2_with fail)
      go_meet
      exact ⟨_,M8,q8,rfl,rfl,kQ,n4,r4,vv⟩
     refine AllReadyH.cons (o:=q560) rfl (fun K hK => ?_) ?_
     ·go_simp
      first
      | refine zy (K:=K _) (fun wx kY hbz => ?_)
      | refine zq (K:=K _) (fun wx kY hbz => ?_)
      have gY:wm.heap.size≤_:=vv.size;(try have n4:=n4.below hbz);have vv:=zc vv hbz;refine hK.out _ _ (⟨zd (za kN vv),(vv.cell (zl v0)).trans v0,(vv.cell (zl v1)).trans v1⟩) (fun hHeld => ?_);clear hK K;(try simp only [Act.put,lA,lB,lC]);refine kR 5 q556 (fun K hK => ?_);go_simp;refine (zbq N x.kd x.i _ (oN.row.below vv) (by have:=HSZ.out; omega) (by have:=HSZ.out; omega) (by have:=HSZ.out; omega) (zbC (oN.row.below vv) (fun B hB=>ok_sm (HOK.out.1.1 B hB))) (fun B hB=>zf5 (HOK.out.1.1 B hB))).mono ?_;rintro r wz3 ⟨M8,q8,rfl,n4,r4,hbz⟩;have n4:=n4.lt (base':=w.heap.size) (Nat.le_trans bw.size vv.size);(try have kY:=za kY hbz);have vv:=zc vv hbz;(go_wp2_with fail);refine hK.out _ _ (⟨zd (za kN vv),(vv.cell (zl v0)).trans v0,(vv.cell (zl v1)).trans v1⟩) (fun hHeld => ?_);clear hK K;(try simp only [Act.put,lA,lB,lC]);refine kK 6 q557 ?_;refine kK 7 q558 ?_;refine kK 8 q559 ?_;refine kR 10 q561 (fun K hK => ?_);obtain ⟨xx0,xx1,xx2⟩:=zd kY;have ff0:=zf kY 0;have ff1:=zf kY 1;have ff2:=zf kY 2;go_simp;refine zT (K:=K _) kY _ _ _ (fun wq kQ hgq => ?_);have n4:=n4.boxed kY hgq;have vv:=vv.grown hgq vv.size (by intro j e; cases e; exact gY);refine hK.out _ _ (⟨zd (za kN vv),(vv.cell (zl v0)).trans v0,(vv.cell (zl v1)).trans v1⟩) (fun hHeld => ?_);clear hK K;(try simp only [Act.put,lA,lB,lC]);refine kK 11 q562 ?_;refine wpAnyH_done (by kernel_rfl) ?_ _;clear hHeld;(go_wp2_with fail)
      go_meet
      exact ⟨_,M8,q8,rfl,rfl,kQ,n4,r4,vv⟩
     exact AllReadyH.nil
    case rest =>
     obtain ⟨Y8,M8,q8,rfl,rfl,k8,o8,s8,v8⟩:=hcut;obtain ⟨wn,hwn⟩:∃u,u=wc:=⟨_,rfl⟩;subst hwn;obtain ⟨hs68,rfl⟩:=zh0 S6.out s8;have HS68:=hide hs68;have kN:=za kN v8;have oN:=oN.below v8;have k6:=za k6 v8;have o6:=o6.below v8;have oE:=zh oE v8;have bw:=zc bw v8;clear v8 s8 v0 v1 x0 x1 x2 hs68;cases q6
     ·have HS6N:=hide (zjH S6.out);have qq:(false != false)=false:=rfl;obtain ⟨t0,t1,t2⟩:=zd k6;obtain ⟨y0,y1,y2⟩:=zd k8;obtain ⟨x0,x1,x2⟩:=zd kN;(go_wp2_with fail);refine (zcA M6 M8 _ o6.row o8.row HS68.out).mono ?_;rintro r wz ⟨rfl,hbz⟩;have kN:=za kN hbz;have k6:=za k6 hbz;have o6:=o6.below hbz;have oN:=oN.below hbz;have oE:=zh oE hbz;have bw:=zc bw hbz;clear hbz t0 t1 t2 x0 x1 x2 y0 y1 y2 k8 o8;obtain ⟨t0,t1,t2⟩:=zd k6;(go_wp2_with fail);refine (zbH M6 _ o6.row (fun x hx=>by have:=(zbC o6.row (fun B hB=>ok_sm (HOK6.out.1.1 B hB)) x hx).2.1; omega) (fun x hx=>(ok_rg (HOK6.out.1.1 x.B (by unfold NV.brs; exact List.mem_map_of_mem hx))).2)).mono ?_;rintro r wz ⟨qk,rfl,hqk,hbz⟩;obtain rfl:=hqk.2 HOK6.out;have kN:=za kN hbz;have k6:=za k6 hbz;have o6:=o6.below hbz;have oN:=oN.below hbz;have oE:=zh oE hbz;have bw:=zc bw hbz;clear hbz hqk t0 t1 t2;obtain ⟨t0,t1,t2⟩:=zd k6;obtain ⟨x0,x1,x2⟩:=zd kN;(go_wp2_with fail);refine (zcA M6 N _ o6.row oN.row HS6N.out).mono ?_;rintro r wz ⟨rfl,hbz⟩;have kN:=za kN hbz;have k6:=za k6 hbz;have o6:=o6.below hbz;have oN:=oN.below hbz;have oE:=zh oE hbz;have bw:=zc bw hbz;clear hbz t0 t1 t2 x0 x1 x2;clear oN;obtain ⟨t0,t1,t2⟩:=zd k6;obtain ⟨x0,x1,x2⟩:=zd kN;have f0:=zf kN 0;have f1:=zf kN 1;have f2:=zf kN 2;have kQ:=zT (K:=fun V=>V.heap[XN]?=some (.cells #[.slice M6.ba M6.bn M6.bc,.slice M6.la M6.ln M6.lc,.slice M6.sa M6.sn M6.sc] 31)) kN (.slice M6.ba M6.bn M6.bc) (.slice M6.la M6.ln M6.lc) (.slice M6.sa M6.sn M6.sc) (fun _ k _=>k);have gQ:=zT (K:=fun V=>World.grownBy _ V (some XN)) kN (.slice M6.ba M6.bn M6.bc) (.slice M6.la M6.ln M6.lc) (.slice M6.sa M6.sn M6.sc) (fun _ _ k=>k);have HOQ:=hide (o6.boxed kN gQ);have HEQ:=hide (zt oE gQ (zz oE kN (by decide)));have HBQ:=hide (bw.grown gQ bw.size (fun k e=>by cases e; exact hXB));have HKQ:=hide kQ;clear o6 oE gQ kQ bw;go_wp2
      go_roundw
      case rel=>exact ⟨i+1,M6,by go_num,by omega,HOK6.out,HKQ.out,HOQ.out,by rw [← hea.out]; exact HEQ.out,HBQ.out⟩
      case measure=>simp [intOf]; omega
     ·have qq:(true != true)=false:=rfl;obtain ⟨t0,t1,t2⟩:=zd k6;obtain ⟨y0,y1,y2⟩:=zd k8;obtain ⟨x0,x1,x2⟩:=zd kN;(go_wp2_with fail);refine (zcA M6 M8 _ o6.row o8.row HS68.out).mono ?_;rintro r wz ⟨rfl,hbz⟩;have kN:=za kN hbz;have k6:=za k6 hbz;have o6:=o6.below hbz;have oN:=oN.below hbz;have oE:=zh oE hbz;have bw:=zc bw hbz;clear hbz t0 t1 t2 x0 x1 x2 y0 y1 y2 k8 o8;obtain ⟨t0,t1,t2⟩:=zd k6;(go_wp2_with fail);refine (zbH M6 _ o6.row (fun x hx=>by have:=(zbC o6.row (fun B hB=>ok_sm (HOK6.out.1.1 B hB)) x hx).2.1; omega) (fun x hx=>(ok_rg (HOK6.out.1.1 x.B (by unfold NV.brs; exact List.mem_map_of_mem hx))).2)).mono ?_;rintro r wz ⟨qk,rfl,hqk,hbz⟩;obtain rfl:=hqk.2 HOK6.out;have kN:=za kN hbz;have k6:=za k6 hbz;have o6:=o6.below hbz;have oN:=oN.below hbz;have oE:=zh oE hbz;have bw:=zc bw hbz;clear hbz hqk t0 t1 t2;clear oN;obtain ⟨t0,t1,t2⟩:=zd k6;obtain ⟨x0,x1,x2⟩:=zd kN;have f0:=zf kN 0;have f1:=zf kN 1;have f2:=zf kN 2;have kQ:=zT (K:=fun V=>V.heap[XN]?=some (.cells #[.slice M6.ba M6.bn M6.bc,.slice M6.la M6.ln M6.lc,.slice M6.sa M6.sn M6.sc] 31)) kN (.slice M6.ba M6.bn M6.bc) (.slice M6.la M6.ln M6.lc) (.slice M6.sa M6.sn M6.sc) (fun _ k _=>k);have gQ:=zT (K:=fun V=>World.grownBy _ V (some XN)) kN (.slice M6.ba M6.bn M6.bc) (.slice M6.la M6.ln M6.lc) (.slice M6.sa M6.sn M6.sc) (fun _ _ k=>k);have HOQ:=hide (o6.boxed kN gQ);have HEQ:=hide (zt oE gQ (zz oE kN (by decide)));have HBQ:=hide (bw.grown gQ bw.size (fun k e=>by cases e; exact hXB));have HKQ:=hide kQ;clear o6 oE gQ kQ bw;go_wp2
      go_roundw
      case rel=>exact ⟨i+1,M6,by go_num,by omega,HOK6.out,HKQ.out,HOQ.out,by rw [← hea.out]; exact HEQ.out,HBQ.out⟩
      case measure=>simp [intOf]; omega
  ·have hil':¬(i:Int) < (l.length:Int):=by omega
   have HBW:=hide bw;(go_wp2_with fail);refine (zbH N _ oN.row (fun x hx=>by have:=(zbC oN.row (fun B hB=>ok_sm (HOK.out.1.1 B hB)) x hx).2.1; omega) (fun x hx=>(ok_rg (HOK.out.1.1 x.B (by unfold NV.brs; exact List.mem_map_of_mem hx))).2)).mono ?_;rintro r wz ⟨qk,rfl,hqk,hbz⟩;obtain rfl:=hqk.2 HOK.out;have HB:=hide (zc HBW.out hbz);clear hbz hqk;go_wp2;go_ret;exact ⟨rfl,HB.out⟩

theorem fnSteps_own:ownKnob Tryz.prog.godebug=none:=by kernel_rfl
theorem fnSteps_laid:laidOutB Tryz.prog=true:=by kernel_rfl

open Go.ChangeShapes Go.WideShapes Go.ChangeAt in
open Go.ChangeMaps (open_string shut_string) in
theorem fnSteps_lifted (os:Os) (started:os.Started) (H:Type) (enc:TypeId × Value→H) :
  ReturnsInHanded {} Tryz.checked os 4 .any (Rows.fnStepsSpec.pre6 enc Tryz.prog Tryz.f4 Rows.fnStepsRow.domain false) (Rows.fnStepsSpec.post enc Tryz.prog Tryz.f4 false true false false):=by
 refine returnsInHanded_of_change (C:=Tryz.checked) fnSteps_own started (by kernel_rfl) Tryz.func4
  (ChangeSpec.witness6 (enc:=enc) (C:=Tryz.checked) false ⟨#[],#[.slice none 0 0],[]⟩ 8 (by kernel_rfl) (by kernel_rfl) (by kernel_rfl) (by kernel_rfl)) ?_
 intro W base args ds gs before hval0 hW hcnd _;have hval:∀(j:Nat) t v,Tryz.f4.params[j]?=some t→args[j]?=some v→Value.okWide Tryz.prog W .any base t v:=hval0;have hW':=hW;obtain ⟨p,q,hA0,hV,rfl,hfz,hnd⟩:=hW;have hA:DataW.TrodAll enc Tryz.prog W 0 (fun _=>true) true Tryz.f4.params.toList args.toList ds p:=hA0;rw [Tryz.params4] at hA hval;obtain ⟨v0,vs0,d0,ds0,p0,q0,hargs,rfl,rfl,h0,r0⟩:=trodAll_cons hA;obtain ⟨rfl,rfl,rfl⟩:=trodAll_nil r0;obtain rfl:args=#[v0]:=by cases args; simp_all
 obtain ⟨rfl,rfl⟩:=trodVars_none hV;obtain ⟨a0,len0,cap0,rfl⟩:=okWide_slice Tryz.underlying22 (hval 0 22 v0 rfl rfl);have k0:=h0;have lt0:∀x∈p0,x.block < W.heap.size:=by obtain ⟨m,hm⟩:=k0; exact DataW.trod_lt m _ _ _ hm
 obtain ⟨z0,w0⟩:∃zs,Row W a0 len0 cap0 zs:=by
  obtain ⟨fuel,hf⟩:=h0;rcases open_ints Tryz.underlying22 Tryz.underlying5 (by kernel_rfl) hf with ⟨hcs,_⟩ | ⟨x,l,c,zs,hcs,_,hl,hm,hz,_,hcell,hwz⟩
  ·simp [Value.cells] at hcs
   obtain ⟨rfl,rfl,rfl⟩:=hcs;exact ⟨[],zkc W⟩
  ·simp [Value.cells] at hcs
   obtain ⟨rfl,rfl,rfl⟩:=hcs;exact ⟨zs.take len0,zjC hl hm (by simpa using hz) hcell hwz⟩
 clear hA0 hval0;refine (zh1 a0 len0 cap0 z0 W w0).mono fun e W' ⟨he,bel⟩ => ?_
 subst he;exact ⟨_,rfl,_,_,_,[],_,[],hW',trodAll_mk1 (shut_bool Tryz.underlying4 _),(trodAll_cons_mk (Below.trod fnSteps_laid (by kernel_rfl) (of_decide_eq_true (by kernel_rfl)) k0 bel lt0) trodAll_mk0),rfl,bel.frame _,fun h=>by cases h⟩

theorem fnSteps_holds:Rows.FnStepsSaid :=
 OpenClaim.holds_of_wide 4 Tryz.f4 rfl rfl rfl rfl rfl rfl rfl ⟨rfl,rfl,rfl,rfl,rfl⟩ rfl rfl rfl rfl rfl (by kernel_rfl) Tryz.func4 (by kernel_rfl)
  (of_decide_eq_true (by kernel_rfl)) (by unfold Func.isWrapper; first | (rw [if_pos (by decide +kernel)]; kernel_rfl) | (rw [if_neg (by decide +kernel)]; exact ⟨rfl,rfl⟩))
  (fun os started H enc _=>fnSteps_lifted os started H enc)

#print axioms fnSteps_holds

end Go.Proofs.YtkoekkjfcaiagaaGreat
