/-
  l13Copy of the specification: the same bridges, links and what is on its way, in memory of its own.
-/
import Derived.Test.YtkaefmfopejbaaaGreatPVK15
namespace Go.Proofs.YtkaefmfopejbaaaGreat
set_option maxRecDepth 100000
set_option maxHeartbeats 16000000
open Go.RowKit

abbrev q329:Oper:=⟨some 5,.buildSlice 25 0 #[],25,"l13_net.go:103",#[],none⟩
abbrev q330:Oper:=⟨some 8,.call ⟨.builtin .append,#[.tmp 5,.tmp 7],#[25,25]⟩,25,"l13_net.go:103",#[⟨0,.data⟩,⟨2,.data⟩],none⟩
abbrev q331:Oper:=⟨some 9,.buildSlice 26 0 #[],26,"l13_net.go:103",#[],none⟩
abbrev q332:Oper:=⟨some 12,.call ⟨.builtin .append,#[.tmp 9,.tmp 11],#[26,26]⟩,26,"l13_net.go:103",#[⟨4,.data⟩,⟨6,.data⟩,⟨3,.chain⟩],none⟩
abbrev q333:Oper:=⟨some 13,.build 28 #[(1,.tmp 8),(2,.tmp 12)],28,"l13_net.go:103",#[⟨3,.data⟩,⟨7,.data⟩],none⟩
abbrev q334:Oper:=⟨some 3,.alloc 28,0,"l13_net.go:103",#[],none⟩
abbrev q335:Oper:=⟨none,.store 28 (.tmp 3) (.tmp 13),0,"l13_net.go:103",#[⟨9,.data⟩,⟨8,.data⟩,⟨7,.chain⟩,⟨0,.phase⟩,⟨1,.phase⟩,⟨2,.phase⟩,⟨3,.phase⟩,⟨4,.phase⟩,⟨5,.phase⟩,⟨6,.phase⟩,⟨7,.phase⟩,⟨8,.phase⟩,⟨9,.phase⟩],none⟩
abbrev q336:Oper:=⟨some 22,.load 24 (.tmp 21),24,"l13_net.go:105",#[⟨0,.data⟩],none⟩
abbrev q337:Oper:=⟨some 28,.call ⟨.value (.func 101),#[.tmp 27],#[44]⟩,44,"l13_net.go:105",#[⟨6,.data⟩],none⟩
abbrev q338:Oper:=⟨some 29,.buildSlice 24 1 #[(0,.tmp 28)],24,"l13_net.go:105",#[⟨7,.data⟩],none⟩
abbrev q339:Oper:=⟨some 30,.call ⟨.builtin .append,#[.tmp 22,.tmp 29],#[24,24]⟩,24,"l13_net.go:105",#[⟨1,.data⟩,⟨8,.data⟩,⟨7,.chain⟩],none⟩
abbrev q340:Oper:=⟨some 31,.fieldAddr 28 (.tmp 3) 0,0,"l13_net.go:105",#[⟨0,.phase⟩,⟨1,.phase⟩,⟨2,.phase⟩,⟨3,.phase⟩,⟨4,.phase⟩,⟨5,.phase⟩,⟨6,.phase⟩,⟨7,.phase⟩,⟨8,.phase⟩,⟨9,.phase⟩],none⟩
abbrev q341:Oper:=⟨none,.store 24 (.tmp 31) (.tmp 30),0,"l13_net.go:105",#[⟨10,.data⟩,⟨9,.data⟩,⟨9,.chain⟩,⟨0,.phase⟩,⟨1,.phase⟩,⟨2,.phase⟩,⟨3,.phase⟩,⟨4,.phase⟩,⟨5,.phase⟩,⟨6,.phase⟩,⟨7,.phase⟩,⟨8,.phase⟩,⟨9,.phase⟩],none⟩

theorem zdP (N:NV) (w:World) (h:zac w N) (hn:N.bn≤16777216) (hl:N.ln≤16777216) (hs:N.sn≤16777216) (hm:∀x∈N.bs,x.n≤16777216∧x.fn≤16777216∧x.rn≤16777216∧x.on≤16777216) :
  Calls Tryz.prog 75 #[.agg #[.slice N.ba N.bn N.bc,.slice N.la N.ln N.lc,.slice N.sa N.sn N.sc]] w fun e w'=>∃M:NV,e=.returned (.agg #[.slice M.ba M.bn M.bc,.slice M.la M.ln M.lc,.slice M.sa M.sn M.sc])∧NOwn w' w.heap.size M∧M.Same N∧Below w.heap.size w w':=by
 generalize hw1:w.alloc (Obj.cells #[.slice N.ba N.bn N.bc,.slice N.la N.ln N.lc,.slice N.sa N.sn N.sc] 28)=w1;generalize hw2:w1.alloc (Obj.cells #[.slice none 0 0,.slice none 0 0,.slice none 0 0] 28)=w2;have b01:=zb hw1;have b12:=zb hw2;have b02:=zc b01 b12;have kP:=za (zk hw1) b12;have kJ:=zk hw2;have HZR:Hid (w1.heap.size=w.heap.size+1):=hide (by rw [← hw1]; simp);have HZ:Hid (w2.heap.size=w.heap.size+2):=hide (by rw [← hw2,← hw1]; simp);have hbl:=Nat.le_trans h.b.le h.b.top;unfold maxLen at hbl;go_enter Tryz.func75,Tryz.ntmps75;go_upto_region 1 with fail
 go_cut [3] from 5 to 13 (fun s wx=>∃(X:Nat) (la:Option Addr) (lc:Nat) (sa:Option Addr) (sc:Nat),s=.pointer (some ⟨X,0,none⟩)∧NcSt w wx N X ⟨none,0,0,[],la,N.ln,lc,N.ls,sa,N.sn,sc,N.ss⟩)
 case first =>
  have vv:Below w2.heap.size w2 w2.drew:=zG (Below.refl _ _);refine wp_region_held_drew (S:=(fun W=>zcc W w.heap.size 0 (.slice N.ba N.bn N.bc)∧zcc W w.heap.size 1 (.slice N.la N.ln N.lc)∧zcc W w.heap.size 2 (.slice N.sa N.sn N.sc))) (by kernel_rfl) (zd (za kP vv)) (fun hHeld => ?_);refine kK 1 ⟨some 6,.fieldAddr 28 (.tmp 1) 1,0,"l13_net.go:103",#[],none⟩ ?_;refine kK 2 ⟨some 7,.load 25 (.tmp 6),25,"l13_net.go:103",#[⟨1,.data⟩],none⟩ ?_;refine kK 5 ⟨some 10,.fieldAddr 28 (.tmp 1) 2,0,"l13_net.go:103",#[],none⟩ ?_;refine kK 6 ⟨some 11,.load 26 (.tmp 10),26,"l13_net.go:103",#[⟨5,.data⟩],none⟩ ?_;refine tR [0,4,9] ?_;refine AllReadyH.cons (o:=q329) rfl (fun K hK => ?_) ?_
  ·go_simp
   first
   | refine zw (K:=K _) (fun wx kL hbx => ?_)
   | refine zq (K:=K _) (fun wx kL hbx => ?_)
   have gL:=vv.size;(try have kS:=za kS hbx);(try have kX:=za kX hbx);(try have oS:=zi oS hbx);have vv:=zc vv hbx;clear hbx;refine kO hK (zd (za kP vv)) fun hHeld => ?_
   clear hK K;refine tR [3,4,9] ?_;refine AllReadyH.cons (o:=q330) rfl (fun K hK => ?_) ?_
   ·have on0:=zE linkF kL gL;refine zh (F:=linkF) rfl _ _ 25 66 rfl w2.heap.size Tryz.underlying25 zaw rfl (by decide) _ 0 [] rfl on0 _ N.ln N.lc N.ls rfl (h.l.below (zc b02 vv)) (by omega) vv.size ?_;intro aooL cpoL wx2 oL hr0 hgr hbx;(try have oS:=zu oS on0 (by decide) hgr);(try have kS:=ze kS hgr (fun k hk=>zt on0 kS (by decide) k hk));(try have kX:=ze kX hgr (fun k hk=>zt on0 kX (by decide) k hk));have vv:=vv.trans hbx;(try simp only [Nat.zero_add,List.nil_append] at oL);(try simp only [Nat.zero_add]);clear on0 hr0 hgr hbx;refine kO hK (zd (za kP vv)) fun hHeld => ?_
    clear hK K;refine tR [4,9] ?_;refine AllReadyH.cons (o:=q331) rfl (fun K hK => ?_) ?_
    ·go_simp
     first
     | refine zw (K:=K _) (fun wx kS hbx => ?_)
     | refine zq (K:=K _) (fun wx kS hbx => ?_)
     have gS:=vv.size;(try have kL:=za kL hbx);(try have kX:=za kX hbx);(try have oL:=zi oL hbx);have vv:=zc vv hbx;clear hbx;refine kO hK (zd (za kP vv)) fun hHeld => ?_
     clear hK K;refine tR [7,9] ?_;refine AllReadyH.cons (o:=q332) rfl (fun K hK => ?_) ?_
     ·have on0:=zE sayF kS gS;refine zh (F:=sayF) rfl _ _ 26 99 rfl w2.heap.size Tryz.underlying26 zP rfl (by decide) _ 0 [] rfl on0 _ N.sn N.sc N.ss rfl (h.s.below (zc b02 vv)) (by omega) vv.size ?_;intro aooS cpoS wx2 oS hr0 hgr hbx;(try have oL:=zu oL on0 (by decide) hgr);(try have kX:=ze kX hgr (fun k hk=>zt on0 kX (by decide) k hk));have vv:=vv.trans hbx;(try simp only [Nat.zero_add,List.nil_append] at oS);(try simp only [Nat.zero_add]);clear on0 hr0 hgr hbx;refine kO hK (zd (za kP vv)) fun hHeld => ?_
      clear hK K;refine kK 8 q333 ?_;refine kR 9 q334 (fun K hK => ?_);go_simp
      first
      | refine zw (K:=K _) (fun wx kX hbx => ?_)
      | refine zq (K:=K _) (fun wx kX hbx => ?_)
      have gX:=vv.size;(try have kL:=za kL hbx);(try have kS:=za kS hbx);(try have oL:=zi oL hbx);(try have oS:=zi oS hbx);have vv:=zc vv hbx;clear hbx;refine kO hK (zd (za kP vv)) fun hHeld => ?_
      clear hK K;refine kR 10 q335 (fun K hK => ?_);obtain ⟨xx0,xx1,xx2⟩:=zd kX;have ff0:=zg kX 0;have ff1:=zg kX 1;have ff2:=zg kX 2;go_simp;refine zW (K:=K _) kX _ _ _ (fun wq kQ hgq => ?_);have oL2:=zo oL hgq (zt oL kX (by decide));have oS2:=zo oS hgq (zt oS kX (by decide));have bv:=zc b02 vv;have bq:=bv.grown hgq bv.size (by intro i e; cases e; have:=HZ.out; omega);have vq:=vv.grown hgq vv.size (by intro i e; cases e; exact gX);have stN:NcSt w wq N _ ⟨none,0,0,[],_,N.ln,_,N.ls,_,N.sn,_,N.ss⟩:=⟨za kP vq,HZR.out▸za kJ vq,kQ,⟨zaz _ _,zB oL2 (Nat.le_of_eq HZ.out.symm),zB oS2 (Nat.le_of_eq HZ.out.symm)⟩,bq,by have:=HZ.out; omega⟩;refine kO hK (zd (za kP vq)) fun hHeld => ?_
      clear hK K;refine wpAnyH_done (by kernel_rfl) ?_ _;clear hHeld;(go_wp2_with fail)
      go_meet
      exact ⟨_,_,_,_,_,rfl,stN⟩
     refine AllReadyH.cons (o:=q334) rfl (fun K hK => ?_) ?_
     ·go_simp
      first
      | refine zw (K:=K _) (fun wx kX hbx => ?_)
      | refine zq (K:=K _) (fun wx kX hbx => ?_)
      have gX:=vv.size;(try have kL:=za kL hbx);(try have kS:=za kS hbx);(try have oL:=zi oL hbx);(try have oS:=zi oS hbx);have vv:=zc vv hbx;clear hbx;refine kO hK (zd (za kP vv)) fun hHeld => ?_
      clear hK K;refine kR 7 q332 (fun K hK => ?_);have on0:=zE sayF kS gS;refine zh (F:=sayF) rfl _ _ 26 99 rfl w2.heap.size Tryz.underlying26 zP rfl (by decide) _ 0 [] rfl on0 _ N.sn N.sc N.ss rfl (h.s.below (zc b02 vv)) (by omega) vv.size ?_;intro aooS cpoS wx2 oS hr0 hgr hbx;(try have oL:=zu oL on0 (by decide) hgr);(try have kX:=ze kX hgr (fun k hk=>zt on0 kX (by decide) k hk));have vv:=vv.trans hbx;(try simp only [Nat.zero_add,List.nil_append] at oS);(try simp only [Nat.zero_add]);clear on0 hr0 hgr hbx;refine kO hK (zd (za kP vv)) fun hHeld => ?_
      clear hK K;refine kK 8 q333 ?_;refine kR 10 q335 (fun K hK => ?_);obtain ⟨xx0,xx1,xx2⟩:=zd kX;have ff0:=zg kX 0;have ff1:=zg kX 1;have ff2:=zg kX 2;go_simp;refine zW (K:=K _) kX _ _ _ (fun wq kQ hgq => ?_);have oL2:=zo oL hgq (zt oL kX (by decide));have oS2:=zo oS hgq (zt oS kX (by decide));have bv:=zc b02 vv;have bq:=bv.grown hgq bv.size (by intro i e; cases e; have:=HZ.out; omega);have vq:=vv.grown hgq vv.size (by intro i e; cases e; exact gX);have stN:NcSt w wq N _ ⟨none,0,0,[],_,N.ln,_,N.ls,_,N.sn,_,N.ss⟩:=⟨za kP vq,HZR.out▸za kJ vq,kQ,⟨zaz _ _,zB oL2 (Nat.le_of_eq HZ.out.symm),zB oS2 (Nat.le_of_eq HZ.out.symm)⟩,bq,by have:=HZ.out; omega⟩;refine kO hK (zd (za kP vq)) fun hHeld => ?_
      clear hK K;refine wpAnyH_done (by kernel_rfl) ?_ _;clear hHeld;(go_wp2_with fail)
      go_meet
      exact ⟨_,_,_,_,_,rfl,stN⟩
     exact AllReadyH.nil
    refine AllReadyH.cons (o:=q334) rfl (fun K hK => ?_) ?_
    ·go_simp
     first
     | refine zw (K:=K _) (fun wx kX hbx => ?_)
     | refine zq (K:=K _) (fun wx kX hbx => ?_)
     have gX:=vv.size;(try have kL:=za kL hbx);(try have kS:=za kS hbx);(try have oL:=zi oL hbx);(try have oS:=zi oS hbx);have vv:=zc vv hbx;clear hbx;refine kO hK (zd (za kP vv)) fun hHeld => ?_
     clear hK K;refine kR 4 q331 (fun K hK => ?_);go_simp
     first
     | refine zw (K:=K _) (fun wx kS hbx => ?_)
     | refine zq (K:=K _) (fun wx kS hbx => ?_)
     have gS:=vv.size;(try have kL:=za kL hbx);(try have kX:=za kX hbx);(try have oL:=zi oL hbx);have vv:=zc vv hbx;clear hbx;refine kO hK (zd (za kP vv)) fun hHeld => ?_
     clear hK K;refine kR 7 q332 (fun K hK => ?_);have on0:=zE sayF kS gS;refine zh (F:=sayF) rfl _ _ 26 99 rfl w2.heap.size Tryz.underlying26 zP rfl (by decide) _ 0 [] rfl on0 _ N.sn N.sc N.ss rfl (h.s.below (zc b02 vv)) (by omega) vv.size ?_;intro aooS cpoS wx2 oS hr0 hgr hbx;(try have oL:=zu oL on0 (by decide) hgr);(try have kX:=ze kX hgr (fun k hk=>zt on0 kX (by decide) k hk));have vv:=vv.trans hbx;(try simp only [Nat.zero_add,List.nil_append] at oS);(try simp only [Nat.zero_add]);clear on0 hr0 hgr hbx;refine kO hK (zd (za kP vv)) fun hHeld => ?_
     clear hK K;refine kK 8 q333 ?_;refine kR 10 q335 (fun K hK => ?_);obtain ⟨xx0,xx1,xx2⟩:=zd kX;have ff0:=zg kX 0;have ff1:=zg kX 1;have ff2:=zg kX 2;go_simp;refine zW (K:=K _) kX _ _ _ (fun wq kQ hgq => ?_);have oL2:=zo oL hgq (zt oL kX (by decide));have oS2:=zo oS hgq (zt oS kX (by decide));have bv:=zc b02 vv;have bq:=bv.grown hgq bv.size (by intro i e; cases e; have:=HZ.out; omega);have vq:=vv.grown hgq vv.size (by intro i e; cases e; exact gX);have stN:NcSt w wq N _ ⟨none,0,0,[],_,N.ln,_,N.ls,_,N.sn,_,N.ss⟩:=⟨za kP vq,HZR.out▸za kJ vq,kQ,⟨zaz _ _,zB oL2 (Nat.le_of_eq HZ.out.symm),zB oS2 (Nat.le_of_eq HZ.out.symm)⟩,bq,by have:=HZ.out; omega⟩;refine kO hK (zd (za kP vq)) fun hHeld => ?_
     clear hK K;refine wpAnyH_done (by kernel_rfl) ?_ _;clear hHeld;(go_wp2_with fail)
     go_meet
     exact ⟨_,_,_,_,_,rfl,stN⟩
    exact AllReadyH.nil
   refine AllReadyH.cons (o:=q331) rfl (fun K hK => ?_) ?_
   ·go_simp
    first
    | refine zw (K:=K _) (fun wx kS hbx => ?_)
    | refine zq (K:=K _) (fun wx kS hbx => ?_)
    have gS:=vv.size;(try have kL:=za kL hbx);(try have kX:=za kX hbx);(try have oL:=zi oL hbx);have vv:=zc vv hbx;clear hbx;refine kO hK (zd (za kP vv)) fun hHeld => ?_
    clear hK K;refine tR [3,9] ?_;refine AllReadyH.cons (o:=q330) rfl (fun K hK => ?_) ?_
    ·have on0:=zE linkF kL gL;refine zh (F:=linkF) rfl _ _ 25 66 rfl w2.heap.size Tryz.underlying25 zaw rfl (by decide) _ 0 [] rfl on0 _ N.ln N.lc N.ls rfl (h.l.below (zc b02 vv)) (by omega) vv.size ?_;intro aooL cpoL wx2 oL hr0 hgr hbx;(try have oS:=zu oS on0 (by decide) hgr);(try have kS:=ze kS hgr (fun k hk=>zt on0 kS (by decide) k hk));(try have kX:=ze kX hgr (fun k hk=>zt on0 kX (by decide) k hk));have vv:=vv.trans hbx;(try simp only [Nat.zero_add,List.nil_append] at oL);(try simp only [Nat.zero_add]);clear on0 hr0 hgr hbx;refine kO hK (zd (za kP vv)) fun hHeld => ?_
     clear hK K;refine tR [7,9] ?_;refine AllReadyH.cons (o:=q332) rfl (fun K hK => ?_) ?_
     ·have on0:=zE sayF kS gS;refine zh (F:=sayF) rfl _ _ 26 99 rfl w2.heap.size Tryz.underlying26 zP rfl (by decide) _ 0 [] rfl on0 _ N.sn N.sc N.ss rfl (h.s.below (zc b02 vv)) (by omega) vv.size ?_;intro aooS cpoS wx2 oS hr0 hgr hbx;(try have oL:=zu oL on0 (by decide) hgr);(try have kX:=ze kX hgr (fun k hk=>zt on0 kX (by decide) k hk));have vv:=vv.trans hbx;(try simp only [Nat.zero_add,List.nil_append] at oS);(try simp only [Nat.zero_add]);clear on0 hr0 hgr hbx;refine kO hK (zd (za kP vv)) fun hHeld => ?_
      clear hK K;refine kK 8 q333 ?_;refine kR 9 q334 (fun K hK => ?_);go_simp
      first
      | refine zw (K:=K _) (fun wx kX hbx => ?_)
      | refine zq (K:=K _) (fun wx kX hbx => ?_)
      have gX:=vv.size;(try have kL:=za kL hbx);(try have kS:=za kS hbx);(try have oL:=zi oL hbx);(try have oS:=zi oS hbx);have vv:=zc vv hbx;clear hbx;refine kO hK (zd (za kP vv)) fun hHeld => ?_
      clear hK K;refine kR 10 q335 (fun K hK => ?_);obtain ⟨xx0,xx1,xx2⟩:=zd kX;have ff0:=zg kX 0;have ff1:=zg kX 1;have ff2:=zg kX 2;go_simp;refine zW (K:=K _) kX _ _ _ (fun wq kQ hgq => ?_);have oL2:=zo oL hgq (zt oL kX (by decide));have oS2:=zo oS hgq (zt oS kX (by decide));have bv:=zc b02 vv;have bq:=bv.grown hgq bv.size (by intro i e; cases e; have:=HZ.out; omega);have vq:=vv.grown hgq vv.size (by intro i e; cases e; exact gX);have stN:NcSt w wq N _ ⟨none,0,0,[],_,N.ln,_,N.ls,_,N.sn,_,N.ss⟩:=⟨za kP vq,HZR.out▸za kJ vq,kQ,⟨zaz _ _,zB oL2 (Nat.le_of_eq HZ.out.symm),zB oS2 (Nat.le_of_eq HZ.out.symm)⟩,bq,by have:=HZ.out; omega⟩;refine kO hK (zd (za kP vq)) fun hHeld => ?_
      clear hK K;refine wpAnyH_done (by kernel_rfl) ?_ _;clear hHeld;(go_wp2_with fail)
      go_meet
      exact ⟨_,_,_,_,_,rfl,stN⟩
     refine AllReadyH.cons (o:=q334) rfl (fun K hK => ?_) ?_
     ·go_simp
      first
      | refine zw (K:=K _) (fun wx kX hbx => ?_)
      | refine zq (K:=K _) (fun wx kX hbx => ?_)
      have gX:=vv.size;(try have kL:=za kL hbx);(try have kS:=za kS hbx);(try have oL:=zi oL hbx);(try have oS:=zi oS hbx);have vv:=zc vv hbx;clear hbx;refine kO hK (zd (za kP vv)) fun hHeld => ?_
      clear hK K;refine kR 7 q332 (fun K hK => ?_);have on0:=zE sayF kS gS;refine zh (F:=sayF) rfl _ _ 26 99 rfl w2.heap.size Tryz.underlying26 zP rfl (by decide) _ 0 [] rfl on0 _ N.sn N.sc N.ss rfl (h.s.below (zc b02 vv)) (by omega) vv.size ?_;intro aooS cpoS wx2 oS hr0 hgr hbx;(try have oL:=zu oL on0 (by decide) hgr);(try have kX:=ze kX hgr (fun k hk=>zt on0 kX (by decide) k hk));have vv:=vv.trans hbx;(try simp only [Nat.zero_add,List.nil_append] at oS);(try simp only [Nat.zero_add]);clear on0 hr0 hgr hbx;refine kO hK (zd (za kP vv)) fun hHeld => ?_
      clear hK K;refine kK 8 q333 ?_;refine kR 10 q335 (fun K hK => ?_);obtain ⟨xx0,xx1,xx2⟩:=zd kX;have ff0:=zg kX 0;have ff1:=zg kX 1;have ff2:=zg kX 2;go_simp;refine zW (K:=K _) kX _ _ _ (fun wq kQ hgq => ?_);have oL2:=zo oL hgq (zt oL kX (by decide));have oS2:=zo oS hgq (zt oS kX (by decide));have bv:=zc b02 vv;have bq:=bv.grown hgq bv.size (by intro i e; cases e; have:=HZ.out; omega);have vq:=vv.grown hgq vv.size (by intro i e; cases e; exact gX);have stN:NcSt w wq N _ ⟨none,0,0,[],_,N.ln,_,N.ls,_,N.sn,_,N.ss⟩:=⟨za kP vq,HZR.out▸za kJ vq,kQ,⟨zaz _ _,zB oL2 (Nat.le_of_eq HZ.out.symm),zB oS2 (Nat.le_of_eq HZ.out.symm)⟩,bq,by have:=HZ.out; omega⟩;refine kO hK (zd (za kP vq)) fun hHeld => ?_
      clear hK K;refine wpAnyH_done (by kernel_rfl) ?_ _;clear hHeld;(go_wp2_with fail)
      go_meet
      exact ⟨_,_,_,_,_,rfl,stN⟩
     exact AllReadyH.nil
    refine AllReadyH.cons (o:=q334) rfl (fun K hK => ?_) ?_
    ·go_simp
     first
     | refine zw (K:=K _) (fun wx kX hbx => ?_)
     | refine zq (K:=K _) (fun wx kX hbx => ?_)
     have gX:=vv.size;(try have kL:=za kL hbx);(try have kS:=za kS hbx);(try have oL:=zi oL hbx);(try have oS:=zi oS hbx);have vv:=zc vv hbx;clear hbx;refine kO hK (zd (za kP vv)) fun hHeld => ?_
     clear hK K;refine kR 3 q330 (fun K hK => ?_);have on0:=zE linkF kL gL;refine zh (F:=linkF) rfl _ _ 25 66 rfl w2.heap.size Tryz.underlying25 zaw rfl (by decide) _ 0 [] rfl on0 _ N.ln N.lc N.ls rfl (h.l.below (zc b02 vv)) (by omega) vv.size ?_;intro aooL cpoL wx2 oL hr0 hgr hbx;(try have oS:=zu oS on0 (by decide) hgr);(try have kS:=ze kS hgr (fun k hk=>zt on0 kS (by decide) k hk));(try have kX:=ze kX hgr (fun k hk=>zt on0 kX (by decide) k hk));have vv:=vv.trans hbx;(try simp only [Nat.zero_add,List.nil_append] at oL);(try simp only [Nat.zero_add]);clear on0 hr0 hgr hbx;refine kO hK (zd (za kP vv)) fun hHeld => ?_
     clear hK K;refine kR 7 q332 (fun K hK => ?_);have on0:=zE sayF kS gS;refine zh (F:=sayF) rfl _ _ 26 99 rfl w2.heap.size Tryz.underlying26 zP rfl (by decide) _ 0 [] rfl on0 _ N.sn N.sc N.ss rfl (h.s.below (zc b02 vv)) (by omega) vv.size ?_;intro aooS cpoS wx2 oS hr0 hgr hbx;(try have oL:=zu oL on0 (by decide) hgr);(try have kX:=ze kX hgr (fun k hk=>zt on0 kX (by decide) k hk));have vv:=vv.trans hbx;(try simp only [Nat.zero_add,List.nil_append] at oS);(try simp only [Nat.zero_add]);clear on0 hr0 hgr hbx;refine kO hK (zd (za kP vv)) fun hHeld => ?_
     clear hK K;refine kK 8 q333 ?_;refine kR 10 q335 (fun K hK => ?_);obtain ⟨xx0,xx1,xx2⟩:=zd kX;have ff0:=zg kX 0;have ff1:=zg kX 1;have ff2:=zg kX 2;go_simp;refine zW (K:=K _) kX _ _ _ (fun wq kQ hgq => ?_);have oL2:=zo oL hgq (zt oL kX (by decide));have oS2:=zo oS hgq (zt oS kX (by decide));have bv:=zc b02 vv;have bq:=bv.grown hgq bv.size (by intro i e; cases e; have:=HZ.out; omega);have vq:=vv.grown hgq vv.size (by intro i e; cases e; exact gX);have stN:NcSt w wq N _ ⟨none,0,0,[],_,N.ln,_,N.ls,_,N.sn,_,N.ss⟩:=⟨za kP vq,HZR.out▸za kJ vq,kQ,⟨zaz _ _,zB oL2 (Nat.le_of_eq HZ.out.symm),zB oS2 (Nat.le_of_eq HZ.out.symm)⟩,bq,by have:=HZ.out; omega⟩;refine kO hK (zd (za kP vq)) fun hHeld => ?_
     clear hK K;refine wpAnyH_done (by kernel_rfl) ?_ _;clear hHeld;(go_wp2_with fail)
     go_meet
     exact ⟨_,_,_,_,_,rfl,stN⟩
    exact AllReadyH.nil
   refine AllReadyH.cons (o:=q334) rfl (fun K hK => ?_) ?_
   ·go_simp
    first
    | refine zw (K:=K _) (fun wx kX hbx => ?_)
    | refine zq (K:=K _) (fun wx kX hbx => ?_)
    have gX:=vv.size;(try have kL:=za kL hbx);(try have kS:=za kS hbx);(try have oL:=zi oL hbx);(try have oS:=zi oS hbx);have vv:=zc vv hbx;clear hbx;refine kO hK (zd (za kP vv)) fun hHeld => ?_
    clear hK K;refine tR [3,4] ?_;refine AllReadyH.cons (o:=q330) rfl (fun K hK => ?_) ?_
    ·have on0:=zE linkF kL gL;refine zh (F:=linkF) rfl _ _ 25 66 rfl w2.heap.size Tryz.underlying25 zaw rfl (by decide) _ 0 [] rfl on0 _ N.ln N.lc N.ls rfl (h.l.below (zc b02 vv)) (by omega) vv.size ?_;intro aooL cpoL wx2 oL hr0 hgr hbx;(try have oS:=zu oS on0 (by decide) hgr);(try have kS:=ze kS hgr (fun k hk=>zt on0 kS (by decide) k hk));(try have kX:=ze kX hgr (fun k hk=>zt on0 kX (by decide) k hk));have vv:=vv.trans hbx;(try simp only [Nat.zero_add,List.nil_append] at oL);(try simp only [Nat.zero_add]);clear on0 hr0 hgr hbx;refine kO hK (zd (za kP vv)) fun hHeld => ?_
     clear hK K;refine kR 4 q331 (fun K hK => ?_);go_simp
     first
     | refine zw (K:=K _) (fun wx kS hbx => ?_)
     | refine zq (K:=K _) (fun wx kS hbx => ?_)
     have gS:=vv.size;(try have kL:=za kL hbx);(try have kX:=za kX hbx);(try have oL:=zi oL hbx);have vv:=zc vv hbx;clear hbx;refine kO hK (zd (za kP vv)) fun hHeld => ?_
     clear hK K;refine kR 7 q332 (fun K hK => ?_);have on0:=zE sayF kS gS;refine zh (F:=sayF) rfl _ _ 26 99 rfl w2.heap.size Tryz.underlying26 zP rfl (by decide) _ 0 [] rfl on0 _ N.sn N.sc N.ss rfl (h.s.below (zc b02 vv)) (by omega) vv.size ?_;intro aooS cpoS wx2 oS hr0 hgr hbx;(try have oL:=zu oL on0 (by decide) hgr);(try have kX:=ze kX hgr (fun k hk=>zt on0 kX (by decide) k hk));have vv:=vv.trans hbx;(try simp only [Nat.zero_add,List.nil_append] at oS);(try simp only [Nat.zero_add]);clear on0 hr0 hgr hbx;refine kO hK (zd (za kP vv)) fun hHeld => ?_
     clear hK K;refine kK 8 q333 ?_;refine kR 10 q335 (fun K hK => ?_);obtain ⟨xx0,xx1,xx2⟩:=zd kX;have ff0:=zg kX 0;have ff1:=zg kX 1;have ff2:=zg kX 2;go_simp;refine zW (K:=K _) kX _ _ _ (fun wq kQ hgq => ?_);have oL2:=zo oL hgq (zt oL kX (by decide));have oS2:=zo oS hgq (zt oS kX (by decide));have bv:=zc b02 vv;have bq:=bv.grown hgq bv.size (by intro i e; cases e; have:=HZ.out; omega);have vq:=vv.grown hgq vv.size (by intro i e; cases e; exact gX);have stN:NcSt w wq N _ ⟨none,0,0,[],_,N.ln,_,N.ls,_,N.sn,_,N.ss⟩:=⟨za kP vq,HZR.out▸za kJ vq,kQ,⟨zaz _ _,zB oL2 (Nat.le_of_eq HZ.out.symm),zB oS2 (Nat.le_of_eq HZ.out.symm)⟩,bq,by have:=HZ.out; omega⟩;refine kO hK (zd (za kP vq)) fun hHeld => ?_
     clear hK K;refine wpAnyH_done (by kernel_rfl) ?_ _;clear hHeld;(go_wp2_with fail)
     go_meet
     exact ⟨_,_,_,_,_,rfl,stN⟩
    refine AllReadyH.cons (o:=q331) rfl (fun K hK => ?_) ?_
    ·go_simp
     first
     | refine zw (K:=K _) (fun wx kS hbx => ?_)
     | refine zq (K:=K _) (fun wx kS hbx => ?_)
     have gS:=vv.size;(try have kL:=za kL hbx);(try have kX:=za kX hbx);(try have oL:=zi oL hbx);have vv:=zc vv hbx;clear hbx;refine kO hK (zd (za kP vv)) fun hHeld => ?_
     clear hK K;refine kR 3 q330 (fun K hK => ?_);have on0:=zE linkF kL gL;refine zh (F:=linkF) rfl _ _ 25 66 rfl w2.heap.size Tryz.underlying25 zaw rfl (by decide) _ 0 [] rfl on0 _ N.ln N.lc N.ls rfl (h.l.below (zc b02 vv)) (by omega) vv.size ?_;intro aooL cpoL wx2 oL hr0 hgr hbx;(try have oS:=zu oS on0 (by decide) hgr);(try have kS:=ze kS hgr (fun k hk=>zt on0 kS (by decide) k hk));(try have kX:=ze kX hgr (fun k hk=>zt on0 kX (by decide) k hk));have vv:=vv.trans hbx;(try simp only [Nat.zero_add,List.nil_append] at oL);(try simp only [Nat.zero_add]);clear on0 hr0 hgr hbx;refine kO hK (zd (za kP vv)) fun hHeld => ?_
     clear hK K;refine kR 7 q332 (fun K hK => ?_);have on0:=zE sayF kS gS;refine zh (F:=sayF) rfl _ _ 26 99 rfl w2.heap.size Tryz.underlying26 zP rfl (by decide) _ 0 [] rfl on0 _ N.sn N.sc N.ss rfl (h.s.below (zc b02 vv)) (by omega) vv.size ?_;intro aooS cpoS wx2 oS hr0 hgr hbx;(try have oL:=zu oL on0 (by decide) hgr);(try have kX:=ze kX hgr (fun k hk=>zt on0 kX (by decide) k hk));have vv:=vv.trans hbx;(try simp only [Nat.zero_add,List.nil_append] at oS);(try simp only [Nat.zero_add]);clear on0 hr0 hgr hbx;refine kO hK (zd (za kP vv)) fun hHeld => ?_
     clear hK K;refine kK 8 q333 ?_;refine kR 10 q335 (fun K hK => ?_);obtain ⟨xx0,xx1,xx2⟩:=zd kX;have ff0:=zg kX 0;have ff1:=zg kX 1;have ff2:=zg kX 2;go_simp;refine zW (K:=K _) kX _ _ _ (fun wq kQ hgq => ?_);have oL2:=zo oL hgq (zt oL kX (by decide));have oS2:=zo oS hgq (zt oS kX (by decide));have bv:=zc b02 vv;have bq:=bv.grown hgq bv.size (by intro i e; cases e; have:=HZ.out; omega);have vq:=vv.grown hgq vv.size (by intro i e; cases e; exact gX);have stN:NcSt w wq N _ ⟨none,0,0,[],_,N.ln,_,N.ls,_,N.sn,_,N.ss⟩:=⟨za kP vq,HZR.out▸za kJ vq,kQ,⟨zaz _ _,zB oL2 (Nat.le_of_eq HZ.out.symm),zB oS2 (Nat.le_of_eq HZ.out.symm)⟩,bq,by have:=HZ.out; omega⟩;refine kO hK (zd (za kP vq)) fun hHeld => ?_
     clear hK K;refine wpAnyH_done (by kernel_rfl) ?_ _;clear hHeld;(go_wp2_with fail)
     go_meet
     exact ⟨_,_,_,_,_,rfl,stN⟩
    exact AllReadyH.nil
   exact AllReadyH.nil
  refine AllReadyH.cons (o:=q331) rfl (fun K hK => ?_) ?_
  ·go_simp
   first
   | refine zw (K:=K _) (fun wx kS hbx => ?_)
   | refine zq (K:=K _) (fun wx kS hbx => ?_)
   have gS:=vv.size;(try have kL:=za kL hbx);(try have kX:=za kX hbx);(try have oL:=zi oL hbx);have vv:=zc vv hbx;clear hbx;refine kO hK (zd (za kP vv)) fun hHeld => ?_
   clear hK K;refine tR [0,9] ?_;refine AllReadyH.cons (o:=q329) rfl (fun K hK => ?_) ?_
   ·go_simp
    first
    | refine zw (K:=K _) (fun wx kL hbx => ?_)
    | refine zq (K:=K _) (fun wx kL hbx => ?_)
    have gL:=vv.size;(try have kS:=za kS hbx);(try have kX:=za kX hbx);(try have oS:=zi oS hbx);have vv:=zc vv hbx;clear hbx;refine kO hK (zd (za kP vv)) fun hHeld => ?_
    clear hK K;refine tR [3,9] ?_;refine AllReadyH.cons (o:=q330) rfl (fun K hK => ?_) ?_
    ·have on0:=zE linkF kL gL;refine zh (F:=linkF) rfl _ _ 25 66 rfl w2.heap.size Tryz.underlying25 zaw rfl (by decide) _ 0 [] rfl on0 _ N.ln N.lc N.ls rfl (h.l.below (zc b02 vv)) (by omega) vv.size ?_;intro aooL cpoL wx2 oL hr0 hgr hbx;(try have oS:=zu oS on0 (by decide) hgr);(try have kS:=ze kS hgr (fun k hk=>zt on0 kS (by decide) k hk));(try have kX:=ze kX hgr (fun k hk=>zt on0 kX (by decide) k hk));have vv:=vv.trans hbx;(try simp only [Nat.zero_add,List.nil_append] at oL);(try simp only [Nat.zero_add]);clear on0 hr0 hgr hbx;refine kO hK (zd (za kP vv)) fun hHeld => ?_
     clear hK K;refine tR [7,9] ?_;refine AllReadyH.cons (o:=q332) rfl (fun K hK => ?_) ?_
     ·have on0:=zE sayF kS gS;refine zh (F:=sayF) rfl _ _ 26 99 rfl w2.heap.size Tryz.underlying26 zP rfl (by decide) _ 0 [] rfl on0 _ N.sn N.sc N.ss rfl (h.s.below (zc b02 vv)) (by omega) vv.size ?_;intro aooS cpoS wx2 oS hr0 hgr hbx;(try have oL:=zu oL on0 (by decide) hgr);(try have kX:=ze kX hgr (fun k hk=>zt on0 kX (by decide) k hk));have vv:=vv.trans hbx;(try simp only [Nat.zero_add,List.nil_append] at oS);(try simp only [Nat.zero_add]);clear on0 hr0 hgr hbx;refine kO hK (zd (za kP vv)) fun hHeld => ?_
      clear hK K;refine kK 8 q333 ?_;refine kR 9 q334 (fun K hK => ?_);go_simp
      first
      | refine zw (K:=K _) (fun wx kX hbx => ?_)
      | refine zq (K:=K _) (fun wx kX hbx => ?_)
      have gX:=vv.size;(try have kL:=za kL hbx);(try have kS:=za kS hbx);(try have oL:=zi oL hbx);(try have oS:=zi oS hbx);have vv:=zc vv hbx;clear hbx;refine kO hK (zd (za kP vv)) fun hHeld => ?_
      clear hK K;refine kR 10 q335 (fun K hK => ?_);obtain ⟨xx0,xx1,xx2⟩:=zd kX;have ff0:=zg kX 0;have ff1:=zg kX 1;have ff2:=zg kX 2;go_simp;refine zW (K:=K _) kX _ _ _ (fun wq kQ hgq => ?_);have oL2:=zo oL hgq (zt oL kX (by decide));have oS2:=zo oS hgq (zt oS kX (by decide));have bv:=zc b02 vv;have bq:=bv.grown hgq bv.size (by intro i e; cases e; have:=HZ.out; omega);have vq:=vv.grown hgq vv.size (by intro i e; cases e; exact gX);have stN:NcSt w wq N _ ⟨none,0,0,[],_,N.ln,_,N.ls,_,N.sn,_,N.ss⟩:=⟨za kP vq,HZR.out▸za kJ vq,kQ,⟨zaz _ _,zB oL2 (Nat.le_of_eq HZ.out.symm),zB oS2 (Nat.le_of_eq HZ.out.symm)⟩,bq,by have:=HZ.out; omega⟩;refine kO hK (zd (za kP vq)) fun hHeld => ?_
      clear hK K;refine wpAnyH_done (by kernel_rfl) ?_ _;clear hHeld;(go_wp2_with fail)
      go_meet
      exact ⟨_,_,_,_,_,rfl,stN⟩
     refine AllReadyH.cons (o:=q334) rfl (fun K hK => ?_) ?_
     ·go_simp
      first
      | refine zw (K:=K _) (fun wx kX hbx => ?_)
      | refine zq (K:=K _) (fun wx kX hbx => ?_)
      have gX:=vv.size;(try have kL:=za kL hbx);(try have kS:=za kS hbx);(try have oL:=zi oL hbx);(try have oS:=zi oS hbx);have vv:=zc vv hbx;clear hbx;refine kO hK (zd (za kP vv)) fun hHeld => ?_
      clear hK K;refine kR 7 q332 (fun K hK => ?_);have on0:=zE sayF kS gS;refine zh (F:=sayF) rfl _ _ 26 99 rfl w2.heap.size Tryz.underlying26 zP rfl (by decide) _ 0 [] rfl on0 _ N.sn N.sc N.ss rfl (h.s.below (zc b02 vv)) (by omega) vv.size ?_;intro aooS cpoS wx2 oS hr0 hgr hbx;(try have oL:=zu oL on0 (by decide) hgr);(try have kX:=ze kX hgr (fun k hk=>zt on0 kX (by decide) k hk));have vv:=vv.trans hbx;(try simp only [Nat.zero_add,List.nil_append] at oS);(try simp only [Nat.zero_add]);clear on0 hr0 hgr hbx;refine kO hK (zd (za kP vv)) fun hHeld => ?_
      clear hK K;refine kK 8 q333 ?_;refine kR 10 q335 (fun K hK => ?_);obtain ⟨xx0,xx1,xx2⟩:=zd kX;have ff0:=zg kX 0;have ff1:=zg kX 1;have ff2:=zg kX 2;go_simp;refine zW (K:=K _) kX _ _ _ (fun wq kQ hgq => ?_);have oL2:=zo oL hgq (zt oL kX (by decide));have oS2:=zo oS hgq (zt oS kX (by decide));have bv:=zc b02 vv;have bq:=bv.grown hgq bv.size (by intro i e; cases e; have:=HZ.out; omega);have vq:=vv.grown hgq vv.size (by intro i e; cases e; exact gX);have stN:NcSt w wq N _ ⟨none,0,0,[],_,N.ln,_,N.ls,_,N.sn,_,N.ss⟩:=⟨za kP vq,HZR.out▸za kJ vq,kQ,⟨zaz _ _,zB oL2 (Nat.le_of_eq HZ.out.symm),zB oS2 (Nat.le_of_eq HZ.out.symm)⟩,bq,by have:=HZ.out; omega⟩;refine kO hK (zd (za kP vq)) fun hHeld => ?_
      clear hK K;refine wpAnyH_done (by kernel_rfl) ?_ _;clear hHeld;(go_wp2_with fail)
      go_meet
      exact ⟨_,_,_,_,_,rfl,stN⟩
     exact AllReadyH.nil
    refine AllReadyH.cons (o:=q334) rfl (fun K hK => ?_) ?_
    ·go_simp
     first
     | refine zw (K:=K _) (fun wx kX hbx => ?_)
     | refine zq (K:=K _) (fun wx kX hbx => ?_)
     have gX:=vv.size;(try have kL:=za kL hbx);(try have kS:=za kS hbx);(try have oL:=zi oL hbx);(try have oS:=zi oS hbx);have vv:=zc vv hbx;clear hbx;refine kO hK (zd (za kP vv)) fun hHeld => ?_
     clear hK K;refine kR 3 q330 (fun K hK => ?_);have on0:=zE linkF kL gL;refine zh (F:=linkF) rfl _ _ 25 66 rfl w2.heap.size Tryz.underlying25 zaw rfl (by decide) _ 0 [] rfl on0 _ N.ln N.lc N.ls rfl (h.l.below (zc b02 vv)) (by omega) vv.size ?_;intro aooL cpoL wx2 oL hr0 hgr hbx;(try have oS:=zu oS on0 (by decide) hgr);(try have kS:=ze kS hgr (fun k hk=>zt on0 kS (by decide) k hk));(try have kX:=ze kX hgr (fun k hk=>zt on0 kX (by decide) k hk));have vv:=vv.trans hbx;(try simp only [Nat.zero_add,List.nil_append] at oL);(try simp only [Nat.zero_add]);clear on0 hr0 hgr hbx;refine kO hK (zd (za kP vv)) fun hHeld => ?_
     clear hK K;refine kR 7 q332 (fun K hK => ?_);have on0:=zE sayF kS gS;refine zh (F:=sayF) rfl _ _ 26 99 rfl w2.heap.size Tryz.underlying26 zP rfl (by decide) _ 0 [] rfl on0 _ N.sn N.sc N.ss rfl (h.s.below (zc b02 vv)) (by omega) vv.size ?_;intro aooS cpoS wx2 oS hr0 hgr hbx;(try have oL:=zu oL on0 (by decide) hgr);(try have kX:=ze kX hgr (fun k hk=>zt on0 kX (by decide) k hk));have vv:=vv.trans hbx;(try simp only [Nat.zero_add,List.nil_append] at oS);(try simp only [Nat.zero_add]);clear on0 hr0 hgr hbx;refine kO hK (zd (za kP vv)) fun hHeld => ?_
     clear hK K;refine kK 8 q333 ?_;refine kR 10 q335 (fun K hK => ?_);obtain ⟨xx0,xx1,xx2⟩:=zd kX;have ff0:=zg kX 0;have ff1:=zg kX 1;have ff2:=zg kX 2;go_simp;refine zW (K:=K _) kX _ _ _ (fun wq kQ hgq => ?_);have oL2:=zo oL hgq (zt oL kX (by decide));have oS2:=zo oS hgq (zt oS kX (by decide));have bv:=zc b02 vv;have bq:=bv.grown hgq bv.size (by intro i e; cases e; have:=HZ.out; omega);have vq:=vv.grown hgq vv.size (by intro i e; cases e; exact gX);have stN:NcSt w wq N _ ⟨none,0,0,[],_,N.ln,_,N.ls,_,N.sn,_,N.ss⟩:=⟨za kP vq,HZR.out▸za kJ vq,kQ,⟨zaz _ _,zB oL2 (Nat.le_of_eq HZ.out.symm),zB oS2 (Nat.le_of_eq HZ.out.symm)⟩,bq,by have:=HZ.out; omega⟩;refine kO hK (zd (za kP vq)) fun hHeld => ?_
     clear hK K;refine wpAnyH_done (by kernel_rfl) ?_ _;clear hHeld;(go_wp2_with fail)
     go_meet
     exact ⟨_,_,_,_,_,rfl,stN⟩
    exact AllReadyH.nil
   refine AllReadyH.cons (o:=q334) rfl (fun K hK => ?_) ?_
   ·go_simp
    first
    | refine zw (K:=K _) (fun wx kX hbx => ?_)
    | refine zq (K:=K _) (fun wx kX hbx => ?_)
    have gX:=vv.size;(try have kL:=za kL hbx);(try have kS:=za kS hbx);(try have oL:=zi oL hbx);(try have oS:=zi oS hbx);have vv:=zc vv hbx;clear hbx;refine kO hK (zd (za kP vv)) fun hHeld => ?_
    clear hK K;refine kR 0 q329 (fun K hK => ?_);go_simp
    first
    | refine zw (K:=K _) (fun wx kL hbx => ?_)
    | refine zq (K:=K _) (fun wx kL hbx => ?_)
    have gL:=vv.size;(try have kS:=za kS hbx);(try have kX:=za kX hbx);(try have oS:=zi oS hbx);have vv:=zc vv hbx;clear hbx;refine kO hK (zd (za kP vv)) fun hHeld => ?_
    clear hK K;refine kR 3 q330 (fun K hK => ?_);have on0:=zE linkF kL gL;refine zh (F:=linkF) rfl _ _ 25 66 rfl w2.heap.size Tryz.underlying25 zaw rfl (by decide) _ 0 [] rfl on0 _ N.ln N.lc N.ls rfl (h.l.below (zc b02 vv)) (by omega) vv.size ?_;intro aooL cpoL wx2 oL hr0 hgr hbx;(try have oS:=zu oS on0 (by decide) hgr);(try have kS:=ze kS hgr (fun k hk=>zt on0 kS (by decide) k hk));(try have kX:=ze kX hgr (fun k hk=>zt on0 kX (by decide) k hk));have vv:=vv.trans hbx;(try simp only [Nat.zero_add,List.nil_append] at oL);(try simp only [Nat.zero_add]);clear on0 hr0 hgr hbx;refine kO hK (zd (za kP vv)) fun hHeld => ?_
    clear hK K;refine kR 7 q332 (fun K hK => ?_);have on0:=zE sayF kS gS;refine zh (F:=sayF) rfl _ _ 26 99 rfl w2.heap.size Tryz.underlying26 zP rfl (by decide) _ 0 [] rfl on0 _ N.sn N.sc N.ss rfl (h.s.below (zc b02 vv)) (by omega) vv.size ?_;intro aooS cpoS wx2 oS hr0 hgr hbx;(try have oL:=zu oL on0 (by decide) hgr);(try have kX:=ze kX hgr (fun k hk=>zt on0 kX (by decide) k hk));have vv:=vv.trans hbx;(try simp only [Nat.zero_add,List.nil_append] at oS);(try simp only [Nat.zero_add]);clear on0 hr0 hgr hbx;refine kO hK (zd (za kP vv)) fun hHeld => ?_
    clear hK K;refine kK 8 q333 ?_;refine kR 10 q335 (fun K hK => ?_);obtain ⟨xx0,xx1,xx2⟩:=zd kX;have ff0:=zg kX 0;have ff1:=zg kX 1;have ff2:=zg kX 2;go_simp;refine zW (K:=K _) kX _ _ _ (fun wq kQ hgq => ?_);have oL2:=zo oL hgq (zt oL kX (by decide));have oS2:=zo oS hgq (zt oS kX (by decide));have bv:=zc b02 vv;have bq:=bv.grown hgq bv.size (by intro i e; cases e; have:=HZ.out; omega);have vq:=vv.grown hgq vv.size (by intro i e; cases e; exact gX);have stN:NcSt w wq N _ ⟨none,0,0,[],_,N.ln,_,N.ls,_,N.sn,_,N.ss⟩:=⟨za kP vq,HZR.out▸za kJ vq,kQ,⟨zaz _ _,zB oL2 (Nat.le_of_eq HZ.out.symm),zB oS2 (Nat.le_of_eq HZ.out.symm)⟩,bq,by have:=HZ.out; omega⟩;refine kO hK (zd (za kP vq)) fun hHeld => ?_
    clear hK K;refine wpAnyH_done (by kernel_rfl) ?_ _;clear hHeld;(go_wp2_with fail)
    go_meet
    exact ⟨_,_,_,_,_,rfl,stN⟩
   exact AllReadyH.nil
  refine AllReadyH.cons (o:=q334) rfl (fun K hK => ?_) ?_
  ·go_simp
   first
   | refine zw (K:=K _) (fun wx kX hbx => ?_)
   | refine zq (K:=K _) (fun wx kX hbx => ?_)
   have gX:=vv.size;(try have kL:=za kL hbx);(try have kS:=za kS hbx);(try have oL:=zi oL hbx);(try have oS:=zi oS hbx);have vv:=zc vv hbx;clear hbx;refine kO hK (zd (za kP vv)) fun hHeld => ?_
   clear hK K;refine tR [0,4] ?_;refine AllReadyH.cons (o:=q329) rfl (fun K hK => ?_) ?_
   ·go_simp
    first
    | refine zw (K:=K _) (fun wx kL hbx => ?_)
    | refine zq (K:=K _) (fun wx kL hbx => ?_)
    have gL:=vv.size;(try have kS:=za kS hbx);(try have kX:=za kX hbx);(try have oS:=zi oS hbx);have vv:=zc vv hbx;clear hbx;refine kO hK (zd (za kP vv)) fun hHeld => ?_
    clear hK K;refine tR [3,4] ?_;refine AllReadyH.cons (o:=q330) rfl (fun K hK => ?_) ?_
    ·have on0:=zE linkF kL gL;refine zh (F:=linkF) rfl _ _ 25 66 rfl w2.heap.size Tryz.underlying25 zaw rfl (by decide) _ 0 [] rfl on0 _ N.ln N.lc N.ls rfl (h.l.below (zc b02 vv)) (by omega) vv.size ?_;intro aooL cpoL wx2 oL hr0 hgr hbx;(try have oS:=zu oS on0 (by decide) hgr);(try have kS:=ze kS hgr (fun k hk=>zt on0 kS (by decide) k hk));(try have kX:=ze kX hgr (fun k hk=>zt on0 kX (by decide) k hk));have vv:=vv.trans hbx;(try simp only [Nat.zero_add,List.nil_append] at oL);(try simp only [Nat.zero_add]);clear on0 hr0 hgr hbx;refine kO hK (zd (za kP vv)) fun hHeld => ?_
     clear hK K;refine kR 4 q331 (fun K hK => ?_);go_simp
     first
     | refine zw (K:=K _) (fun wx kS hbx => ?_)
     | refine zq (K:=K _) (fun wx kS hbx => ?_)
     have gS:=vv.size;(try have kL:=za kL hbx);(try have kX:=za kX hbx);(try have oL:=zi oL hbx);have vv:=zc vv hbx;clear hbx;refine kO hK (zd (za kP vv)) fun hHeld => ?_
     clear hK K;refine kR 7 q332 (fun K hK => ?_);have on0:=zE sayF kS gS;refine zh (F:=sayF) rfl _ _ 26 99 rfl w2.heap.size Tryz.underlying26 zP rfl (by decide) _ 0 [] rfl on0 _ N.sn N.sc N.ss rfl (h.s.below (zc b02 vv)) (by omega) vv.size ?_;intro aooS cpoS wx2 oS hr0 hgr hbx;(try have oL:=zu oL on0 (by decide) hgr);(try have kX:=ze kX hgr (fun k hk=>zt on0 kX (by decide) k hk));have vv:=vv.trans hbx;(try simp only [Nat.zero_add,List.nil_append] at oS);(try simp only [Nat.zero_add]);clear on0 hr0 hgr hbx;refine kO hK (zd (za kP vv)) fun hHeld => ?_
     clear hK K;refine kK 8 q333 ?_;refine kR 10 q335 (fun K hK => ?_);obtain ⟨xx0,xx1,xx2⟩:=zd kX;have ff0:=zg kX 0;have ff1:=zg kX 1;have ff2:=zg kX 2;go_simp;refine zW (K:=K _) kX _ _ _ (fun wq kQ hgq => ?_);have oL2:=zo oL hgq (zt oL kX (by decide));have oS2:=zo oS hgq (zt oS kX (by decide));have bv:=zc b02 vv;have bq:=bv.grown hgq bv.size (by intro i e; cases e; have:=HZ.out; omega);have vq:=vv.grown hgq vv.size (by intro i e; cases e; exact gX);have stN:NcSt w wq N _ ⟨none,0,0,[],_,N.ln,_,N.ls,_,N.sn,_,N.ss⟩:=⟨za kP vq,HZR.out▸za kJ vq,kQ,⟨zaz _ _,zB oL2 (Nat.le_of_eq HZ.out.symm),zB oS2 (Nat.le_of_eq HZ.out.symm)⟩,bq,by have:=HZ.out; omega⟩;refine kO hK (zd (za kP vq)) fun hHeld => ?_
     clear hK K;refine wpAnyH_done (by kernel_rfl) ?_ _;clear hHeld;(go_wp2_with fail)
     go_meet
     exact ⟨_,_,_,_,_,rfl,stN⟩
    refine AllReadyH.cons (o:=q331) rfl (fun K hK => ?_) ?_
    ·go_simp
     first
     | refine zw (K:=K _) (fun wx kS hbx => ?_)
     | refine zq (K:=K _) (fun wx kS hbx => ?_)
     have gS:=vv.size;(try have kL:=za kL hbx);(try have kX:=za kX hbx);(try have oL:=zi oL hbx);have vv:=zc vv hbx;clear hbx;refine kO hK (zd (za kP vv)) fun hHeld => ?_
     clear hK K;refine kR 3 q330 (fun K hK => ?_);have on0:=zE linkF kL gL;refine zh (F:=linkF) rfl _ _ 25 66 rfl w2.heap.size Tryz.underlying25 zaw rfl (by decide) _ 0 [] rfl on0 _ N.ln N.lc N.ls rfl (h.l.below (zc b02 vv)) (by omega) vv.size ?_;intro aooL cpoL wx2 oL hr0 hgr hbx;(try have oS:=zu oS on0 (by decide) hgr);(try have kS:=ze kS hgr (fun k hk=>zt on0 kS (by decide) k hk));(try have kX:=ze kX hgr (fun k hk=>zt on0 kX (by decide) k hk));have vv:=vv.trans hbx;(try simp only [Nat.zero_add,List.nil_append] at oL);(try simp only [Nat.zero_add]);clear on0 hr0 hgr hbx;refine kO hK (zd (za kP vv)) fun hHeld => ?_
     clear hK K;refine kR 7 q332 (fun K hK => ?_);have on0:=zE sayF kS gS;refine zh (F:=sayF) rfl _ _ 26 99 rfl w2.heap.size Tryz.underlying26 zP rfl (by decide) _ 0 [] rfl on0 _ N.sn N.sc N.ss rfl (h.s.below (zc b02 vv)) (by omega) vv.size ?_;intro aooS cpoS wx2 oS hr0 hgr hbx;(try have oL:=zu oL on0 (by decide) hgr);(try have kX:=ze kX hgr (fun k hk=>zt on0 kX (by decide) k hk));have vv:=vv.trans hbx;(try simp only [Nat.zero_add,List.nil_append] at oS);(try simp only [Nat.zero_add]);clear on0 hr0 hgr hbx;refine kO hK (zd (za kP vv)) fun hHeld => ?_
     clear hK K;refine kK 8 q333 ?_;refine kR 10 q335 (fun K hK => ?_);obtain ⟨xx0,xx1,xx2⟩:=zd kX;have ff0:=zg kX 0;have ff1:=zg kX 1;have ff2:=zg kX 2;go_simp;refine zW (K:=K _) kX _ _ _ (fun wq kQ hgq => ?_);have oL2:=zo oL hgq (zt oL kX (by decide));have oS2:=zo oS hgq (zt oS kX (by decide));have bv:=zc b02 vv;have bq:=bv.grown hgq bv.size (by intro i e; cases e; have:=HZ.out; omega);have vq:=vv.grown hgq vv.size (by intro i e; cases e; exact gX);have stN:NcSt w wq N _ ⟨none,0,0,[],_,N.ln,_,N.ls,_,N.sn,_,N.ss⟩:=⟨za kP vq,HZR.out▸za kJ vq,kQ,⟨zaz _ _,zB oL2 (Nat.le_of_eq HZ.out.symm),zB oS2 (Nat.le_of_eq HZ.out.symm)⟩,bq,by have:=HZ.out; omega⟩;refine kO hK (zd (za kP vq)) fun hHeld => ?_
     clear hK K;refine wpAnyH_done (by kernel_rfl) ?_ _;clear hHeld;(go_wp2_with fail)
     go_meet
     exact ⟨_,_,_,_,_,rfl,stN⟩
    exact AllReadyH.nil
   refine AllReadyH.cons (o:=q331) rfl (fun K hK => ?_) ?_
   ·go_simp
    first
    | refine zw (K:=K _) (fun wx kS hbx => ?_)
    | refine zq (K:=K _) (fun wx kS hbx => ?_)
    have gS:=vv.size;(try have kL:=za kL hbx);(try have kX:=za kX hbx);(try have oL:=zi oL hbx);have vv:=zc vv hbx;clear hbx;refine kO hK (zd (za kP vv)) fun hHeld => ?_
    clear hK K;refine kR 0 q329 (fun K hK => ?_);go_simp
    first
    | refine zw (K:=K _) (fun wx kL hbx => ?_)
    | refine zq (K:=K _) (fun wx kL hbx => ?_)
    have gL:=vv.size;(try have kS:=za kS hbx);(try have kX:=za kX hbx);(try have oS:=zi oS hbx);have vv:=zc vv hbx;clear hbx;refine kO hK (zd (za kP vv)) fun hHeld => ?_
    clear hK K;refine kR 3 q330 (fun K hK => ?_);have on0:=zE linkF kL gL;refine zh (F:=linkF) rfl _ _ 25 66 rfl w2.heap.size Tryz.underlying25 zaw rfl (by decide) _ 0 [] rfl on0 _ N.ln N.lc N.ls rfl (h.l.below (zc b02 vv)) (by omega) vv.size ?_;intro aooL cpoL wx2 oL hr0 hgr hbx;(try have oS:=zu oS on0 (by decide) hgr);(try have kS:=ze kS hgr (fun k hk=>zt on0 kS (by decide) k hk));(try have kX:=ze kX hgr (fun k hk=>zt on0 kX (by decide) k hk));have vv:=vv.trans hbx;(try simp only [Nat.zero_add,List.nil_append] at oL);(try simp only [Nat.zero_add]);clear on0 hr0 hgr hbx;refine kO hK (zd (za kP vv)) fun hHeld => ?_
    clear hK K;refine kR 7 q332 (fun K hK => ?_);have on0:=zE sayF kS gS;refine zh (F:=sayF) rfl _ _ 26 99 rfl w2.heap.size Tryz.underlying26 zP rfl (by decide) _ 0 [] rfl on0 _ N.sn N.sc N.ss rfl (h.s.below (zc b02 vv)) (by omega) vv.size ?_;intro aooS cpoS wx2 oS hr0 hgr hbx;(try have oL:=zu oL on0 (by decide) hgr);(try have kX:=ze kX hgr (fun k hk=>zt on0 kX (by decide) k hk));have vv:=vv.trans hbx;(try simp only [Nat.zero_add,List.nil_append] at oS);(try simp only [Nat.zero_add]);clear on0 hr0 hgr hbx;refine kO hK (zd (za kP vv)) fun hHeld => ?_
    clear hK K;refine kK 8 q333 ?_;refine kR 10 q335 (fun K hK => ?_);obtain ⟨xx0,xx1,xx2⟩:=zd kX;have ff0:=zg kX 0;have ff1:=zg kX 1;have ff2:=zg kX 2;go_simp;refine zW (K:=K _) kX _ _ _ (fun wq kQ hgq => ?_);have oL2:=zo oL hgq (zt oL kX (by decide));have oS2:=zo oS hgq (zt oS kX (by decide));have bv:=zc b02 vv;have bq:=bv.grown hgq bv.size (by intro i e; cases e; have:=HZ.out; omega);have vq:=vv.grown hgq vv.size (by intro i e; cases e; exact gX);have stN:NcSt w wq N _ ⟨none,0,0,[],_,N.ln,_,N.ls,_,N.sn,_,N.ss⟩:=⟨za kP vq,HZR.out▸za kJ vq,kQ,⟨zaz _ _,zB oL2 (Nat.le_of_eq HZ.out.symm),zB oS2 (Nat.le_of_eq HZ.out.symm)⟩,bq,by have:=HZ.out; omega⟩;refine kO hK (zd (za kP vq)) fun hHeld => ?_
    clear hK K;refine wpAnyH_done (by kernel_rfl) ?_ _;clear hHeld;(go_wp2_with fail)
    go_meet
    exact ⟨_,_,_,_,_,rfl,stN⟩
   exact AllReadyH.nil
  exact AllReadyH.nil
 case rest =>
  obtain ⟨X,la,lc,sa,sc,rfl,st0⟩:=hcut;obtain ⟨w4,hw4⟩:∃y,y=wc:=⟨_,rfl⟩;subst hw4;have HRR:=HZR;generalize hR:w1.heap.size=R at *;clear hw1 hw2 b01 b12 b02 kP kJ HZ hR;(go_wp2_with fail)
  go_loopw [4] (fun i wr=>∃(k:Nat) (M:NV),k≤N.bn∧i=.int .i64 k∧NcSt w wr N X M∧M.bn=k∧M.bs.map BV.B=(N.bs.take k).map BV.B∧(M.ls=N.ls∧M.ss=N.ss)) (fun i _=>N.bn - (intOf i).toNat)
  case atStart=>exact ⟨0,_,Nat.zero_le _,rfl,st0,rfl,by simp,rfl,rfl⟩
  case round =>
   clear st0;obtain ⟨k,M,hk,rfl,st,hMn,hM,hLS⟩:=hrel;have HKP:Hid (∀{W W':World} {M:NV},NcSt w wr N X M→Below wr.heap.size wr W→W.grownBy W' (Value.slice M.ba M.bn M.bc).ownBlock→W'.heap[w.heap.size]? = some (.cells #[.slice N.ba N.bn N.bc,.slice N.la N.ln N.lc,.slice N.sa N.sn N.sc] 28)):=hide (fun st hb hg=>ze (za st.src hb) hg (fun k hk=>zt (st.own.b.below hb).row (za st.src hb) (by decide) k hk));have HMN:=hide hMn;have HM:=hide hM;have HLS:=hide hLS;obtain ⟨q0,q1,q2⟩:=zd st.src;clear hM hLS;by_cases hlt:k < N.bn
   ·obtain ⟨x,bb,off,hxx,hba,-⟩:=br_at h.b k hlt;have hx:=h.item x (List.mem_of_getElem? hxx);have hsm:=hm x (List.mem_of_getElem? hxx);have HG:Hid (GRow brF w (some ⟨bb,off,none⟩) N.bn N.bc N.bs):=hide (by rw [← hba]; exact h.b);have HBA:=hide hba;have HX:=hide hxx;have i1:(0:Int)≤(k:Int):=by omega
    have i2:(k:Int) < (N.bn:Int):=by omega
    have hMk:M.bn≤16777216:=by omega
    have vv:Below wr.heap.size wr wr.drew:=zG (Below.refl _ _);have uu:Below w.heap.size w wr.drew:=zc st.below vv;have kP:=za st.src vv;have x0:=(zd (za st.box vv)).1;clear hxx hba hMn;(go_wp2_with fail);refine wp_region_held_drew (S:=(fun W=>(zcc W w.heap.size 0 (.slice (some ⟨bb,off,none⟩) N.bn N.bc)∧zcc W w.heap.size 1 (.slice N.la N.ln N.lc)∧zcc W w.heap.size 2 (.slice N.sa N.sn N.sc))∧(zcc W bb (off+k*11) (.int .i64 x.B.id)∧zcc W bb (off+k*11+1) (.string x.B.name)∧zcc W bb (off+k*11+2) (.slice x.a x.n x.c)∧zcc W bb (off+k*11+3) (.slice x.fa x.fn x.fc)∧zcc W bb (off+k*11+4) (.slice x.ra x.rn x.rc)∧zcc W bb (off+k*11+5) (.slice x.oa x.on x.oc)∧zcc W bb (off+k*11+6) (.int .i64 x.B.ticks)∧zcc W bb (off+k*11+7) (.int .i64 x.B.parse)∧zcc W bb (off+k*11+8) (.int .i64 x.B.word)∧zcc W bb (off+k*11+9) (.int .i64 x.B.drops)∧zcc W bb (off+k*11+10) (.int .i64 x.B.vers)))) (by kernel_rfl) (⟨by have:=zd kP; rw [HBA.out] at this; exact this,zH HG.out uu HX.out⟩) (fun hHeld => ?_);refine kK 0 ⟨some 21,.fieldAddr 28 (.tmp 3) 0,0,"l13_net.go:105",#[],none⟩ ?_;refine kK 2 ⟨some 23,.fieldAddr 28 (.tmp 1) 0,0,"l13_net.go:105",#[],none⟩ ?_;refine kK 3 ⟨some 24,.load 24 (.tmp 23),24,"l13_net.go:105",#[⟨2,.data⟩],none⟩ ?_;refine kK 4 ⟨some 25,.move (.tmp 4),3,"l13_net.go:105",#[],none⟩ ?_;refine kK 5 ⟨some 26,.indexAddr 24 (.tmp 24) (.tmp 25),0,"l13_net.go:105",#[⟨3,.data⟩,⟨4,.data⟩],none⟩ ?_;refine kK 6 ⟨some 27,.load 44 (.tmp 26),44,"l13_net.go:105",#[⟨5,.data⟩],none⟩ ?_;refine tR [1,7] ?_;refine AllReadyH.cons (o:=q336) rfl (fun K hK => ?_) ?_
    ·go_simp;refine kO hK (⟨by have:=zd kP; rw [HBA.out] at this; exact this,zH HG.out uu HX.out⟩) fun hHeld => ?_
     clear hK K;refine kR 7 q337 (fun K hK => ?_);go_simp;refine (zaD x.a x.n x.c x.fa x.fn x.fc x.ra x.rn x.rc x.oa x.on x.oc x.B _ (hx.below (zc st.below vv)) (by omega) (by omega) (by omega) (by omega)).mono ?_;rintro e wz ⟨a2,c2,fa2,fc2,ra2,rc2,oa2,oc2,rfl,ow2,hbz⟩;have ow2:=BrOwn.lt ow2 (base':=wr.heap.size) vv.size;have vv:=zc vv hbz;have uu:=zc st.below vv;have kP:=za st.src vv;have x0:=(zd (za st.box vv)).1;(go_wp2_with fail);refine kO hK (⟨by have:=zd kP; rw [HBA.out] at this; exact this,zH HG.out uu HX.out⟩) fun hHeld => ?_
     clear hK K;refine kR 8 q338 (fun K hK => ?_);go_simp
     first
     | refine zw (K:=K _) (fun wx kY hbx => ?_)
     | refine zq (K:=K _) (fun wx kY hbx => ?_)
     have ow2:=BrOwn.below ow2 hbx;have vv:=zc vv hbx;have uu:=zc st.below vv;have kP:=za st.src vv;have x0:=(zd (za st.box vv)).1;clear hbx;refine kO hK (⟨by have:=zd kP; rw [HBA.out] at this; exact this,zH HG.out uu HX.out⟩) fun hHeld => ?_
     clear hK K;refine kR 9 q339 (fun K hK => ?_);have gn1:GRow brF wx (some ⟨_,0,none⟩) 1 1 [(⟨a2,x.n,c2,fa2,x.fn,fc2,ra2,x.rn,rc2,oa2,x.on,oc2,x.B⟩:BV)]:=zA (F:=brF) (zaC brF (base:=0) (l:=[(⟨a2,x.n,c2,fa2,x.fn,fc2,ra2,x.rn,rc2,oa2,x.on,oc2,x.B⟩:BV)]) kY rfl (Nat.zero_le _) (by simp));have hoN:=st.own.b.below vv;refine zh (F:=brF) rfl _ _ 24 44 rfl (w.heap.size+2) Tryz.underlying24 zdV rfl (by decide) _ M.bn M.bs rfl hoN.row _ 1 1 _ rfl gn1 (by omega) (Nat.le_trans st.size vv.size) ?_;intro aL cL wL how _ hgr hbL;obtain ⟨kX,uu,stN⟩:=st.push (y:=(⟨a2,x.n,c2,fa2,x.fn,fc2,ra2,x.rn,rc2,oa2,x.on,oc2,x.B⟩:BV)) vv ow2 hgr how;have kP:wL.heap[w.heap.size]? = some (.cells #[.slice N.ba N.bn N.bc,.slice N.la N.ln N.lc,.slice N.sa N.sn N.sc] 28):=HKP.out st vv hgr;have x0:=(zd kX).1;have fz:=zg kX 0;refine kO hK (⟨by have:=zd kP; rw [HBA.out] at this; exact this,zH HG.out uu HX.out⟩) fun hHeld => ?_
     clear hK K;refine kK 10 q340 ?_;refine kR 11 q341 (fun K hK => ?_);go_simp;have uu:=stN.below;have kP:=stN.src;refine kO hK (⟨by have:=zd kP; rw [HBA.out] at this; exact this,zH HG.out uu HX.out⟩) fun hHeld => ?_
     clear hK K;refine wpAnyH_done (by kernel_rfl) ?_ _;have HST:=hide stN;clear hHeld how hgr hbL hoN kX uu x0 fz kY gn1 ow2 vv kP;go_wp2
     go_roundw
     case rel=>exact ⟨k+1,_,by omega,by go_num,HST.out,by show M.bn+1=k+1; rw [HMN.out],by rw [List.map_append,HM.out,List.take_add_one,HX.out,List.map_append]; rfl,HLS.out⟩
     case measure=>simp [intOf]; omega
    refine AllReadyH.cons (o:=q337) rfl (fun K hK => ?_) ?_
    ·go_simp;refine (zaD x.a x.n x.c x.fa x.fn x.fc x.ra x.rn x.rc x.oa x.on x.oc x.B _ (hx.below (zc st.below vv)) (by omega) (by omega) (by omega) (by omega)).mono ?_;rintro e wz ⟨a2,c2,fa2,fc2,ra2,rc2,oa2,oc2,rfl,ow2,hbz⟩;have ow2:=BrOwn.lt ow2 (base':=wr.heap.size) vv.size;have vv:=zc vv hbz;have uu:=zc st.below vv;have kP:=za st.src vv;have x0:=(zd (za st.box vv)).1;(go_wp2_with fail);refine kO hK (⟨by have:=zd kP; rw [HBA.out] at this; exact this,zH HG.out uu HX.out⟩) fun hHeld => ?_
     clear hK K;refine tR [1,8] ?_;refine AllReadyH.cons (o:=q336) rfl (fun K hK => ?_) ?_
     ·go_simp;refine kO hK (⟨by have:=zd kP; rw [HBA.out] at this; exact this,zH HG.out uu HX.out⟩) fun hHeld => ?_
      clear hK K;refine kR 8 q338 (fun K hK => ?_);go_simp
      first
      | refine zw (K:=K _) (fun wx kY hbx => ?_)
      | refine zq (K:=K _) (fun wx kY hbx => ?_)
      have ow2:=BrOwn.below ow2 hbx;have vv:=zc vv hbx;have uu:=zc st.below vv;have kP:=za st.src vv;have x0:=(zd (za st.box vv)).1;clear hbx;refine kO hK (⟨by have:=zd kP; rw [HBA.out] at this; exact this,zH HG.out uu HX.out⟩) fun hHeld => ?_
      clear hK K;refine kR 9 q339 (fun K hK => ?_);have gn1:GRow brF wx (some ⟨_,0,none⟩) 1 1 [(⟨a2,x.n,c2,fa2,x.fn,fc2,ra2,x.rn,rc2,oa2,x.on,oc2,x.B⟩:BV)]:=zA (F:=brF) (zaC brF (base:=0) (l:=[(⟨a2,x.n,c2,fa2,x.fn,fc2,ra2,x.rn,rc2,oa2,x.on,oc2,x.B⟩:BV)]) kY rfl (Nat.zero_le _) (by simp));have hoN:=st.own.b.below vv;refine zh (F:=brF) rfl _ _ 24 44 rfl (w.heap.size+2) Tryz.underlying24 zdV rfl (by decide) _ M.bn M.bs rfl hoN.row _ 1 1 _ rfl gn1 (by omega) (Nat.le_trans st.size vv.size) ?_;intro aL cL wL how _ hgr hbL;obtain ⟨kX,uu,stN⟩:=st.push (y:=(⟨a2,x.n,c2,fa2,x.fn,fc2,ra2,x.rn,rc2,oa2,x.on,oc2,x.B⟩:BV)) vv ow2 hgr how;have kP:wL.heap[w.heap.size]? = some (.cells #[.slice N.ba N.bn N.bc,.slice N.la N.ln N.lc,.slice N.sa N.sn N.sc] 28):=HKP.out st vv hgr;have x0:=(zd kX).1;have fz:=zg kX 0;refine kO hK (⟨by have:=zd kP; rw [HBA.out] at this; exact this,zH HG.out uu HX.out⟩) fun hHeld => ?_
      clear hK K;refine kK 10 q340 ?_;refine kR 11 q341 (fun K hK => ?_);go_simp;have uu:=stN.below;have kP:=stN.src;refine kO hK (⟨by have:=zd kP; rw [HBA.out] at this; exact this,zH HG.out uu HX.out⟩) fun hHeld => ?_
      clear hK K;refine wpAnyH_done (by kernel_rfl) ?_ _;have HST:=hide stN;clear hHeld how hgr hbL hoN kX uu x0 fz kY gn1 ow2 vv kP;go_wp2
      go_roundw
      case rel=>exact ⟨k+1,_,by omega,by go_num,HST.out,by show M.bn+1=k+1; rw [HMN.out],by rw [List.map_append,HM.out,List.take_add_one,HX.out,List.map_append]; rfl,HLS.out⟩
      case measure=>simp [intOf]; omega
     refine AllReadyH.cons (o:=q338) rfl (fun K hK => ?_) ?_
     ·go_simp
      first
      | refine zw (K:=K _) (fun wx kY hbx => ?_)
      | refine zq (K:=K _) (fun wx kY hbx => ?_)
      have ow2:=BrOwn.below ow2 hbx;have vv:=zc vv hbx;have uu:=zc st.below vv;have kP:=za st.src vv;have x0:=(zd (za st.box vv)).1;clear hbx;refine kO hK (⟨by have:=zd kP; rw [HBA.out] at this; exact this,zH HG.out uu HX.out⟩) fun hHeld => ?_
      clear hK K;refine kR 1 q336 (fun K hK => ?_);go_simp;refine kO hK (⟨by have:=zd kP; rw [HBA.out] at this; exact this,zH HG.out uu HX.out⟩) fun hHeld => ?_
      clear hK K;refine kR 9 q339 (fun K hK => ?_);have gn1:GRow brF wx (some ⟨_,0,none⟩) 1 1 [(⟨a2,x.n,c2,fa2,x.fn,fc2,ra2,x.rn,rc2,oa2,x.on,oc2,x.B⟩:BV)]:=zA (F:=brF) (zaC brF (base:=0) (l:=[(⟨a2,x.n,c2,fa2,x.fn,fc2,ra2,x.rn,rc2,oa2,x.on,oc2,x.B⟩:BV)]) kY rfl (Nat.zero_le _) (by simp));have hoN:=st.own.b.below vv;refine zh (F:=brF) rfl _ _ 24 44 rfl (w.heap.size+2) Tryz.underlying24 zdV rfl (by decide) _ M.bn M.bs rfl hoN.row _ 1 1 _ rfl gn1 (by omega) (Nat.le_trans st.size vv.size) ?_;intro aL cL wL how _ hgr hbL;obtain ⟨kX,uu,stN⟩:=st.push (y:=(⟨a2,x.n,c2,fa2,x.fn,fc2,ra2,x.rn,rc2,oa2,x.on,oc2,x.B⟩:BV)) vv ow2 hgr how;have kP:wL.heap[w.heap.size]? = some (.cells #[.slice N.ba N.bn N.bc,.slice N.la N.ln N.lc,.slice N.sa N.sn N.sc] 28):=HKP.out st vv hgr;have x0:=(zd kX).1;have fz:=zg kX 0;refine kO hK (⟨by have:=zd kP; rw [HBA.out] at this; exact this,zH HG.out uu HX.out⟩) fun hHeld => ?_
      clear hK K;refine kK 10 q340 ?_;refine kR 11 q341 (fun K hK => ?_);go_simp;have uu:=stN.below;have kP:=stN.src;refine kO hK (⟨by have:=zd kP; rw [HBA.out] at this; exact this,zH HG.out uu HX.out⟩) fun hHeld => ?_
      clear hK K;refine wpAnyH_done (by kernel_rfl) ?_ _;have HST:=hide stN;clear hHeld how hgr hbL hoN kX uu x0 fz kY gn1 ow2 vv kP;go_wp2
      go_roundw
      case rel=>exact ⟨k+1,_,by omega,by go_num,HST.out,by show M.bn+1=k+1; rw [HMN.out],by rw [List.map_append,HM.out,List.take_add_one,HX.out,List.map_append]; rfl,HLS.out⟩
      case measure=>simp [intOf]; omega
     exact AllReadyH.nil
    exact AllReadyH.nil
   ·have hkn:k=N.bn:=by omega
    have hlen:N.bs.length=N.bn:=h.b.size;have HM2:Hid (M.bs.map BV.B=N.bs.map BV.B):=hide (by rw [HM.out,List.take_of_length_le (by omega)]);obtain ⟨r0,r1,r2⟩:=zd st.res;obtain ⟨x0,x1,x2⟩:=zd st.box;have f0:=zg st.res 0;have f1:=zg st.res 1;have f2:=zg st.res 2;have ne1:¬w.heap.size+1=X:=by have:=st.lt; omega
    have ne2:¬X=w.heap.size+1:=by have:=st.lt; omega
    have HO:=hide ((st.own.boxed st.res (zL (zL (zj (rb:=w.heap.size+1) 0 (.slice M.ba M.bn M.bc)) (zj 1 (.slice M.la M.ln M.lc))) (zj 2 (.slice M.sa M.sn M.sc)))).lt (base':=w.heap.size) (by omega));have HB:=hide (zy (zy (zy st.below (g:=w.heap.size+1) (by omega) 0 (.slice M.ba M.bn M.bc)) (g:=w.heap.size+1) (by omega) 1 (.slice M.la M.ln M.lc)) (g:=w.heap.size+1) (by omega) 2 (.slice M.sa M.sn M.sc));have hRv:=HRR.out;subst hRv;clear st hMn;go_wp2;exact bodyPost_ret (v:=.agg #[.slice M.ba M.bn M.bc,.slice M.la M.ln M.lc,.slice M.sa M.sn M.sc]) (by simp [results,Tryz.results75,go_sem, *]) rfl ⟨M,rfl,HO.out,⟨HM2.out,HLS.out.1,HLS.out.2⟩,HB.out⟩

end Go.Proofs.YtkaefmfopejbaaaGreat
