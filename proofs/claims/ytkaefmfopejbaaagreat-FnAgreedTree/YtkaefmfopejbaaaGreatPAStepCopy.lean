/-
  l13Copy of the specification: the same bridges, links and what is on its way, in memory of its own.
-/
import Derived.Test.YtkaefmfopejbaaaGreatPAK31
namespace Go.Proofs.YtkaefmfopejbaaaGreat
set_option maxRecDepth 100000
set_option maxHeartbeats 16000000
open Go.RowKit

theorem zf5 (N:NV) (w:World) (h:zaa w N) (hn:N.bn≤16777216) (hl:N.ln≤16777216) (hs:N.sn≤16777216) (hm:∀x∈N.bs,x.n≤16777216∧x.fn≤16777216∧x.rn≤16777216∧x.on≤16777216) :
  Calls Tryz.prog 75 #[.agg #[.slice N.ba N.bn N.bc,.slice N.la N.ln N.lc,.slice N.sa N.sn N.sc]] w fun e w'=>∃M:NV,e=.returned (.agg #[.slice M.ba M.bn M.bc,.slice M.la M.ln M.lc,.slice M.sa M.sn M.sc])∧NOwn w' w.heap.size M∧M.Same N∧Below w.heap.size w w':=by
 generalize hw1:w.alloc (Obj.cells #[.slice N.ba N.bn N.bc,.slice N.la N.ln N.lc,.slice N.sa N.sn N.sc] 28)=w1;generalize hw2:w1.alloc (Obj.cells #[.slice none 0 0,.slice none 0 0,.slice none 0 0] 28)=w2;have b01:=zb hw1;have b12:=zb hw2;have b02:=zc b01 b12;have kP:=za (zk hw1) b12;have kJ:=zk hw2;have HZR:Hid (w1.heap.size=w.heap.size+1):=hide (by rw [← hw1]; simp);have HZ:Hid (w2.heap.size=w.heap.size+2):=hide (by rw [← hw2,← hw1]; simp);have hbl:=Nat.le_trans h.b.le h.b.top;unfold maxLen at hbl;go_enter Tryz.func75,Tryz.ntmps75;go_upto_region 1 with fail
 go_cut [3] from 5 to 13 (fun s wx=>∃(X:Nat) (la:Option Addr) (lc:Nat) (sa:Option Addr) (sc:Nat),s=.pointer (some ⟨X,0,none⟩)∧NcSt w wx N X ⟨none,0,0,[],la,N.ln,lc,N.ls,sa,N.sn,sc,N.ss⟩)
 case first =>
  have vv:Below w2.heap.size w2 w2.drew:=zq (Below.refl _ _);refine wp_region_held_drew (S:=(fun W=>zcc W w.heap.size 0 (.slice N.ba N.bn N.bc)∧zcc W w.heap.size 1 (.slice N.la N.ln N.lc)∧zcc W w.heap.size 2 (.slice N.sa N.sn N.sc))) (by kernel_rfl) (zd (za kP vv)) (fun hHeld => ?_);refine kK 1 ?_;refine kK 2 ?_;refine kK 5 ?_;refine kK 6 ?_;refine tR [0,4,9] ?_;refine kC (fun K hK => ?_) ?_
  ·go_simp
   first
   | refine zw (K:=K _) (fun wx kL hbx => ?_)
   | refine zo (K:=K _) (fun wx kL hbx => ?_)
   have gL:=vv.size;(try have kS:=za kS hbx);(try have kX:=za kX hbx);(try have oS:=zh oS hbx);have vv:=zc vv hbx;clear hbx;refine kO hK (zd (za kP vv)) fun hHeld => ?_
   clear hK K;refine tR [3,4,9] ?_;refine kC (fun K hK => ?_) ?_
   ·have on0:=zQ linkF kL gL;refine zi (F:=linkF) rfl _ _ 25 66 rfl w2.heap.size Tryz.underlying25 zaQ rfl (by decide) _ 0 [] rfl on0 _ N.ln N.lc N.ls rfl (h.l.below (zc b02 vv)) (by omega) vv.size ?_;intro aooL cpoL wx2 oL hr0 hgr hbx;(try have oS:=zD oS on0 (by decide) hgr);(try have kS:=ze kS hgr (fun k hk=>zA on0 kS (by decide) k hk));(try have kX:=ze kX hgr (fun k hk=>zA on0 kX (by decide) k hk));have vv:=vv.trans hbx;(try simp only [Nat.zero_add,List.nil_append] at oL);(try simp only [Nat.zero_add]);clear on0 hr0 hgr hbx;refine kO hK (zd (za kP vv)) fun hHeld => ?_
    clear hK K;refine tR [4,9] ?_;refine kC (fun K hK => ?_) ?_
    ·go_simp
     first
     | refine zw (K:=K _) (fun wx kS hbx => ?_)
     | refine zo (K:=K _) (fun wx kS hbx => ?_)
     have gS:=vv.size;(try have kL:=za kL hbx);(try have kX:=za kX hbx);(try have oL:=zh oL hbx);have vv:=zc vv hbx;clear hbx;refine kO hK (zd (za kP vv)) fun hHeld => ?_
     clear hK K;refine tR [7,9] ?_;refine kC (fun K hK => ?_) ?_
     ·have on0:=zQ sayF kS gS;refine zi (F:=sayF) rfl _ _ 26 99 rfl w2.heap.size Tryz.underlying26 zW rfl (by decide) _ 0 [] rfl on0 _ N.sn N.sc N.ss rfl (h.s.below (zc b02 vv)) (by omega) vv.size ?_;intro aooS cpoS wx2 oS hr0 hgr hbx;(try have oL:=zD oL on0 (by decide) hgr);(try have kX:=ze kX hgr (fun k hk=>zA on0 kX (by decide) k hk));have vv:=vv.trans hbx;(try simp only [Nat.zero_add,List.nil_append] at oS);(try simp only [Nat.zero_add]);clear on0 hr0 hgr hbx;refine kO hK (zd (za kP vv)) fun hHeld => ?_
      clear hK K;refine kK 8 ?_;refine kR 9 fun K hK => ?_
      go_simp
      first
      | refine zw (K:=K _) (fun wx kX hbx => ?_)
      | refine zo (K:=K _) (fun wx kX hbx => ?_)
      have gX:=vv.size;(try have kL:=za kL hbx);(try have kS:=za kS hbx);(try have oL:=zh oL hbx);(try have oS:=zh oS hbx);have vv:=zc vv hbx;clear hbx;refine kO hK (zd (za kP vv)) fun hHeld => ?_
      clear hK K;refine kR 10 fun K hK => ?_
      obtain ⟨xx0,xx1,xx2⟩:=zd kX;have ff0:=zf kX 0;have ff1:=zf kX 1;have ff2:=zf kX 2;go_simp;refine zZ (K:=K _) kX _ _ _ (fun wq kQ hgq => ?_);have oL2:=zt oL hgq (zA oL kX (by decide));have oS2:=zt oS hgq (zA oS kX (by decide));have bv:=zc b02 vv;have bq:=bv.grown hgq bv.size (by intro i e; cases e; have:=HZ.out; omega);have vq:=vv.grown hgq vv.size (by intro i e; cases e; exact gX);have stN:NcSt w wq N _ ⟨none,0,0,[],_,N.ln,_,N.ls,_,N.sn,_,N.ss⟩:=⟨za kP vq,HZR.out▸za kJ vq,kQ,⟨zaT _ _,zH oL2 (Nat.le_of_eq HZ.out.symm),zH oS2 (Nat.le_of_eq HZ.out.symm)⟩,bq,by have:=HZ.out; omega⟩;refine kO hK (zd (za kP vq)) fun hHeld => ?_
      clear hK K;refine wpAnyH_done (by kernel_rfl) ?_ _;clear hHeld;(go_wp2_with fail)
      go_meet
      exact ⟨_,_,_,_,_,rfl,stN⟩
     refine kC (fun K hK => ?_) ?_
     ·go_simp
      first
      | refine zw (K:=K _) (fun wx kX hbx => ?_)
      | refine zo (K:=K _) (fun wx kX hbx => ?_)
      have gX:=vv.size;(try have kL:=za kL hbx);(try have kS:=za kS hbx);(try have oL:=zh oL hbx);(try have oS:=zh oS hbx);have vv:=zc vv hbx;clear hbx;refine kO hK (zd (za kP vv)) fun hHeld => ?_
      clear hK K;refine kR 7 fun K hK => ?_
      have on0:=zQ sayF kS gS;refine zi (F:=sayF) rfl _ _ 26 99 rfl w2.heap.size Tryz.underlying26 zW rfl (by decide) _ 0 [] rfl on0 _ N.sn N.sc N.ss rfl (h.s.below (zc b02 vv)) (by omega) vv.size ?_;intro aooS cpoS wx2 oS hr0 hgr hbx;(try have oL:=zD oL on0 (by decide) hgr);(try have kX:=ze kX hgr (fun k hk=>zA on0 kX (by decide) k hk));have vv:=vv.trans hbx;(try simp only [Nat.zero_add,List.nil_append] at oS);(try simp only [Nat.zero_add]);clear on0 hr0 hgr hbx;refine kO hK (zd (za kP vv)) fun hHeld => ?_
      clear hK K;refine kK 8 ?_;refine kR 10 fun K hK => ?_
      obtain ⟨xx0,xx1,xx2⟩:=zd kX;have ff0:=zf kX 0;have ff1:=zf kX 1;have ff2:=zf kX 2;go_simp;refine zZ (K:=K _) kX _ _ _ (fun wq kQ hgq => ?_);have oL2:=zt oL hgq (zA oL kX (by decide));have oS2:=zt oS hgq (zA oS kX (by decide));have bv:=zc b02 vv;have bq:=bv.grown hgq bv.size (by intro i e; cases e; have:=HZ.out; omega);have vq:=vv.grown hgq vv.size (by intro i e; cases e; exact gX);have stN:NcSt w wq N _ ⟨none,0,0,[],_,N.ln,_,N.ls,_,N.sn,_,N.ss⟩:=⟨za kP vq,HZR.out▸za kJ vq,kQ,⟨zaT _ _,zH oL2 (Nat.le_of_eq HZ.out.symm),zH oS2 (Nat.le_of_eq HZ.out.symm)⟩,bq,by have:=HZ.out; omega⟩;refine kO hK (zd (za kP vq)) fun hHeld => ?_
      clear hK K;refine wpAnyH_done (by kernel_rfl) ?_ _;clear hHeld;(go_wp2_with fail)
      go_meet
      exact ⟨_,_,_,_,_,rfl,stN⟩
     exact AllReadyH.nil
    refine kC (fun K hK => ?_) ?_
    ·go_simp
     first
     | refine zw (K:=K _) (fun wx kX hbx => ?_)
     | refine zo (K:=K _) (fun wx kX hbx => ?_)
     have gX:=vv.size;(try have kL:=za kL hbx);(try have kS:=za kS hbx);(try have oL:=zh oL hbx);(try have oS:=zh oS hbx);have vv:=zc vv hbx;clear hbx;refine kO hK (zd (za kP vv)) fun hHeld => ?_
     clear hK K;refine kR 4 fun K hK => ?_
     go_simp
     first
     | refine zw (K:=K _) (fun wx kS hbx => ?_)
     | refine zo (K:=K _) (fun wx kS hbx => ?_)
     have gS:=vv.size;(try have kL:=za kL hbx);(try have kX:=za kX hbx);(try have oL:=zh oL hbx);have vv:=zc vv hbx;clear hbx;refine kO hK (zd (za kP vv)) fun hHeld => ?_
     clear hK K;refine kR 7 fun K hK => ?_
     have on0:=zQ sayF kS gS;refine zi (F:=sayF) rfl _ _ 26 99 rfl w2.heap.size Tryz.underlying26 zW rfl (by decide) _ 0 [] rfl on0 _ N.sn N.sc N.ss rfl (h.s.below (zc b02 vv)) (by omega) vv.size ?_;intro aooS cpoS wx2 oS hr0 hgr hbx;(try have oL:=zD oL on0 (by decide) hgr);(try have kX:=ze kX hgr (fun k hk=>zA on0 kX (by decide) k hk));have vv:=vv.trans hbx;(try simp only [Nat.zero_add,List.nil_append] at oS);(try simp only [Nat.zero_add]);clear on0 hr0 hgr hbx;refine kO hK (zd (za kP vv)) fun hHeld => ?_
     clear hK K;refine kK 8 ?_;refine kR 10 fun K hK => ?_
     obtain ⟨xx0,xx1,xx2⟩:=zd kX;have ff0:=zf kX 0;have ff1:=zf kX 1;have ff2:=zf kX 2;go_simp;refine zZ (K:=K _) kX _ _ _ (fun wq kQ hgq => ?_);have oL2:=zt oL hgq (zA oL kX (by decide));have oS2:=zt oS hgq (zA oS kX (by decide));have bv:=zc b02 vv;have bq:=bv.grown hgq bv.size (by intro i e; cases e; have:=HZ.out; omega);have vq:=vv.grown hgq vv.size (by intro i e; cases e; exact gX);have stN:NcSt w wq N _ ⟨none,0,0,[],_,N.ln,_,N.ls,_,N.sn,_,N.ss⟩:=⟨za kP vq,HZR.out▸za kJ vq,kQ,⟨zaT _ _,zH oL2 (Nat.le_of_eq HZ.out.symm),zH oS2 (Nat.le_of_eq HZ.out.symm)⟩,bq,by have:=HZ.out; omega⟩;refine kO hK (zd (za kP vq)) fun hHeld => ?_
     clear hK K;refine wpAnyH_done (by kernel_rfl) ?_ _;clear hHeld;(go_wp2_with fail)
     go_meet
     exact ⟨_,_,_,_,_,rfl,stN⟩
    exact AllReadyH.nil
   refine kC (fun K hK => ?_) ?_
   ·go_simp
    first
    | refine zw (K:=K _) (fun wx kS hbx => ?_)
    | refine zo (K:=K _) (fun wx kS hbx => ?_)
    have gS:=vv.size;(try have kL:=za kL hbx);(try have kX:=za kX hbx);(try have oL:=zh oL hbx);have vv:=zc vv hbx;clear hbx;refine kO hK (zd (za kP vv)) fun hHeld => ?_
    clear hK K;refine tR [3,9] ?_;refine kC (fun K hK => ?_) ?_
    ·have on0:=zQ linkF kL gL;refine zi (F:=linkF) rfl _ _ 25 66 rfl w2.heap.size Tryz.underlying25 zaQ rfl (by decide) _ 0 [] rfl on0 _ N.ln N.lc N.ls rfl (h.l.below (zc b02 vv)) (by omega) vv.size ?_;intro aooL cpoL wx2 oL hr0 hgr hbx;(try have oS:=zD oS on0 (by decide) hgr);(try have kS:=ze kS hgr (fun k hk=>zA on0 kS (by decide) k hk));(try have kX:=ze kX hgr (fun k hk=>zA on0 kX (by decide) k hk));have vv:=vv.trans hbx;(try simp only [Nat.zero_add,List.nil_append] at oL);(try simp only [Nat.zero_add]);clear on0 hr0 hgr hbx;refine kO hK (zd (za kP vv)) fun hHeld => ?_
     clear hK K;refine tR [7,9] ?_;refine kC (fun K hK => ?_) ?_
     ·have on0:=zQ sayF kS gS;refine zi (F:=sayF) rfl _ _ 26 99 rfl w2.heap.size Tryz.underlying26 zW rfl (by decide) _ 0 [] rfl on0 _ N.sn N.sc N.ss rfl (h.s.below (zc b02 vv)) (by omega) vv.size ?_;intro aooS cpoS wx2 oS hr0 hgr hbx;(try have oL:=zD oL on0 (by decide) hgr);(try have kX:=ze kX hgr (fun k hk=>zA on0 kX (by decide) k hk));have vv:=vv.trans hbx;(try simp only [Nat.zero_add,List.nil_append] at oS);(try simp only [Nat.zero_add]);clear on0 hr0 hgr hbx;refine kO hK (zd (za kP vv)) fun hHeld => ?_
      clear hK K;refine kK 8 ?_;refine kR 9 fun K hK => ?_
      go_simp
      first
      | refine zw (K:=K _) (fun wx kX hbx => ?_)
      | refine zo (K:=K _) (fun wx kX hbx => ?_)
      have gX:=vv.size;(try have kL:=za kL hbx);(try have kS:=za kS hbx);(try have oL:=zh oL hbx);(try have oS:=zh oS hbx);have vv:=zc vv hbx;clear hbx;refine kO hK (zd (za kP vv)) fun hHeld => ?_
      clear hK K;refine kR 10 fun K hK => ?_
      obtain ⟨xx0,xx1,xx2⟩:=zd kX;have ff0:=zf kX 0;have ff1:=zf kX 1;have ff2:=zf kX 2;go_simp;refine zZ (K:=K _) kX _ _ _ (fun wq kQ hgq => ?_);have oL2:=zt oL hgq (zA oL kX (by decide));have oS2:=zt oS hgq (zA oS kX (by decide));have bv:=zc b02 vv;have bq:=bv.grown hgq bv.size (by intro i e; cases e; have:=HZ.out; omega);have vq:=vv.grown hgq vv.size (by intro i e; cases e; exact gX);have stN:NcSt w wq N _ ⟨none,0,0,[],_,N.ln,_,N.ls,_,N.sn,_,N.ss⟩:=⟨za kP vq,HZR.out▸za kJ vq,kQ,⟨zaT _ _,zH oL2 (Nat.le_of_eq HZ.out.symm),zH oS2 (Nat.le_of_eq HZ.out.symm)⟩,bq,by have:=HZ.out; omega⟩;refine kO hK (zd (za kP vq)) fun hHeld => ?_
      clear hK K;refine wpAnyH_done (by kernel_rfl) ?_ _;clear hHeld;(go_wp2_with fail)
      go_meet
      exact ⟨_,_,_,_,_,rfl,stN⟩
     refine kC (fun K hK => ?_) ?_
     ·go_simp
      first
      | refine zw (K:=K _) (fun wx kX hbx => ?_)
      | refine zo (K:=K _) (fun wx kX hbx => ?_)
      have gX:=vv.size;(try have kL:=za kL hbx);(try have kS:=za kS hbx);(try have oL:=zh oL hbx);(try have oS:=zh oS hbx);have vv:=zc vv hbx;clear hbx;refine kO hK (zd (za kP vv)) fun hHeld => ?_
      clear hK K;refine kR 7 fun K hK => ?_
      have on0:=zQ sayF kS gS;refine zi (F:=sayF) rfl _ _ 26 99 rfl w2.heap.size Tryz.underlying26 zW rfl (by decide) _ 0 [] rfl on0 _ N.sn N.sc N.ss rfl (h.s.below (zc b02 vv)) (by omega) vv.size ?_;intro aooS cpoS wx2 oS hr0 hgr hbx;(try have oL:=zD oL on0 (by decide) hgr);(try have kX:=ze kX hgr (fun k hk=>zA on0 kX (by decide) k hk));have vv:=vv.trans hbx;(try simp only [Nat.zero_add,List.nil_append] at oS);(try simp only [Nat.zero_add]);clear on0 hr0 hgr hbx;refine kO hK (zd (za kP vv)) fun hHeld => ?_
      clear hK K;refine kK 8 ?_;refine kR 10 fun K hK => ?_
      obtain ⟨xx0,xx1,xx2⟩:=zd kX;have ff0:=zf kX 0;have ff1:=zf kX 1;have ff2:=zf kX 2;go_simp;refine zZ (K:=K _) kX _ _ _ (fun wq kQ hgq => ?_);have oL2:=zt oL hgq (zA oL kX (by decide));have oS2:=zt oS hgq (zA oS kX (by decide));have bv:=zc b02 vv;have bq:=bv.grown hgq bv.size (by intro i e; cases e; have:=HZ.out; omega);have vq:=vv.grown hgq vv.size (by intro i e; cases e; exact gX);have stN:NcSt w wq N _ ⟨none,0,0,[],_,N.ln,_,N.ls,_,N.sn,_,N.ss⟩:=⟨za kP vq,HZR.out▸za kJ vq,kQ,⟨zaT _ _,zH oL2 (Nat.le_of_eq HZ.out.symm),zH oS2 (Nat.le_of_eq HZ.out.symm)⟩,bq,by have:=HZ.out; omega⟩;refine kO hK (zd (za kP vq)) fun hHeld => ?_
      clear hK K;refine wpAnyH_done (by kernel_rfl) ?_ _;clear hHeld;(go_wp2_with fail)
      go_meet
      exact ⟨_,_,_,_,_,rfl,stN⟩
     exact AllReadyH.nil
    refine kC (fun K hK => ?_) ?_
    ·go_simp
     first
     | refine zw (K:=K _) (fun wx kX hbx => ?_)
     | refine zo (K:=K _) (fun wx kX hbx => ?_)
     have gX:=vv.size;(try have kL:=za kL hbx);(try have kS:=za kS hbx);(try have oL:=zh oL hbx);(try have oS:=zh oS hbx);have vv:=zc vv hbx;clear hbx;refine kO hK (zd (za kP vv)) fun hHeld => ?_
     clear hK K;refine kR 3 fun K hK => ?_
     have on0:=zQ linkF kL gL;refine zi (F:=linkF) rfl _ _ 25 66 rfl w2.heap.size Tryz.underlying25 zaQ rfl (by decide) _ 0 [] rfl on0 _ N.ln N.lc N.ls rfl (h.l.below (zc b02 vv)) (by omega) vv.size ?_;intro aooL cpoL wx2 oL hr0 hgr hbx;(try have oS:=zD oS on0 (by decide) hgr);(try have kS:=ze kS hgr (fun k hk=>zA on0 kS (by decide) k hk));(try have kX:=ze kX hgr (fun k hk=>zA on0 kX (by decide) k hk));have vv:=vv.trans hbx;(try simp only [Nat.zero_add,List.nil_append] at oL);(try simp only [Nat.zero_add]);clear on0 hr0 hgr hbx;refine kO hK (zd (za kP vv)) fun hHeld => ?_
     clear hK K;refine kR 7 fun K hK => ?_
     have on0:=zQ sayF kS gS;refine zi (F:=sayF) rfl _ _ 26 99 rfl w2.heap.size Tryz.underlying26 zW rfl (by decide) _ 0 [] rfl on0 _ N.sn N.sc N.ss rfl (h.s.below (zc b02 vv)) (by omega) vv.size ?_;intro aooS cpoS wx2 oS hr0 hgr hbx;(try have oL:=zD oL on0 (by decide) hgr);(try have kX:=ze kX hgr (fun k hk=>zA on0 kX (by decide) k hk));have vv:=vv.trans hbx;(try simp only [Nat.zero_add,List.nil_append] at oS);(try simp only [Nat.zero_add]);clear on0 hr0 hgr hbx;refine kO hK (zd (za kP vv)) fun hHeld => ?_
     clear hK K;refine kK 8 ?_;refine kR 10 fun K hK => ?_
     obtain ⟨xx0,xx1,xx2⟩:=zd kX;have ff0:=zf kX 0;have ff1:=zf kX 1;have ff2:=zf kX 2;go_simp;refine zZ (K:=K _) kX _ _ _ (fun wq kQ hgq => ?_);have oL2:=zt oL hgq (zA oL kX (by decide));have oS2:=zt oS hgq (zA oS kX (by decide));have bv:=zc b02 vv;have bq:=bv.grown hgq bv.size (by intro i e; cases e; have:=HZ.out; omega);have vq:=vv.grown hgq vv.size (by intro i e; cases e; exact gX);have stN:NcSt w wq N _ ⟨none,0,0,[],_,N.ln,_,N.ls,_,N.sn,_,N.ss⟩:=⟨za kP vq,HZR.out▸za kJ vq,kQ,⟨zaT _ _,zH oL2 (Nat.le_of_eq HZ.out.symm),zH oS2 (Nat.le_of_eq HZ.out.symm)⟩,bq,by have:=HZ.out; omega⟩;refine kO hK (zd (za kP vq)) fun hHeld => ?_
     clear hK K;refine wpAnyH_done (by kernel_rfl) ?_ _;clear hHeld;(go_wp2_with fail)
     go_meet
     exact ⟨_,_,_,_,_,rfl,stN⟩
    exact AllReadyH.nil
   refine kC (fun K hK => ?_) ?_
   ·go_simp
    first
    | refine zw (K:=K _) (fun wx kX hbx => ?_)
    | refine zo (K:=K _) (fun wx kX hbx => ?_)
    have gX:=vv.size;(try have kL:=za kL hbx);(try have kS:=za kS hbx);(try have oL:=zh oL hbx);(try have oS:=zh oS hbx);have vv:=zc vv hbx;clear hbx;refine kO hK (zd (za kP vv)) fun hHeld => ?_
    clear hK K;refine tR [3,4] ?_;refine kC (fun K hK => ?_) ?_
    ·have on0:=zQ linkF kL gL;refine zi (F:=linkF) rfl _ _ 25 66 rfl w2.heap.size Tryz.underlying25 zaQ rfl (by decide) _ 0 [] rfl on0 _ N.ln N.lc N.ls rfl (h.l.below (zc b02 vv)) (by omega) vv.size ?_;intro aooL cpoL wx2 oL hr0 hgr hbx;(try have oS:=zD oS on0 (by decide) hgr);(try have kS:=ze kS hgr (fun k hk=>zA on0 kS (by decide) k hk));(try have kX:=ze kX hgr (fun k hk=>zA on0 kX (by decide) k hk));have vv:=vv.trans hbx;(try simp only [Nat.zero_add,List.nil_append] at oL);(try simp only [Nat.zero_add]);clear on0 hr0 hgr hbx;refine kO hK (zd (za kP vv)) fun hHeld => ?_
     clear hK K;refine kR 4 fun K hK => ?_
     go_simp
     first
     | refine zw (K:=K _) (fun wx kS hbx => ?_)
     | refine zo (K:=K _) (fun wx kS hbx => ?_)
     have gS:=vv.size;(try have kL:=za kL hbx);(try have kX:=za kX hbx);(try have oL:=zh oL hbx);have vv:=zc vv hbx;clear hbx;refine kO hK (zd (za kP vv)) fun hHeld => ?_
     clear hK K;refine kR 7 fun K hK => ?_
     have on0:=zQ sayF kS gS;refine zi (F:=sayF) rfl _ _ 26 99 rfl w2.heap.size Tryz.underlying26 zW rfl (by decide) _ 0 [] rfl on0 _ N.sn N.sc N.ss rfl (h.s.below (zc b02 vv)) (by omega) vv.size ?_;intro aooS cpoS wx2 oS hr0 hgr hbx;(try have oL:=zD oL on0 (by decide) hgr);(try have kX:=ze kX hgr (fun k hk=>zA on0 kX (by decide) k hk));have vv:=vv.trans hbx;(try simp only [Nat.zero_add,List.nil_append] at oS);(try simp only [Nat.zero_add]);clear on0 hr0 hgr hbx;refine kO hK (zd (za kP vv)) fun hHeld => ?_
     clear hK K;refine kK 8 ?_;refine kR 10 fun K hK => ?_
     obtain ⟨xx0,xx1,xx2⟩:=zd kX;have ff0:=zf kX 0;have ff1:=zf kX 1;have ff2:=zf kX 2;go_simp;refine zZ (K:=K _) kX _ _ _ (fun wq kQ hgq => ?_);have oL2:=zt oL hgq (zA oL kX (by decide));have oS2:=zt oS hgq (zA oS kX (by decide));have bv:=zc b02 vv;have bq:=bv.grown hgq bv.size (by intro i e; cases e; have:=HZ.out; omega);have vq:=vv.grown hgq vv.size (by intro i e; cases e; exact gX);have stN:NcSt w wq N _ ⟨none,0,0,[],_,N.ln,_,N.ls,_,N.sn,_,N.ss⟩:=⟨za kP vq,HZR.out▸za kJ vq,kQ,⟨zaT _ _,zH oL2 (Nat.le_of_eq HZ.out.symm),zH oS2 (Nat.le_of_eq HZ.out.symm)⟩,bq,by have:=HZ.out; omega⟩;refine kO hK (zd (za kP vq)) fun hHeld => ?_
     clear hK K;refine wpAnyH_done (by kernel_rfl) ?_ _;clear hHeld;(go_wp2_with fail)
     go_meet
     exact ⟨_,_,_,_,_,rfl,stN⟩
    refine kC (fun K hK => ?_) ?_
    ·go_simp
     first
     | refine zw (K:=K _) (fun wx kS hbx => ?_)
     | refine zo (K:=K _) (fun wx kS hbx => ?_)
     have gS:=vv.size;(try have kL:=za kL hbx);(try have kX:=za kX hbx);(try have oL:=zh oL hbx);have vv:=zc vv hbx;clear hbx;refine kO hK (zd (za kP vv)) fun hHeld => ?_
     clear hK K;refine kR 3 fun K hK => ?_
     have on0:=zQ linkF kL gL;refine zi (F:=linkF) rfl _ _ 25 66 rfl w2.heap.size Tryz.underlying25 zaQ rfl (by decide) _ 0 [] rfl on0 _ N.ln N.lc N.ls rfl (h.l.below (zc b02 vv)) (by omega) vv.size ?_;intro aooL cpoL wx2 oL hr0 hgr hbx;(try have oS:=zD oS on0 (by decide) hgr);(try have kS:=ze kS hgr (fun k hk=>zA on0 kS (by decide) k hk));(try have kX:=ze kX hgr (fun k hk=>zA on0 kX (by decide) k hk));have vv:=vv.trans hbx;(try simp only [Nat.zero_add,List.nil_append] at oL);(try simp only [Nat.zero_add]);clear on0 hr0 hgr hbx;refine kO hK (zd (za kP vv)) fun hHeld => ?_
     clear hK K;refine kR 7 fun K hK => ?_
     have on0:=zQ sayF kS gS;refine zi (F:=sayF) rfl _ _ 26 99 rfl w2.heap.size Tryz.underlying26 zW rfl (by decide) _ 0 [] rfl on0 _ N.sn N.sc N.ss rfl (h.s.below (zc b02 vv)) (by omega) vv.size ?_;intro aooS cpoS wx2 oS hr0 hgr hbx;(try have oL:=zD oL on0 (by decide) hgr);(try have kX:=ze kX hgr (fun k hk=>zA on0 kX (by decide) k hk));have vv:=vv.trans hbx;(try simp only [Nat.zero_add,List.nil_append] at oS);(try simp only [Nat.zero_add]);clear on0 hr0 hgr hbx;refine kO hK (zd (za kP vv)) fun hHeld => ?_
     clear hK K;refine kK 8 ?_;refine kR 10 fun K hK => ?_
     obtain ⟨xx0,xx1,xx2⟩:=zd kX;have ff0:=zf kX 0;have ff1:=zf kX 1;have ff2:=zf kX 2;go_simp;refine zZ (K:=K _) kX _ _ _ (fun wq kQ hgq => ?_);have oL2:=zt oL hgq (zA oL kX (by decide));have oS2:=zt oS hgq (zA oS kX (by decide));have bv:=zc b02 vv;have bq:=bv.grown hgq bv.size (by intro i e; cases e; have:=HZ.out; omega);have vq:=vv.grown hgq vv.size (by intro i e; cases e; exact gX);have stN:NcSt w wq N _ ⟨none,0,0,[],_,N.ln,_,N.ls,_,N.sn,_,N.ss⟩:=⟨za kP vq,HZR.out▸za kJ vq,kQ,⟨zaT _ _,zH oL2 (Nat.le_of_eq HZ.out.symm),zH oS2 (Nat.le_of_eq HZ.out.symm)⟩,bq,by have:=HZ.out; omega⟩;refine kO hK (zd (za kP vq)) fun hHeld => ?_
     clear hK K;refine wpAnyH_done (by kernel_rfl) ?_ _;clear hHeld;(go_wp2_with fail)
     go_meet
     exact ⟨_,_,_,_,_,rfl,stN⟩
    exact AllReadyH.nil
   exact AllReadyH.nil
  refine kC (fun K hK => ?_) ?_
  ·go_simp
   first
   | refine zw (K:=K _) (fun wx kS hbx => ?_)
   | refine zo (K:=K _) (fun wx kS hbx => ?_)
   have gS:=vv.size;(try have kL:=za kL hbx);(try have kX:=za kX hbx);(try have oL:=zh oL hbx);have vv:=zc vv hbx;clear hbx;refine kO hK (zd (za kP vv)) fun hHeld => ?_
   clear hK K;refine tR [0,9] ?_;refine kC (fun K hK => ?_) ?_
   ·go_simp
    first
    | refine zw (K:=K _) (fun wx kL hbx => ?_)
    | refine zo (K:=K _) (fun wx kL hbx => ?_)
    have gL:=vv.size;(try have kS:=za kS hbx);(try have kX:=za kX hbx);(try have oS:=zh oS hbx);have vv:=zc vv hbx;clear hbx;refine kO hK (zd (za kP vv)) fun hHeld => ?_
    clear hK K;refine tR [3,9] ?_;refine kC (fun K hK => ?_) ?_
    ·have on0:=zQ linkF kL gL;refine zi (F:=linkF) rfl _ _ 25 66 rfl w2.heap.size Tryz.underlying25 zaQ rfl (by decide) _ 0 [] rfl on0 _ N.ln N.lc N.ls rfl (h.l.below (zc b02 vv)) (by omega) vv.size ?_;intro aooL cpoL wx2 oL hr0 hgr hbx;(try have oS:=zD oS on0 (by decide) hgr);(try have kS:=ze kS hgr (fun k hk=>zA on0 kS (by decide) k hk));(try have kX:=ze kX hgr (fun k hk=>zA on0 kX (by decide) k hk));have vv:=vv.trans hbx;(try simp only [Nat.zero_add,List.nil_append] at oL);(try simp only [Nat.zero_add]);clear on0 hr0 hgr hbx;refine kO hK (zd (za kP vv)) fun hHeld => ?_
     clear hK K;refine tR [7,9] ?_;refine kC (fun K hK => ?_) ?_
     ·have on0:=zQ sayF kS gS;refine zi (F:=sayF) rfl _ _ 26 99 rfl w2.heap.size Tryz.underlying26 zW rfl (by decide) _ 0 [] rfl on0 _ N.sn N.sc N.ss rfl (h.s.below (zc b02 vv)) (by omega) vv.size ?_;intro aooS cpoS wx2 oS hr0 hgr hbx;(try have oL:=zD oL on0 (by decide) hgr);(try have kX:=ze kX hgr (fun k hk=>zA on0 kX (by decide) k hk));have vv:=vv.trans hbx;(try simp only [Nat.zero_add,List.nil_append] at oS);(try simp only [Nat.zero_add]);clear on0 hr0 hgr hbx;refine kO hK (zd (za kP vv)) fun hHeld => ?_
      clear hK K;refine kK 8 ?_;refine kR 9 fun K hK => ?_
      go_simp
      first
      | refine zw (K:=K _) (fun wx kX hbx => ?_)
      | refine zo (K:=K _) (fun wx kX hbx => ?_)
      have gX:=vv.size;(try have kL:=za kL hbx);(try have kS:=za kS hbx);(try have oL:=zh oL hbx);(try have oS:=zh oS hbx);have vv:=zc vv hbx;clear hbx;refine kO hK (zd (za kP vv)) fun hHeld => ?_
      clear hK K;refine kR 10 fun K hK => ?_
      obtain ⟨xx0,xx1,xx2⟩:=zd kX;have ff0:=zf kX 0;have ff1:=zf kX 1;have ff2:=zf kX 2;go_simp;refine zZ (K:=K _) kX _ _ _ (fun wq kQ hgq => ?_);have oL2:=zt oL hgq (zA oL kX (by decide));have oS2:=zt oS hgq (zA oS kX (by decide));have bv:=zc b02 vv;have bq:=bv.grown hgq bv.size (by intro i e; cases e; have:=HZ.out; omega);have vq:=vv.grown hgq vv.size (by intro i e; cases e; exact gX);have stN:NcSt w wq N _ ⟨none,0,0,[],_,N.ln,_,N.ls,_,N.sn,_,N.ss⟩:=⟨za kP vq,HZR.out▸za kJ vq,kQ,⟨zaT _ _,zH oL2 (Nat.le_of_eq HZ.out.symm),zH oS2 (Nat.le_of_eq HZ.out.symm)⟩,bq,by have:=HZ.out; omega⟩;refine kO hK (zd (za kP vq)) fun hHeld => ?_
      clear hK K;refine wpAnyH_done (by kernel_rfl) ?_ _;clear hHeld;(go_wp2_with fail)
      go_meet
      exact ⟨_,_,_,_,_,rfl,stN⟩
     refine kC (fun K hK => ?_) ?_
     ·go_simp
      first
      | refine zw (K:=K _) (fun wx kX hbx => ?_)
      | refine zo (K:=K _) (fun wx kX hbx => ?_)
      have gX:=vv.size;(try have kL:=za kL hbx);(try have kS:=za kS hbx);(try have oL:=zh oL hbx);(try have oS:=zh oS hbx);have vv:=zc vv hbx;clear hbx;refine kO hK (zd (za kP vv)) fun hHeld => ?_
      clear hK K;refine kR 7 fun K hK => ?_
      have on0:=zQ sayF kS gS;refine zi (F:=sayF) rfl _ _ 26 99 rfl w2.heap.size Tryz.underlying26 zW rfl (by decide) _ 0 [] rfl on0 _ N.sn N.sc N.ss rfl (h.s.below (zc b02 vv)) (by omega) vv.size ?_;intro aooS cpoS wx2 oS hr0 hgr hbx;(try have oL:=zD oL on0 (by decide) hgr);(try have kX:=ze kX hgr (fun k hk=>zA on0 kX (by decide) k hk));have vv:=vv.trans hbx;(try simp only [Nat.zero_add,List.nil_append] at oS);(try simp only [Nat.zero_add]);clear on0 hr0 hgr hbx;refine kO hK (zd (za kP vv)) fun hHeld => ?_
      clear hK K;refine kK 8 ?_;refine kR 10 fun K hK => ?_
      obtain ⟨xx0,xx1,xx2⟩:=zd kX;have ff0:=zf kX 0;have ff1:=zf kX 1;have ff2:=zf kX 2;go_simp;refine zZ (K:=K _) kX _ _ _ (fun wq kQ hgq => ?_);have oL2:=zt oL hgq (zA oL kX (by decide));have oS2:=zt oS hgq (zA oS kX (by decide));have bv:=zc b02 vv;have bq:=bv.grown hgq bv.size (by intro i e; cases e; have:=HZ.out; omega);have vq:=vv.grown hgq vv.size (by intro i e; cases e; exact gX);have stN:NcSt w wq N _ ⟨none,0,0,[],_,N.ln,_,N.ls,_,N.sn,_,N.ss⟩:=⟨za kP vq,HZR.out▸za kJ vq,kQ,⟨zaT _ _,zH oL2 (Nat.le_of_eq HZ.out.symm),zH oS2 (Nat.le_of_eq HZ.out.symm)⟩,bq,by have:=HZ.out; omega⟩;refine kO hK (zd (za kP vq)) fun hHeld => ?_
      clear hK K;refine wpAnyH_done (by kernel_rfl) ?_ _;clear hHeld;(go_wp2_with fail)
      go_meet
      exact ⟨_,_,_,_,_,rfl,stN⟩
     exact AllReadyH.nil
    refine kC (fun K hK => ?_) ?_
    ·go_simp
     first
     | refine zw (K:=K _) (fun wx kX hbx => ?_)
     | refine zo (K:=K _) (fun wx kX hbx => ?_)
     have gX:=vv.size;(try have kL:=za kL hbx);(try have kS:=za kS hbx);(try have oL:=zh oL hbx);(try have oS:=zh oS hbx);have vv:=zc vv hbx;clear hbx;refine kO hK (zd (za kP vv)) fun hHeld => ?_
     clear hK K;refine kR 3 fun K hK => ?_
     have on0:=zQ linkF kL gL;refine zi (F:=linkF) rfl _ _ 25 66 rfl w2.heap.size Tryz.underlying25 zaQ rfl (by decide) _ 0 [] rfl on0 _ N.ln N.lc N.ls rfl (h.l.below (zc b02 vv)) (by omega) vv.size ?_;intro aooL cpoL wx2 oL hr0 hgr hbx;(try have oS:=zD oS on0 (by decide) hgr);(try have kS:=ze kS hgr (fun k hk=>zA on0 kS (by decide) k hk));(try have kX:=ze kX hgr (fun k hk=>zA on0 kX (by decide) k hk));have vv:=vv.trans hbx;(try simp only [Nat.zero_add,List.nil_append] at oL);(try simp only [Nat.zero_add]);clear on0 hr0 hgr hbx;refine kO hK (zd (za kP vv)) fun hHeld => ?_
     clear hK K;refine kR 7 fun K hK => ?_
     have on0:=zQ sayF kS gS;refine zi (F:=sayF) rfl _ _ 26 99 rfl w2.heap.size Tryz.underlying26 zW rfl (by decide) _ 0 [] rfl on0 _ N.sn N.sc N.ss rfl (h.s.below (zc b02 vv)) (by omega) vv.size ?_;intro aooS cpoS wx2 oS hr0 hgr hbx;(try have oL:=zD oL on0 (by decide) hgr);(try have kX:=ze kX hgr (fun k hk=>zA on0 kX (by decide) k hk));have vv:=vv.trans hbx;(try simp only [Nat.zero_add,List.nil_append] at oS);(try simp only [Nat.zero_add]);clear on0 hr0 hgr hbx;refine kO hK (zd (za kP vv)) fun hHeld => ?_
     clear hK K;refine kK 8 ?_;refine kR 10 fun K hK => ?_
     obtain ⟨xx0,xx1,xx2⟩:=zd kX;have ff0:=zf kX 0;have ff1:=zf kX 1;have ff2:=zf kX 2;go_simp;refine zZ (K:=K _) kX _ _ _ (fun wq kQ hgq => ?_);have oL2:=zt oL hgq (zA oL kX (by decide));have oS2:=zt oS hgq (zA oS kX (by decide));have bv:=zc b02 vv;have bq:=bv.grown hgq bv.size (by intro i e; cases e; have:=HZ.out; omega);have vq:=vv.grown hgq vv.size (by intro i e; cases e; exact gX);have stN:NcSt w wq N _ ⟨none,0,0,[],_,N.ln,_,N.ls,_,N.sn,_,N.ss⟩:=⟨za kP vq,HZR.out▸za kJ vq,kQ,⟨zaT _ _,zH oL2 (Nat.le_of_eq HZ.out.symm),zH oS2 (Nat.le_of_eq HZ.out.symm)⟩,bq,by have:=HZ.out; omega⟩;refine kO hK (zd (za kP vq)) fun hHeld => ?_
     clear hK K;refine wpAnyH_done (by kernel_rfl) ?_ _;clear hHeld;(go_wp2_with fail)
     go_meet
     exact ⟨_,_,_,_,_,rfl,stN⟩
    exact AllReadyH.nil
   refine kC (fun K hK => ?_) ?_
   ·go_simp
    first
    | refine zw (K:=K _) (fun wx kX hbx => ?_)
    | refine zo (K:=K _) (fun wx kX hbx => ?_)
    have gX:=vv.size;(try have kL:=za kL hbx);(try have kS:=za kS hbx);(try have oL:=zh oL hbx);(try have oS:=zh oS hbx);have vv:=zc vv hbx;clear hbx;refine kO hK (zd (za kP vv)) fun hHeld => ?_
    clear hK K;refine kR 0 fun K hK => ?_
    go_simp
    first
    | refine zw (K:=K _) (fun wx kL hbx => ?_)
    | refine zo (K:=K _) (fun wx kL hbx => ?_)
    have gL:=vv.size;(try have kS:=za kS hbx);(try have kX:=za kX hbx);(try have oS:=zh oS hbx);have vv:=zc vv hbx;clear hbx;refine kO hK (zd (za kP vv)) fun hHeld => ?_
    clear hK K;refine kR 3 fun K hK => ?_
    have on0:=zQ linkF kL gL;refine zi (F:=linkF) rfl _ _ 25 66 rfl w2.heap.size Tryz.underlying25 zaQ rfl (by decide) _ 0 [] rfl on0 _ N.ln N.lc N.ls rfl (h.l.below (zc b02 vv)) (by omega) vv.size ?_;intro aooL cpoL wx2 oL hr0 hgr hbx;(try have oS:=zD oS on0 (by decide) hgr);(try have kS:=ze kS hgr (fun k hk=>zA on0 kS (by decide) k hk));(try have kX:=ze kX hgr (fun k hk=>zA on0 kX (by decide) k hk));have vv:=vv.trans hbx;(try simp only [Nat.zero_add,List.nil_append] at oL);(try simp only [Nat.zero_add]);clear on0 hr0 hgr hbx;refine kO hK (zd (za kP vv)) fun hHeld => ?_
    clear hK K;refine kR 7 fun K hK => ?_
    have on0:=zQ sayF kS gS;refine zi (F:=sayF) rfl _ _ 26 99 rfl w2.heap.size Tryz.underlying26 zW rfl (by decide) _ 0 [] rfl on0 _ N.sn N.sc N.ss rfl (h.s.below (zc b02 vv)) (by omega) vv.size ?_;intro aooS cpoS wx2 oS hr0 hgr hbx;(try have oL:=zD oL on0 (by decide) hgr);(try have kX:=ze kX hgr (fun k hk=>zA on0 kX (by decide) k hk));have vv:=vv.trans hbx;(try simp only [Nat.zero_add,List.nil_append] at oS);(try simp only [Nat.zero_add]);clear on0 hr0 hgr hbx;refine kO hK (zd (za kP vv)) fun hHeld => ?_
    clear hK K;refine kK 8 ?_;refine kR 10 fun K hK => ?_
    obtain ⟨xx0,xx1,xx2⟩:=zd kX;have ff0:=zf kX 0;have ff1:=zf kX 1;have ff2:=zf kX 2;go_simp;refine zZ (K:=K _) kX _ _ _ (fun wq kQ hgq => ?_);have oL2:=zt oL hgq (zA oL kX (by decide));have oS2:=zt oS hgq (zA oS kX (by decide));have bv:=zc b02 vv;have bq:=bv.grown hgq bv.size (by intro i e; cases e; have:=HZ.out; omega);have vq:=vv.grown hgq vv.size (by intro i e; cases e; exact gX);have stN:NcSt w wq N _ ⟨none,0,0,[],_,N.ln,_,N.ls,_,N.sn,_,N.ss⟩:=⟨za kP vq,HZR.out▸za kJ vq,kQ,⟨zaT _ _,zH oL2 (Nat.le_of_eq HZ.out.symm),zH oS2 (Nat.le_of_eq HZ.out.symm)⟩,bq,by have:=HZ.out; omega⟩;refine kO hK (zd (za kP vq)) fun hHeld => ?_
    clear hK K;refine wpAnyH_done (by kernel_rfl) ?_ _;clear hHeld;(go_wp2_with fail)
    go_meet
    exact ⟨_,_,_,_,_,rfl,stN⟩
   exact AllReadyH.nil
  refine kC (fun K hK => ?_) ?_
  ·go_simp
   first
   | refine zw (K:=K _) (fun wx kX hbx => ?_)
   | refine zo (K:=K _) (fun wx kX hbx => ?_)
   have gX:=vv.size;(try have kL:=za kL hbx);(try have kS:=za kS hbx);(try have oL:=zh oL hbx);(try have oS:=zh oS hbx);have vv:=zc vv hbx;clear hbx;refine kO hK (zd (za kP vv)) fun hHeld => ?_
   clear hK K;refine tR [0,4] ?_;refine kC (fun K hK => ?_) ?_
   ·go_simp
    first
    | refine zw (K:=K _) (fun wx kL hbx => ?_)
    | refine zo (K:=K _) (fun wx kL hbx => ?_)
    have gL:=vv.size;(try have kS:=za kS hbx);(try have kX:=za kX hbx);(try have oS:=zh oS hbx);have vv:=zc vv hbx;clear hbx;refine kO hK (zd (za kP vv)) fun hHeld => ?_
    clear hK K;refine tR [3,4] ?_;refine kC (fun K hK => ?_) ?_
    ·have on0:=zQ linkF kL gL;refine zi (F:=linkF) rfl _ _ 25 66 rfl w2.heap.size Tryz.underlying25 zaQ rfl (by decide) _ 0 [] rfl on0 _ N.ln N.lc N.ls rfl (h.l.below (zc b02 vv)) (by omega) vv.size ?_;intro aooL cpoL wx2 oL hr0 hgr hbx;(try have oS:=zD oS on0 (by decide) hgr);(try have kS:=ze kS hgr (fun k hk=>zA on0 kS (by decide) k hk));(try have kX:=ze kX hgr (fun k hk=>zA on0 kX (by decide) k hk));have vv:=vv.trans hbx;(try simp only [Nat.zero_add,List.nil_append] at oL);(try simp only [Nat.zero_add]);clear on0 hr0 hgr hbx;refine kO hK (zd (za kP vv)) fun hHeld => ?_
     clear hK K;refine kR 4 fun K hK => ?_
     go_simp
     first
     | refine zw (K:=K _) (fun wx kS hbx => ?_)
     | refine zo (K:=K _) (fun wx kS hbx => ?_)
     have gS:=vv.size;(try have kL:=za kL hbx);(try have kX:=za kX hbx);(try have oL:=zh oL hbx);have vv:=zc vv hbx;clear hbx;refine kO hK (zd (za kP vv)) fun hHeld => ?_
     clear hK K;refine kR 7 fun K hK => ?_
     have on0:=zQ sayF kS gS;refine zi (F:=sayF) rfl _ _ 26 99 rfl w2.heap.size Tryz.underlying26 zW rfl (by decide) _ 0 [] rfl on0 _ N.sn N.sc N.ss rfl (h.s.below (zc b02 vv)) (by omega) vv.size ?_;intro aooS cpoS wx2 oS hr0 hgr hbx;(try have oL:=zD oL on0 (by decide) hgr);(try have kX:=ze kX hgr (fun k hk=>zA on0 kX (by decide) k hk));have vv:=vv.trans hbx;(try simp only [Nat.zero_add,List.nil_append] at oS);(try simp only [Nat.zero_add]);clear on0 hr0 hgr hbx;refine kO hK (zd (za kP vv)) fun hHeld => ?_
     clear hK K;refine kK 8 ?_;refine kR 10 fun K hK => ?_
     obtain ⟨xx0,xx1,xx2⟩:=zd kX;have ff0:=zf kX 0;have ff1:=zf kX 1;have ff2:=zf kX 2;go_simp;refine zZ (K:=K _) kX _ _ _ (fun wq kQ hgq => ?_);have oL2:=zt oL hgq (zA oL kX (by decide));have oS2:=zt oS hgq (zA oS kX (by decide));have bv:=zc b02 vv;have bq:=bv.grown hgq bv.size (by intro i e; cases e; have:=HZ.out; omega);have vq:=vv.grown hgq vv.size (by intro i e; cases e; exact gX);have stN:NcSt w wq N _ ⟨none,0,0,[],_,N.ln,_,N.ls,_,N.sn,_,N.ss⟩:=⟨za kP vq,HZR.out▸za kJ vq,kQ,⟨zaT _ _,zH oL2 (Nat.le_of_eq HZ.out.symm),zH oS2 (Nat.le_of_eq HZ.out.symm)⟩,bq,by have:=HZ.out; omega⟩;refine kO hK (zd (za kP vq)) fun hHeld => ?_
     clear hK K;refine wpAnyH_done (by kernel_rfl) ?_ _;clear hHeld;(go_wp2_with fail)
     go_meet
     exact ⟨_,_,_,_,_,rfl,stN⟩
    refine kC (fun K hK => ?_) ?_
    ·go_simp
     first
     | refine zw (K:=K _) (fun wx kS hbx => ?_)
     | refine zo (K:=K _) (fun wx kS hbx => ?_)
     have gS:=vv.size;(try have kL:=za kL hbx);(try have kX:=za kX hbx);(try have oL:=zh oL hbx);have vv:=zc vv hbx;clear hbx;refine kO hK (zd (za kP vv)) fun hHeld => ?_
     clear hK K;refine kR 3 fun K hK => ?_
     have on0:=zQ linkF kL gL;refine zi (F:=linkF) rfl _ _ 25 66 rfl w2.heap.size Tryz.underlying25 zaQ rfl (by decide) _ 0 [] rfl on0 _ N.ln N.lc N.ls rfl (h.l.below (zc b02 vv)) (by omega) vv.size ?_;intro aooL cpoL wx2 oL hr0 hgr hbx;(try have oS:=zD oS on0 (by decide) hgr);(try have kS:=ze kS hgr (fun k hk=>zA on0 kS (by decide) k hk));(try have kX:=ze kX hgr (fun k hk=>zA on0 kX (by decide) k hk));have vv:=vv.trans hbx;(try simp only [Nat.zero_add,List.nil_append] at oL);(try simp only [Nat.zero_add]);clear on0 hr0 hgr hbx;refine kO hK (zd (za kP vv)) fun hHeld => ?_
     clear hK K;refine kR 7 fun K hK => ?_
     have on0:=zQ sayF kS gS;refine zi (F:=sayF) rfl _ _ 26 99 rfl w2.heap.size Tryz.underlying26 zW rfl (by decide) _ 0 [] rfl on0 _ N.sn N.sc N.ss rfl (h.s.below (zc b02 vv)) (by omega) vv.size ?_;intro aooS cpoS wx2 oS hr0 hgr hbx;(try have oL:=zD oL on0 (by decide) hgr);(try have kX:=ze kX hgr (fun k hk=>zA on0 kX (by decide) k hk));have vv:=vv.trans hbx;(try simp only [Nat.zero_add,List.nil_append] at oS);(try simp only [Nat.zero_add]);clear on0 hr0 hgr hbx;refine kO hK (zd (za kP vv)) fun hHeld => ?_
     clear hK K;refine kK 8 ?_;refine kR 10 fun K hK => ?_
     obtain ⟨xx0,xx1,xx2⟩:=zd kX;have ff0:=zf kX 0;have ff1:=zf kX 1;have ff2:=zf kX 2;go_simp;refine zZ (K:=K _) kX _ _ _ (fun wq kQ hgq => ?_);have oL2:=zt oL hgq (zA oL kX (by decide));have oS2:=zt oS hgq (zA oS kX (by decide));have bv:=zc b02 vv;have bq:=bv.grown hgq bv.size (by intro i e; cases e; have:=HZ.out; omega);have vq:=vv.grown hgq vv.size (by intro i e; cases e; exact gX);have stN:NcSt w wq N _ ⟨none,0,0,[],_,N.ln,_,N.ls,_,N.sn,_,N.ss⟩:=⟨za kP vq,HZR.out▸za kJ vq,kQ,⟨zaT _ _,zH oL2 (Nat.le_of_eq HZ.out.symm),zH oS2 (Nat.le_of_eq HZ.out.symm)⟩,bq,by have:=HZ.out; omega⟩;refine kO hK (zd (za kP vq)) fun hHeld => ?_
     clear hK K;refine wpAnyH_done (by kernel_rfl) ?_ _;clear hHeld;(go_wp2_with fail)
     go_meet
     exact ⟨_,_,_,_,_,rfl,stN⟩
    exact AllReadyH.nil
   refine kC (fun K hK => ?_) ?_
   ·go_simp
    first
    | refine zw (K:=K _) (fun wx kS hbx => ?_)
    | refine zo (K:=K _) (fun wx kS hbx => ?_)
    have gS:=vv.size;(try have kL:=za kL hbx);(try have kX:=za kX hbx);(try have oL:=zh oL hbx);have vv:=zc vv hbx;clear hbx;refine kO hK (zd (za kP vv)) fun hHeld => ?_
    clear hK K;refine kR 0 fun K hK => ?_
    go_simp
    first
    | refine zw (K:=K _) (fun wx kL hbx => ?_)
    | refine zo (K:=K _) (fun wx kL hbx => ?_)
    have gL:=vv.size;(try have kS:=za kS hbx);(try have kX:=za kX hbx);(try have oS:=zh oS hbx);have vv:=zc vv hbx;clear hbx;refine kO hK (zd (za kP vv)) fun hHeld => ?_
    clear hK K;refine kR 3 fun K hK => ?_
    have on0:=zQ linkF kL gL;refine zi (F:=linkF) rfl _ _ 25 66 rfl w2.heap.size Tryz.underlying25 zaQ rfl (by decide) _ 0 [] rfl on0 _ N.ln N.lc N.ls rfl (h.l.below (zc b02 vv)) (by omega) vv.size ?_;intro aooL cpoL wx2 oL hr0 hgr hbx;(try have oS:=zD oS on0 (by decide) hgr);(try have kS:=ze kS hgr (fun k hk=>zA on0 kS (by decide) k hk));(try have kX:=ze kX hgr (fun k hk=>zA on0 kX (by decide) k hk));have vv:=vv.trans hbx;(try simp only [Nat.zero_add,List.nil_append] at oL);(try simp only [Nat.zero_add]);clear on0 hr0 hgr hbx;refine kO hK (zd (za kP vv)) fun hHeld => ?_
    clear hK K;refine kR 7 fun K hK => ?_
    have on0:=zQ sayF kS gS;refine zi (F:=sayF) rfl _ _ 26 99 rfl w2.heap.size Tryz.underlying26 zW rfl (by decide) _ 0 [] rfl on0 _ N.sn N.sc N.ss rfl (h.s.below (zc b02 vv)) (by omega) vv.size ?_;intro aooS cpoS wx2 oS hr0 hgr hbx;(try have oL:=zD oL on0 (by decide) hgr);(try have kX:=ze kX hgr (fun k hk=>zA on0 kX (by decide) k hk));have vv:=vv.trans hbx;(try simp only [Nat.zero_add,List.nil_append] at oS);(try simp only [Nat.zero_add]);clear on0 hr0 hgr hbx;refine kO hK (zd (za kP vv)) fun hHeld => ?_
    clear hK K;refine kK 8 ?_;refine kR 10 fun K hK => ?_
    obtain ⟨xx0,xx1,xx2⟩:=zd kX;have ff0:=zf kX 0;have ff1:=zf kX 1;have ff2:=zf kX 2;go_simp;refine zZ (K:=K _) kX _ _ _ (fun wq kQ hgq => ?_);have oL2:=zt oL hgq (zA oL kX (by decide));have oS2:=zt oS hgq (zA oS kX (by decide));have bv:=zc b02 vv;have bq:=bv.grown hgq bv.size (by intro i e; cases e; have:=HZ.out; omega);have vq:=vv.grown hgq vv.size (by intro i e; cases e; exact gX);have stN:NcSt w wq N _ ⟨none,0,0,[],_,N.ln,_,N.ls,_,N.sn,_,N.ss⟩:=⟨za kP vq,HZR.out▸za kJ vq,kQ,⟨zaT _ _,zH oL2 (Nat.le_of_eq HZ.out.symm),zH oS2 (Nat.le_of_eq HZ.out.symm)⟩,bq,by have:=HZ.out; omega⟩;refine kO hK (zd (za kP vq)) fun hHeld => ?_
    clear hK K;refine wpAnyH_done (by kernel_rfl) ?_ _;clear hHeld;(go_wp2_with fail)
    go_meet
    exact ⟨_,_,_,_,_,rfl,stN⟩
   exact AllReadyH.nil
  exact AllReadyH.nil
 case rest =>
  obtain ⟨X,la,lc,sa,sc,rfl,st0⟩:=hcut;obtain ⟨w4,hw4⟩:∃y,y=wc:=⟨_,rfl⟩;subst hw4;have HRR:=HZR;generalize hR:w1.heap.size=R at *;clear hw1 hw2 b01 b12 b02 kP kJ HZ hR;(go_wp2_with fail)
  go_loopw [4] (fun i wr=>∃(k:Nat) (M:NV),k≤N.bn∧i=.int .i64 k∧NcSt w wr N X M∧M.bn=k∧M.bs.map BV.B=(N.bs.take k).map BV.B∧(M.ls=N.ls∧M.ss=N.ss)) (fun i _=>N.bn - (intOf i).toNat)
  case atStart=>exact ⟨0,_,Nat.zero_le _,rfl,st0,rfl,by simp,rfl,rfl⟩
  case round =>
   clear st0;obtain ⟨k,M,hk,rfl,st,hMn,hM,hLS⟩:=hrel;have HKP:Hid (∀{W W':World} {M:NV},NcSt w wr N X M→Below wr.heap.size wr W→W.grownBy W' (Value.slice M.ba M.bn M.bc).ownBlock→W'.heap[w.heap.size]? = some (.cells #[.slice N.ba N.bn N.bc,.slice N.la N.ln N.lc,.slice N.sa N.sn N.sc] 28)):=hide (fun st hb hg=>ze (za st.src hb) hg (fun k hk=>zA (st.own.b.below hb).row (za st.src hb) (by decide) k hk));have HMN:=hide hMn;have HM:=hide hM;have HLS:=hide hLS;obtain ⟨q0,q1,q2⟩:=zd st.src;clear hM hLS;by_cases hlt:k < N.bn
   ·obtain ⟨x,bb,off,hxx,hba,-⟩:=br_at h.b k hlt;have hx:=h.item x (List.mem_of_getElem? hxx);have hsm:=hm x (List.mem_of_getElem? hxx);have HG:Hid (GRow brF w (some ⟨bb,off,none⟩) N.bn N.bc N.bs):=hide (by rw [← hba]; exact h.b);have HBA:=hide hba;have HX:=hide hxx;have i1:(0:Int)≤(k:Int):=by omega
    have i2:(k:Int) < (N.bn:Int):=by omega
    have hMk:M.bn≤16777216:=by omega
    have vv:Below wr.heap.size wr wr.drew:=zq (Below.refl _ _);have uu:Below w.heap.size w wr.drew:=zc st.below vv;have kP:=za st.src vv;have x0:=(zd (za st.box vv)).1;clear hxx hba hMn;(go_wp2_with fail);refine wp_region_held_drew (S:=(fun W=>(zcc W w.heap.size 0 (.slice (some ⟨bb,off,none⟩) N.bn N.bc)∧zcc W w.heap.size 1 (.slice N.la N.ln N.lc)∧zcc W w.heap.size 2 (.slice N.sa N.sn N.sc))∧(zcc W bb (off+k*11) (.int .i64 x.B.id)∧zcc W bb (off+k*11+1) (.string x.B.name)∧zcc W bb (off+k*11+2) (.slice x.a x.n x.c)∧zcc W bb (off+k*11+3) (.slice x.fa x.fn x.fc)∧zcc W bb (off+k*11+4) (.slice x.ra x.rn x.rc)∧zcc W bb (off+k*11+5) (.slice x.oa x.on x.oc)∧zcc W bb (off+k*11+6) (.int .i64 x.B.ticks)∧zcc W bb (off+k*11+7) (.int .i64 x.B.parse)∧zcc W bb (off+k*11+8) (.int .i64 x.B.word)∧zcc W bb (off+k*11+9) (.int .i64 x.B.drops)∧zcc W bb (off+k*11+10) (.int .i64 x.B.vers)))) (by kernel_rfl) (⟨by have:=zd kP; rw [HBA.out] at this; exact this,zF HG.out uu HX.out⟩) (fun hHeld => ?_);refine kK 0 ?_;refine kK 2 ?_;refine kK 3 ?_;refine kK 4 ?_;refine kK 5 ?_;refine kK 6 ?_;refine tR [1,7] ?_;refine kC (fun K hK => ?_) ?_
    ·go_simp;refine kO hK (⟨by have:=zd kP; rw [HBA.out] at this; exact this,zF HG.out uu HX.out⟩) fun hHeld => ?_
     clear hK K;refine kR 7 fun K hK => ?_
     go_simp;refine (zbb x.a x.n x.c x.fa x.fn x.fc x.ra x.rn x.rc x.oa x.on x.oc x.B _ (hx.below (zc st.below vv)) (by omega) (by omega) (by omega) (by omega)).mono ?_;rintro e wz ⟨a2,c2,fa2,fc2,ra2,rc2,oa2,oc2,rfl,ow2,hbz⟩;have ow2:=BrOwn.lt ow2 (base':=wr.heap.size) vv.size;have vv:=zc vv hbz;have uu:=zc st.below vv;have kP:=za st.src vv;have x0:=(zd (za st.box vv)).1;(go_wp2_with fail);refine kO hK (⟨by have:=zd kP; rw [HBA.out] at this; exact this,zF HG.out uu HX.out⟩) fun hHeld => ?_
     clear hK K;refine kR 8 fun K hK => ?_
     go_simp
     first
     | refine zw (K:=K _) (fun wx kY hbx => ?_)
     | refine zo (K:=K _) (fun wx kY hbx => ?_)
     have ow2:=BrOwn.below ow2 hbx;have vv:=zc vv hbx;have uu:=zc st.below vv;have kP:=za st.src vv;have x0:=(zd (za st.box vv)).1;clear hbx;refine kO hK (⟨by have:=zd kP; rw [HBA.out] at this; exact this,zF HG.out uu HX.out⟩) fun hHeld => ?_
     clear hK K;refine kR 9 fun K hK => ?_
     have gn1:GRow brF wx (some ⟨_,0,none⟩) 1 1 [(⟨a2,x.n,c2,fa2,x.fn,fc2,ra2,x.rn,rc2,oa2,x.on,oc2,x.B⟩:BV)]:=zC (F:=brF) (zaV brF (base:=0) (l:=[(⟨a2,x.n,c2,fa2,x.fn,fc2,ra2,x.rn,rc2,oa2,x.on,oc2,x.B⟩:BV)]) kY rfl (Nat.zero_le _) (by simp));have hoN:=st.own.b.below vv;refine zi (F:=brF) rfl _ _ 24 44 rfl (w.heap.size+2) Tryz.underlying24 zds rfl (by decide) _ M.bn M.bs rfl hoN.row _ 1 1 _ rfl gn1 (by omega) (Nat.le_trans st.size vv.size) ?_;intro aL cL wL how _ hgr hbL;obtain ⟨kX,uu,stN⟩:=st.push (y:=(⟨a2,x.n,c2,fa2,x.fn,fc2,ra2,x.rn,rc2,oa2,x.on,oc2,x.B⟩:BV)) vv ow2 hgr how;have kP:wL.heap[w.heap.size]? = some (.cells #[.slice N.ba N.bn N.bc,.slice N.la N.ln N.lc,.slice N.sa N.sn N.sc] 28):=HKP.out st vv hgr;have x0:=(zd kX).1;have fz:=zf kX 0;refine kO hK (⟨by have:=zd kP; rw [HBA.out] at this; exact this,zF HG.out uu HX.out⟩) fun hHeld => ?_
     clear hK K;refine kK 10 ?_;refine kR 11 fun K hK => ?_
     go_simp;have uu:=stN.below;have kP:=stN.src;refine kO hK (⟨by have:=zd kP; rw [HBA.out] at this; exact this,zF HG.out uu HX.out⟩) fun hHeld => ?_
     clear hK K;refine wpAnyH_done (by kernel_rfl) ?_ _;have HST:=hide stN;clear hHeld how hgr hbL hoN kX uu x0 fz kY gn1 ow2 vv kP;go_wp2
     go_roundw
     case rel=>exact ⟨k+1,_,by omega,by go_num,HST.out,by show M.bn+1=k+1; rw [HMN.out],by rw [List.map_append,HM.out,List.take_add_one,HX.out,List.map_append]; rfl,HLS.out⟩
     case measure=>simp [intOf]; omega
    refine kC (fun K hK => ?_) ?_
    ·go_simp;refine (zbb x.a x.n x.c x.fa x.fn x.fc x.ra x.rn x.rc x.oa x.on x.oc x.B _ (hx.below (zc st.below vv)) (by omega) (by omega) (by omega) (by omega)).mono ?_;rintro e wz ⟨a2,c2,fa2,fc2,ra2,rc2,oa2,oc2,rfl,ow2,hbz⟩;have ow2:=BrOwn.lt ow2 (base':=wr.heap.size) vv.size;have vv:=zc vv hbz;have uu:=zc st.below vv;have kP:=za st.src vv;have x0:=(zd (za st.box vv)).1;(go_wp2_with fail);refine kO hK (⟨by have:=zd kP; rw [HBA.out] at this; exact this,zF HG.out uu HX.out⟩) fun hHeld => ?_
     clear hK K;refine tR [1,8] ?_;refine kC (fun K hK => ?_) ?_
     ·go_simp;refine kO hK (⟨by have:=zd kP; rw [HBA.out] at this; exact this,zF HG.out uu HX.out⟩) fun hHeld => ?_
      clear hK K;refine kR 8 fun K hK => ?_
      go_simp
      first
      | refine zw (K:=K _) (fun wx kY hbx => ?_)
      | refine zo (K:=K _) (fun wx kY hbx => ?_)
      have ow2:=BrOwn.below ow2 hbx;have vv:=zc vv hbx;have uu:=zc st.below vv;have kP:=za st.src vv;have x0:=(zd (za st.box vv)).1;clear hbx;refine kO hK (⟨by have:=zd kP; rw [HBA.out] at this; exact this,zF HG.out uu HX.out⟩) fun hHeld => ?_
      clear hK K;refine kR 9 fun K hK => ?_
      have gn1:GRow brF wx (some ⟨_,0,none⟩) 1 1 [(⟨a2,x.n,c2,fa2,x.fn,fc2,ra2,x.rn,rc2,oa2,x.on,oc2,x.B⟩:BV)]:=zC (F:=brF) (zaV brF (base:=0) (l:=[(⟨a2,x.n,c2,fa2,x.fn,fc2,ra2,x.rn,rc2,oa2,x.on,oc2,x.B⟩:BV)]) kY rfl (Nat.zero_le _) (by simp));have hoN:=st.own.b.below vv;refine zi (F:=brF) rfl _ _ 24 44 rfl (w.heap.size+2) Tryz.underlying24 zds rfl (by decide) _ M.bn M.bs rfl hoN.row _ 1 1 _ rfl gn1 (by omega) (Nat.le_trans st.size vv.size) ?_;intro aL cL wL how _ hgr hbL;obtain ⟨kX,uu,stN⟩:=st.push (y:=(⟨a2,x.n,c2,fa2,x.fn,fc2,ra2,x.rn,rc2,oa2,x.on,oc2,x.B⟩:BV)) vv ow2 hgr how;have kP:wL.heap[w.heap.size]? = some (.cells #[.slice N.ba N.bn N.bc,.slice N.la N.ln N.lc,.slice N.sa N.sn N.sc] 28):=HKP.out st vv hgr;have x0:=(zd kX).1;have fz:=zf kX 0;refine kO hK (⟨by have:=zd kP; rw [HBA.out] at this; exact this,zF HG.out uu HX.out⟩) fun hHeld => ?_
      clear hK K;refine kK 10 ?_;refine kR 11 fun K hK => ?_
      go_simp;have uu:=stN.below;have kP:=stN.src;refine kO hK (⟨by have:=zd kP; rw [HBA.out] at this; exact this,zF HG.out uu HX.out⟩) fun hHeld => ?_
      clear hK K;refine wpAnyH_done (by kernel_rfl) ?_ _;have HST:=hide stN;clear hHeld how hgr hbL hoN kX uu x0 fz kY gn1 ow2 vv kP;go_wp2
      go_roundw
      case rel=>exact ⟨k+1,_,by omega,by go_num,HST.out,by show M.bn+1=k+1; rw [HMN.out],by rw [List.map_append,HM.out,List.take_add_one,HX.out,List.map_append]; rfl,HLS.out⟩
      case measure=>simp [intOf]; omega
     refine kC (fun K hK => ?_) ?_
     ·go_simp
      first
      | refine zw (K:=K _) (fun wx kY hbx => ?_)
      | refine zo (K:=K _) (fun wx kY hbx => ?_)
      have ow2:=BrOwn.below ow2 hbx;have vv:=zc vv hbx;have uu:=zc st.below vv;have kP:=za st.src vv;have x0:=(zd (za st.box vv)).1;clear hbx;refine kO hK (⟨by have:=zd kP; rw [HBA.out] at this; exact this,zF HG.out uu HX.out⟩) fun hHeld => ?_
      clear hK K;refine kR 1 fun K hK => ?_
      go_simp;refine kO hK (⟨by have:=zd kP; rw [HBA.out] at this; exact this,zF HG.out uu HX.out⟩) fun hHeld => ?_
      clear hK K;refine kR 9 fun K hK => ?_
      have gn1:GRow brF wx (some ⟨_,0,none⟩) 1 1 [(⟨a2,x.n,c2,fa2,x.fn,fc2,ra2,x.rn,rc2,oa2,x.on,oc2,x.B⟩:BV)]:=zC (F:=brF) (zaV brF (base:=0) (l:=[(⟨a2,x.n,c2,fa2,x.fn,fc2,ra2,x.rn,rc2,oa2,x.on,oc2,x.B⟩:BV)]) kY rfl (Nat.zero_le _) (by simp));have hoN:=st.own.b.below vv;refine zi (F:=brF) rfl _ _ 24 44 rfl (w.heap.size+2) Tryz.underlying24 zds rfl (by decide) _ M.bn M.bs rfl hoN.row _ 1 1 _ rfl gn1 (by omega) (Nat.le_trans st.size vv.size) ?_;intro aL cL wL how _ hgr hbL;obtain ⟨kX,uu,stN⟩:=st.push (y:=(⟨a2,x.n,c2,fa2,x.fn,fc2,ra2,x.rn,rc2,oa2,x.on,oc2,x.B⟩:BV)) vv ow2 hgr how;have kP:wL.heap[w.heap.size]? = some (.cells #[.slice N.ba N.bn N.bc,.slice N.la N.ln N.lc,.slice N.sa N.sn N.sc] 28):=HKP.out st vv hgr;have x0:=(zd kX).1;have fz:=zf kX 0;refine kO hK (⟨by have:=zd kP; rw [HBA.out] at this; exact this,zF HG.out uu HX.out⟩) fun hHeld => ?_
      clear hK K;refine kK 10 ?_;refine kR 11 fun K hK => ?_
      go_simp;have uu:=stN.below;have kP:=stN.src;refine kO hK (⟨by have:=zd kP; rw [HBA.out] at this; exact this,zF HG.out uu HX.out⟩) fun hHeld => ?_
      clear hK K;refine wpAnyH_done (by kernel_rfl) ?_ _;have HST:=hide stN;clear hHeld how hgr hbL hoN kX uu x0 fz kY gn1 ow2 vv kP;go_wp2
      go_roundw
      case rel=>exact ⟨k+1,_,by omega,by go_num,HST.out,by show M.bn+1=k+1; rw [HMN.out],by rw [List.map_append,HM.out,List.take_add_one,HX.out,List.map_append]; rfl,HLS.out⟩
      case measure=>simp [intOf]; omega
     exact AllReadyH.nil
    exact AllReadyH.nil
   ·have hkn:k=N.bn:=by omega
    have hlen:N.bs.length=N.bn:=h.b.size;have HM2:Hid (M.bs.map BV.B=N.bs.map BV.B):=hide (by rw [HM.out,List.take_of_length_le (by omega)]);obtain ⟨r0,r1,r2⟩:=zd st.res;obtain ⟨x0,x1,x2⟩:=zd st.box;have f0:=zf st.res 0;have f1:=zf st.res 1;have f2:=zf st.res 2;have ne1:¬w.heap.size+1=X:=by have:=st.lt; omega
    have ne2:¬X=w.heap.size+1:=by have:=st.lt; omega
    have HO:=hide ((st.own.boxed st.res (zI (zI (zj (rb:=w.heap.size+1) 0 (.slice M.ba M.bn M.bc)) (zj 1 (.slice M.la M.ln M.lc))) (zj 2 (.slice M.sa M.sn M.sc)))).lt (base':=w.heap.size) (by omega));have HB:=hide (zr (zr (zr st.below (g:=w.heap.size+1) (by omega) 0 (.slice M.ba M.bn M.bc)) (g:=w.heap.size+1) (by omega) 1 (.slice M.la M.ln M.lc)) (g:=w.heap.size+1) (by omega) 2 (.slice M.sa M.sn M.sc));have hRv:=HRR.out;subst hRv;clear st hMn;go_wp2;exact bodyPost_ret (v:=.agg #[.slice M.ba M.bn M.bc,.slice M.la M.ln M.lc,.slice M.sa M.sn M.sc]) (by simp [results,Tryz.results75,go_sem, *]) rfl ⟨M,rfl,HO.out,⟨HM2.out,HLS.out.1,HLS.out.2⟩,HB.out⟩

end Go.Proofs.YtkaefmfopejbaaaGreat
