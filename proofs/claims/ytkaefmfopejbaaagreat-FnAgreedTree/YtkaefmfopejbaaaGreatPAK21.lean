/-
  Packed: DrawNt2 BrNewI NetNewM DrawNt4.
-/
import Derived.Test.YtkaefmfopejbaaaGreatPAK06
import Derived.Test.YtkaefmfopejbaaaGreatPAK18
import Derived.Deep.Cut
import Derived.Deep.CutBlock
namespace Go.Proofs.YtkaefmfopejbaaaGreat
set_option maxRecDepth 100000
set_option maxHeartbeats 16000000
open Go.RowKit

theorem zc5 (C:Nat) (a0:Option Addr) (l0 c0:Nat) (z0:List Int) (N:NV) (w:World) (hc:Cur w C a0 l0 c0 z0) (hbn:N.bn≤1048576) (hln:N.ln≤1048576) (hsn:N.sn≤1048576) :
  Calls Tryz.prog 43 #[.pointer (some ⟨C,0,none⟩),.agg #[.slice N.ba N.bn N.bc,.slice N.la N.ln N.lc,.slice N.sa N.sn N.sc]] w fun e w'=>∃kd i:Int,e=.returned (.agg #[.int .i64 kd,.int .i64 i])∧Went w w' C a0 l0 c0 z0:=by
 have hlt:=hc.lt;have HBB:=hide hbn;have HLL:=hide hln;have HSN:=hide hsn;generalize hw1:w.alloc (Obj.cells #[.slice N.ba N.bn N.bc,.slice N.la N.ln N.lc,.slice N.sa N.sn N.sc] 28)=w1;generalize hw2:w1.alloc (Obj.cells #[.int .i64 0,.int .i64 0] 94)=wc;have b01:=zb hw1;have b12:=zb hw2;have wn:=Went.start hc (zc b01 b12);have HZ:Hid (w1.heap.size=w.heap.size+1):=hide (by rw [← hw1]; simp);have HX:Hid (w.heap.size≤w1.heap.size):=hide b01.size;have HCN:Hid (C≠w.heap.size):=hide (by omega);have HCE:Hid (C≠w1.heap.size):=hide (by have:=HZ.out; omega);have HNE:Hid (w1.heap.size≠w.heap.size):=hide (by have:=HZ.out; omega);have kN:=za (zk hw1) b12;have kE:=zk hw2;obtain ⟨x0,x1,x2⟩:=zd kN;obtain ⟨t0,t1⟩:=zm kE;have f0:=zf kE 0;have f1:=zf kE 1;clear b01 b12;by_cases hs0:0 < (N.sn:Int)
 ·go_enter Tryz.func43,Tryz.ntmps43;(go_wp2_with fail);clear hw1 hw2;refine (zjq C a0 l0 c0 z0 2 _ wn.cur (by omega)).mono ?_;rintro e wz ⟨q,rfl,wt⟩;have kN:=ze kN wt.grown (fun j e=>by cases e; exact HCN.out);have kE:=ze kE wt.grown (fun j e=>by cases e; exact HCE.out);have wn:=wn.trans wt;clear wt x0 x1 x2 t0 t1 f0 f1;generalize wz=wc at *;obtain ⟨x0,x1,x2⟩:=zd kN;obtain ⟨t0,t1⟩:=zm kE;have f0:=zf kE 0;have f1:=zf kE 1;cases q
  ·(go_wp2_with fail);generalize hwa:wc.alloc (Obj.cells #[.int .i64 1,.int .i64 1,.int .i64 1,.int .i64 1,.int .i64 4,.int .i64 5,.int .i64 6] 3)=wa;have ba:=zb hwa;have ka:=zk hwa;have hCa:C < wc.heap.size:=wn.cur.lt;have kN:=za kN ba;have kE:=za kE ba;have wn:=wn.made ba;(go_wp2_with fail);refine (zef C a0 l0 c0 z0 [1,1,1,1,4,5,6] _ _ _ wn.cur hCa ka rfl (by simp) (by simp)).mono ?_;rintro e wz ⟨kd,-,rfl,wt⟩;have kN:=ze kN wt.grown (fun j e=>by cases e; exact HCN.out);have kE:=ze kE wt.grown (fun j e=>by cases e; exact HCE.out);have wn:=wn.trans wt;clear wt x0 x1 x2 t0 t1 f0 f1;generalize wz=wc at *;obtain ⟨x0,x1,x2⟩:=zd kN;obtain ⟨t0,t1⟩:=zm kE;have f0:=zf kE 0;have f1:=zf kE 1;clear ka hwa ba hCa;by_cases h45:kd=4∨kd=5
   ·have hcut:True:=trivial;by_cases hl0:N.ln=0
    ·have hl0':((N.ln:Int) == 0)=true:=by simp [hl0]
     rcases h45 with rfl | rfl
     ·have kQ:((wc.setCell ⟨w1.heap.size,0,none⟩ (.int .i64 6)).setCell ⟨w1.heap.size,1,none⟩ (.int .i64 0)).heap[w1.heap.size]? = some (.cells #[.int .i64 6,.int .i64 0] 94):=zN (K:=fun V=>V.heap[w1.heap.size]? = some (.cells #[.int .i64 6,.int .i64 0] 94)) kE _ _ (fun _ k _=>k);have gQ:wc.grownBy ((wc.setCell ⟨w1.heap.size,0,none⟩ (.int .i64 6)).setCell ⟨w1.heap.size,1,none⟩ (.int .i64 0)) (some w1.heap.size):=zN (K:=fun V=>wc.grownBy V (some w1.heap.size)) kE _ _ (fun _ _ k=>k);have HW:=hide (wn.madeAt ((Below.refl w.heap.size _).grown gQ wn.grown.size (fun k e=>by cases e; exact HX.out)) hlt (Nat.le_refl _));have r0:(wc.setCell ⟨w1.heap.size,0,none⟩ (.int .i64 6)).cell? ⟨w1.heap.size,0,none⟩=some (.int .i64 6):=World.cell?_setCell_same' _ _ _ (by rw [t0]; rfl);have r1:=(zm kQ).2;clear kQ gQ;go_wp2;exact bodyPost_ret (v:=.agg #[.int .i64 6,.int .i64 0]) (by simp [results,Tryz.results43,go_sem, *]) rfl ⟨_,_,rfl,HW.out⟩
     ·have kQ:((wc.setCell ⟨w1.heap.size,0,none⟩ (.int .i64 6)).setCell ⟨w1.heap.size,1,none⟩ (.int .i64 0)).heap[w1.heap.size]? = some (.cells #[.int .i64 6,.int .i64 0] 94):=zN (K:=fun V=>V.heap[w1.heap.size]? = some (.cells #[.int .i64 6,.int .i64 0] 94)) kE _ _ (fun _ k _=>k);have gQ:wc.grownBy ((wc.setCell ⟨w1.heap.size,0,none⟩ (.int .i64 6)).setCell ⟨w1.heap.size,1,none⟩ (.int .i64 0)) (some w1.heap.size):=zN (K:=fun V=>wc.grownBy V (some w1.heap.size)) kE _ _ (fun _ _ k=>k);have HW:=hide (wn.madeAt ((Below.refl w.heap.size _).grown gQ wn.grown.size (fun k e=>by cases e; exact HX.out)) hlt (Nat.le_refl _));have r0:(wc.setCell ⟨w1.heap.size,0,none⟩ (.int .i64 6)).cell? ⟨w1.heap.size,0,none⟩=some (.int .i64 6):=World.cell?_setCell_same' _ _ _ (by rw [t0]; rfl);have r1:=(zm kQ).2;clear kQ gQ;go_wp2;exact bodyPost_ret (v:=.agg #[.int .i64 6,.int .i64 0]) (by simp [results,Tryz.results43,go_sem, *]) rfl ⟨_,_,rfl,HW.out⟩
    ·have hl0':¬(N.ln:Int)=0:=by omega
     rcases h45 with rfl | rfl
     ·(go_wp2_with fail);refine (zaj C a0 l0 c0 z0 (N.ln:Int) _ wn.cur (by have:=HLL.out; omega)).mono ?_;rintro e wz ⟨i,rfl,-,-,-,wt⟩;have kN:=ze kN wt.grown (fun j e=>by cases e; exact HCN.out);have kE:=ze kE wt.grown (fun j e=>by cases e; exact HCE.out);have wn:=wn.trans wt;clear wt x0 x1 x2 t0 t1 f0 f1;generalize wz=wc at *;obtain ⟨x0,x1,x2⟩:=zd kN;obtain ⟨t0,t1⟩:=zm kE;have f0:=zf kE 0;have f1:=zf kE 1;have kQ:((wc.setCell ⟨w1.heap.size,0,none⟩ (.int .i64 4)).setCell ⟨w1.heap.size,1,none⟩ (.int .i64 i)).heap[w1.heap.size]? = some (.cells #[.int .i64 4,.int .i64 i] 94):=zN (K:=fun V=>V.heap[w1.heap.size]? = some (.cells #[.int .i64 4,.int .i64 i] 94)) kE _ _ (fun _ k _=>k);have gQ:wc.grownBy ((wc.setCell ⟨w1.heap.size,0,none⟩ (.int .i64 4)).setCell ⟨w1.heap.size,1,none⟩ (.int .i64 i)) (some w1.heap.size):=zN (K:=fun V=>wc.grownBy V (some w1.heap.size)) kE _ _ (fun _ _ k=>k);have HW:=hide (wn.madeAt ((Below.refl w.heap.size _).grown gQ wn.grown.size (fun k e=>by cases e; exact HX.out)) hlt (Nat.le_refl _));have r0:(wc.setCell ⟨w1.heap.size,0,none⟩ (.int .i64 4)).cell? ⟨w1.heap.size,0,none⟩=some (.int .i64 4):=World.cell?_setCell_same' _ _ _ (by rw [t0]; rfl);have r1:=(zm kQ).2;clear kQ gQ;go_wp2;exact bodyPost_ret (v:=.agg #[.int .i64 4,.int .i64 i]) (by simp [results,Tryz.results43,go_sem, *]) rfl ⟨_,_,rfl,HW.out⟩
     ·(go_wp2_with fail);refine (zaj C a0 l0 c0 z0 (N.ln:Int) _ wn.cur (by have:=HLL.out; omega)).mono ?_;rintro e wz ⟨i,rfl,-,-,-,wt⟩;have kN:=ze kN wt.grown (fun j e=>by cases e; exact HCN.out);have kE:=ze kE wt.grown (fun j e=>by cases e; exact HCE.out);have wn:=wn.trans wt;clear wt x0 x1 x2 t0 t1 f0 f1;generalize wz=wc at *;obtain ⟨x0,x1,x2⟩:=zd kN;obtain ⟨t0,t1⟩:=zm kE;have f0:=zf kE 0;have f1:=zf kE 1;have kQ:((wc.setCell ⟨w1.heap.size,0,none⟩ (.int .i64 5)).setCell ⟨w1.heap.size,1,none⟩ (.int .i64 i)).heap[w1.heap.size]? = some (.cells #[.int .i64 5,.int .i64 i] 94):=zN (K:=fun V=>V.heap[w1.heap.size]? = some (.cells #[.int .i64 5,.int .i64 i] 94)) kE _ _ (fun _ k _=>k);have gQ:wc.grownBy ((wc.setCell ⟨w1.heap.size,0,none⟩ (.int .i64 5)).setCell ⟨w1.heap.size,1,none⟩ (.int .i64 i)) (some w1.heap.size):=zN (K:=fun V=>wc.grownBy V (some w1.heap.size)) kE _ _ (fun _ _ k=>k);have HW:=hide (wn.madeAt ((Below.refl w.heap.size _).grown gQ wn.grown.size (fun k e=>by cases e; exact HX.out)) hlt (Nat.le_refl _));have r0:(wc.setCell ⟨w1.heap.size,0,none⟩ (.int .i64 5)).cell? ⟨w1.heap.size,0,none⟩=some (.int .i64 5):=World.cell?_setCell_same' _ _ _ (by rw [t0]; rfl);have r1:=(zm kQ).2;clear kQ gQ;go_wp2;exact bodyPost_ret (v:=.agg #[.int .i64 5,.int .i64 i]) (by simp [results,Tryz.results43,go_sem, *]) rfl ⟨_,_,rfl,HW.out⟩
   ·have h4:¬kd=4:=fun e=>h45 (.inl e)
    have h5:¬kd=5:=fun e=>h45 (.inr e)
    have h4':(kd == 4)=false:=by simp [h4]
    have h5':(kd == 5)=false:=by simp [h5]
    by_cases hb0:N.bn=0
    ·have hb0':(N.bn:Int)=0:=by omega
     have kQ:((wc.setCell ⟨w1.heap.size,0,none⟩ (.int .i64 kd)).setCell ⟨w1.heap.size,1,none⟩ (.int .i64 0)).heap[w1.heap.size]? = some (.cells #[.int .i64 kd,.int .i64 0] 94):=zN (K:=fun V=>V.heap[w1.heap.size]? = some (.cells #[.int .i64 kd,.int .i64 0] 94)) kE _ _ (fun _ k _=>k);have gQ:wc.grownBy ((wc.setCell ⟨w1.heap.size,0,none⟩ (.int .i64 kd)).setCell ⟨w1.heap.size,1,none⟩ (.int .i64 0)) (some w1.heap.size):=zN (K:=fun V=>wc.grownBy V (some w1.heap.size)) kE _ _ (fun _ _ k=>k);have HW:=hide (wn.madeAt ((Below.refl w.heap.size _).grown gQ wn.grown.size (fun k e=>by cases e; exact HX.out)) hlt (Nat.le_refl _));have r0:(wc.setCell ⟨w1.heap.size,0,none⟩ (.int .i64 kd)).cell? ⟨w1.heap.size,0,none⟩=some (.int .i64 kd):=World.cell?_setCell_same' _ _ _ (by rw [t0]; rfl);have r1:=(zm kQ).2;clear kQ gQ;go_wp2;exact bodyPost_ret (v:=.agg #[.int .i64 kd,.int .i64 0]) (by simp [results,Tryz.results43,go_sem, *]) rfl ⟨_,_,rfl,HW.out⟩
    ·have hb0':¬(N.bn:Int)=0:=by omega
     (go_wp2_with fail);refine (zaj C a0 l0 c0 z0 (N.bn:Int) _ wn.cur (by have:=HBB.out; omega)).mono ?_;rintro e wz ⟨i,rfl,-,-,-,wt⟩;have kN:=ze kN wt.grown (fun j e=>by cases e; exact HCN.out);have kE:=ze kE wt.grown (fun j e=>by cases e; exact HCE.out);have wn:=wn.trans wt;clear wt x0 x1 x2 t0 t1 f0 f1;generalize wz=wc at *;obtain ⟨x0,x1,x2⟩:=zd kN;obtain ⟨t0,t1⟩:=zm kE;have f0:=zf kE 0;have f1:=zf kE 1;have kQ:((wc.setCell ⟨w1.heap.size,0,none⟩ (.int .i64 kd)).setCell ⟨w1.heap.size,1,none⟩ (.int .i64 i)).heap[w1.heap.size]? = some (.cells #[.int .i64 kd,.int .i64 i] 94):=zN (K:=fun V=>V.heap[w1.heap.size]? = some (.cells #[.int .i64 kd,.int .i64 i] 94)) kE _ _ (fun _ k _=>k);have gQ:wc.grownBy ((wc.setCell ⟨w1.heap.size,0,none⟩ (.int .i64 kd)).setCell ⟨w1.heap.size,1,none⟩ (.int .i64 i)) (some w1.heap.size):=zN (K:=fun V=>wc.grownBy V (some w1.heap.size)) kE _ _ (fun _ _ k=>k);have HW:=hide (wn.madeAt ((Below.refl w.heap.size _).grown gQ wn.grown.size (fun k e=>by cases e; exact HX.out)) hlt (Nat.le_refl _));have r0:(wc.setCell ⟨w1.heap.size,0,none⟩ (.int .i64 kd)).cell? ⟨w1.heap.size,0,none⟩=some (.int .i64 kd):=World.cell?_setCell_same' _ _ _ (by rw [t0]; rfl);have r1:=(zm kQ).2;clear kQ gQ;go_wp2;exact bodyPost_ret (v:=.agg #[.int .i64 kd,.int .i64 i]) (by simp [results,Tryz.results43,go_sem, *]) rfl ⟨_,_,rfl,HW.out⟩
  ·(go_upto_region 2 with fail);clear x0 x1 x2 t0 t1 f0 f1;have vv:Below wc.heap.size wc wc.drew:=zq (Below.refl _ _);refine wp_region_held_drew (S:=(fun W=>zcc W w.heap.size 2 (.slice N.sa N.sn N.sc))) (by kernel_rfl) ((by first | exact (zd kN).2.2 | exact (zd (za kN vv)).2.2)) (fun hHeld => ?_);refine kK 0 ?_;refine kK 3 ?_;refine kK 4 ?_;refine kK 5 ?_;refine kK 6 ?_;refine kR 1 fun K hK => ?_
   go_simp;clear hHeld vv;generalize hwa:wc.alloc (Obj.cells #[.int .i64 2,.int .i64 2,.int .i64 2,.int .i64 2,.int .i64 3] 3)=wa;have ba:=zb hwa;have ka:=zk hwa;have hCa:C < wc.heap.size:=wn.cur.lt;have kN:=za kN ba;have kE:=za kE ba;have wn:=wn.made ba;have vv:Below wa.heap.size wa wa.drew:=zq (Below.refl _ _);have kN:=za kN vv;have kE:=za kE vv;have ka:=za ka vv;have wn:=wn.made vv;clear vv ba;generalize wa.drew=wd at *;(go_wp2_with fail);refine kO hK ((by first | exact (zd kN).2.2 | exact (zd (za kN vv)).2.2)) fun hHeld => ?_
   clear hK K;refine kR 2 fun K hK => ?_
   go_simp;clear hHeld;refine (zef C a0 l0 c0 z0 [2,2,2,2,3] _ _ _ wn.cur hCa ka rfl (by simp) (by simp)).mono ?_;rintro e wz ⟨kd,-,rfl,wt⟩;have kN:=ze kN wt.grown (fun j e=>by cases e; exact HCN.out);have kE:=ze kE wt.grown (fun j e=>by cases e; exact HCE.out);have wn:=wn.trans wt;clear wt ka hCa;generalize wz=wc2 at *;(go_wp2_with fail);refine kO hK ((by first | exact (zd kN).2.2 | exact (zd (za kN vv)).2.2)) fun hHeld => ?_
   clear hK K;refine kR 7 fun K hK => ?_
   go_simp;clear hHeld;refine (zaj C a0 l0 c0 z0 (N.sn:Int) _ wn.cur (by have:=HSN.out; omega)).mono ?_;rintro e wz ⟨i,rfl,-,-,-,wt⟩;have kN:=ze kN wt.grown (fun j e=>by cases e; exact HCN.out);have kE:=ze kE wt.grown (fun j e=>by cases e; exact HCE.out);have wn:=wn.trans wt;clear wt;generalize wz=wc3 at *;(go_wp2_with fail);refine kO hK ((by first | exact (zd kN).2.2 | exact (zd (za kN vv)).2.2)) fun hHeld => ?_
   clear hK K;refine kK 8 ?_;refine kR 9 fun K hK => ?_
   clear hHeld;obtain ⟨t0,t1⟩:=zm kE;have f0:=zf kE 0;have f1:=zf kE 1;go_simp;refine zN (K:=K _) kE _ _ (fun wq kQ gQ => ?_);have HW:=hide (wn.madeAt ((Below.refl w.heap.size _).grown gQ wn.grown.size (fun k e=>by cases e; exact HX.out)) hlt (Nat.le_refl _));have kN:=ze kN gQ (fun j e=>by cases e; exact HNE.out);refine kO hK ((by first | exact (zd kN).2.2 | exact (zd (za kN vv)).2.2)) fun hHeld => ?_
   clear hK K;refine wpAnyH_done (by kernel_rfl) ?_ _;obtain ⟨r0,r1⟩:=zm kQ;clear hHeld gQ t0 t1 f0 f1;go_wp2;exact bodyPost_ret (v:=.agg #[.int .i64 kd,.int .i64 i]) (by simp [results,Tryz.results43,go_sem, *]) rfl ⟨_,_,rfl,HW.out⟩
 ·go_enter Tryz.func43,Tryz.ntmps43;(go_wp2_with fail);clear hw1 hw2;generalize hwa:wc.alloc (Obj.cells #[.int .i64 1,.int .i64 1,.int .i64 1,.int .i64 1,.int .i64 4,.int .i64 5,.int .i64 6] 3)=wa;have ba:=zb hwa;have ka:=zk hwa;have hCa:C < wc.heap.size:=wn.cur.lt;have kN:=za kN ba;have kE:=za kE ba;have wn:=wn.made ba;(go_wp2_with fail);refine (zef C a0 l0 c0 z0 [1,1,1,1,4,5,6] _ _ _ wn.cur hCa ka rfl (by simp) (by simp)).mono ?_;rintro e wz ⟨kd,-,rfl,wt⟩;have kN:=ze kN wt.grown (fun j e=>by cases e; exact HCN.out);have kE:=ze kE wt.grown (fun j e=>by cases e; exact HCE.out);have wn:=wn.trans wt;clear wt x0 x1 x2 t0 t1 f0 f1;generalize wz=wc at *;obtain ⟨x0,x1,x2⟩:=zd kN;obtain ⟨t0,t1⟩:=zm kE;have f0:=zf kE 0;have f1:=zf kE 1;clear ka hwa ba hCa;by_cases h45:kd=4∨kd=5
  ·have hcut:True:=trivial;by_cases hl0:N.ln=0
   ·have hl0':((N.ln:Int) == 0)=true:=by simp [hl0]
    rcases h45 with rfl | rfl
    ·have kQ:((wc.setCell ⟨w1.heap.size,0,none⟩ (.int .i64 6)).setCell ⟨w1.heap.size,1,none⟩ (.int .i64 0)).heap[w1.heap.size]? = some (.cells #[.int .i64 6,.int .i64 0] 94):=zN (K:=fun V=>V.heap[w1.heap.size]? = some (.cells #[.int .i64 6,.int .i64 0] 94)) kE _ _ (fun _ k _=>k);have gQ:wc.grownBy ((wc.setCell ⟨w1.heap.size,0,none⟩ (.int .i64 6)).setCell ⟨w1.heap.size,1,none⟩ (.int .i64 0)) (some w1.heap.size):=zN (K:=fun V=>wc.grownBy V (some w1.heap.size)) kE _ _ (fun _ _ k=>k);have HW:=hide (wn.madeAt ((Below.refl w.heap.size _).grown gQ wn.grown.size (fun k e=>by cases e; exact HX.out)) hlt (Nat.le_refl _));have r0:(wc.setCell ⟨w1.heap.size,0,none⟩ (.int .i64 6)).cell? ⟨w1.heap.size,0,none⟩=some (.int .i64 6):=World.cell?_setCell_same' _ _ _ (by rw [t0]; rfl);have r1:=(zm kQ).2;clear kQ gQ;go_wp2;exact bodyPost_ret (v:=.agg #[.int .i64 6,.int .i64 0]) (by simp [results,Tryz.results43,go_sem, *]) rfl ⟨_,_,rfl,HW.out⟩
    ·have kQ:((wc.setCell ⟨w1.heap.size,0,none⟩ (.int .i64 6)).setCell ⟨w1.heap.size,1,none⟩ (.int .i64 0)).heap[w1.heap.size]? = some (.cells #[.int .i64 6,.int .i64 0] 94):=zN (K:=fun V=>V.heap[w1.heap.size]? = some (.cells #[.int .i64 6,.int .i64 0] 94)) kE _ _ (fun _ k _=>k);have gQ:wc.grownBy ((wc.setCell ⟨w1.heap.size,0,none⟩ (.int .i64 6)).setCell ⟨w1.heap.size,1,none⟩ (.int .i64 0)) (some w1.heap.size):=zN (K:=fun V=>wc.grownBy V (some w1.heap.size)) kE _ _ (fun _ _ k=>k);have HW:=hide (wn.madeAt ((Below.refl w.heap.size _).grown gQ wn.grown.size (fun k e=>by cases e; exact HX.out)) hlt (Nat.le_refl _));have r0:(wc.setCell ⟨w1.heap.size,0,none⟩ (.int .i64 6)).cell? ⟨w1.heap.size,0,none⟩=some (.int .i64 6):=World.cell?_setCell_same' _ _ _ (by rw [t0]; rfl);have r1:=(zm kQ).2;clear kQ gQ;go_wp2;exact bodyPost_ret (v:=.agg #[.int .i64 6,.int .i64 0]) (by simp [results,Tryz.results43,go_sem, *]) rfl ⟨_,_,rfl,HW.out⟩
   ·have hl0':¬(N.ln:Int)=0:=by omega
    rcases h45 with rfl | rfl
    ·(go_wp2_with fail);refine (zaj C a0 l0 c0 z0 (N.ln:Int) _ wn.cur (by have:=HLL.out; omega)).mono ?_;rintro e wz ⟨i,rfl,-,-,-,wt⟩;have kN:=ze kN wt.grown (fun j e=>by cases e; exact HCN.out);have kE:=ze kE wt.grown (fun j e=>by cases e; exact HCE.out);have wn:=wn.trans wt;clear wt x0 x1 x2 t0 t1 f0 f1;generalize wz=wc at *;obtain ⟨x0,x1,x2⟩:=zd kN;obtain ⟨t0,t1⟩:=zm kE;have f0:=zf kE 0;have f1:=zf kE 1;have kQ:((wc.setCell ⟨w1.heap.size,0,none⟩ (.int .i64 4)).setCell ⟨w1.heap.size,1,none⟩ (.int .i64 i)).heap[w1.heap.size]? = some (.cells #[.int .i64 4,.int .i64 i] 94):=zN (K:=fun V=>V.heap[w1.heap.size]? = some (.cells #[.int .i64 4,.int .i64 i] 94)) kE _ _ (fun _ k _=>k);have gQ:wc.grownBy ((wc.setCell ⟨w1.heap.size,0,none⟩ (.int .i64 4)).setCell ⟨w1.heap.size,1,none⟩ (.int .i64 i)) (some w1.heap.size):=zN (K:=fun V=>wc.grownBy V (some w1.heap.size)) kE _ _ (fun _ _ k=>k);have HW:=hide (wn.madeAt ((Below.refl w.heap.size _).grown gQ wn.grown.size (fun k e=>by cases e; exact HX.out)) hlt (Nat.le_refl _));have r0:(wc.setCell ⟨w1.heap.size,0,none⟩ (.int .i64 4)).cell? ⟨w1.heap.size,0,none⟩=some (.int .i64 4):=World.cell?_setCell_same' _ _ _ (by rw [t0]; rfl);have r1:=(zm kQ).2;clear kQ gQ;go_wp2;exact bodyPost_ret (v:=.agg #[.int .i64 4,.int .i64 i]) (by simp [results,Tryz.results43,go_sem, *]) rfl ⟨_,_,rfl,HW.out⟩
    ·(go_wp2_with fail);refine (zaj C a0 l0 c0 z0 (N.ln:Int) _ wn.cur (by have:=HLL.out; omega)).mono ?_;rintro e wz ⟨i,rfl,-,-,-,wt⟩;have kN:=ze kN wt.grown (fun j e=>by cases e; exact HCN.out);have kE:=ze kE wt.grown (fun j e=>by cases e; exact HCE.out);have wn:=wn.trans wt;clear wt x0 x1 x2 t0 t1 f0 f1;generalize wz=wc at *;obtain ⟨x0,x1,x2⟩:=zd kN;obtain ⟨t0,t1⟩:=zm kE;have f0:=zf kE 0;have f1:=zf kE 1;have kQ:((wc.setCell ⟨w1.heap.size,0,none⟩ (.int .i64 5)).setCell ⟨w1.heap.size,1,none⟩ (.int .i64 i)).heap[w1.heap.size]? = some (.cells #[.int .i64 5,.int .i64 i] 94):=zN (K:=fun V=>V.heap[w1.heap.size]? = some (.cells #[.int .i64 5,.int .i64 i] 94)) kE _ _ (fun _ k _=>k);have gQ:wc.grownBy ((wc.setCell ⟨w1.heap.size,0,none⟩ (.int .i64 5)).setCell ⟨w1.heap.size,1,none⟩ (.int .i64 i)) (some w1.heap.size):=zN (K:=fun V=>wc.grownBy V (some w1.heap.size)) kE _ _ (fun _ _ k=>k);have HW:=hide (wn.madeAt ((Below.refl w.heap.size _).grown gQ wn.grown.size (fun k e=>by cases e; exact HX.out)) hlt (Nat.le_refl _));have r0:(wc.setCell ⟨w1.heap.size,0,none⟩ (.int .i64 5)).cell? ⟨w1.heap.size,0,none⟩=some (.int .i64 5):=World.cell?_setCell_same' _ _ _ (by rw [t0]; rfl);have r1:=(zm kQ).2;clear kQ gQ;go_wp2;exact bodyPost_ret (v:=.agg #[.int .i64 5,.int .i64 i]) (by simp [results,Tryz.results43,go_sem, *]) rfl ⟨_,_,rfl,HW.out⟩
  ·have h4:¬kd=4:=fun e=>h45 (.inl e)
   have h5:¬kd=5:=fun e=>h45 (.inr e)
   have h4':(kd == 4)=false:=by simp [h4]
   have h5':(kd == 5)=false:=by simp [h5]
   by_cases hb0:N.bn=0
   ·have hb0':(N.bn:Int)=0:=by omega
    have kQ:((wc.setCell ⟨w1.heap.size,0,none⟩ (.int .i64 kd)).setCell ⟨w1.heap.size,1,none⟩ (.int .i64 0)).heap[w1.heap.size]? = some (.cells #[.int .i64 kd,.int .i64 0] 94):=zN (K:=fun V=>V.heap[w1.heap.size]? = some (.cells #[.int .i64 kd,.int .i64 0] 94)) kE _ _ (fun _ k _=>k);have gQ:wc.grownBy ((wc.setCell ⟨w1.heap.size,0,none⟩ (.int .i64 kd)).setCell ⟨w1.heap.size,1,none⟩ (.int .i64 0)) (some w1.heap.size):=zN (K:=fun V=>wc.grownBy V (some w1.heap.size)) kE _ _ (fun _ _ k=>k);have HW:=hide (wn.madeAt ((Below.refl w.heap.size _).grown gQ wn.grown.size (fun k e=>by cases e; exact HX.out)) hlt (Nat.le_refl _));have r0:(wc.setCell ⟨w1.heap.size,0,none⟩ (.int .i64 kd)).cell? ⟨w1.heap.size,0,none⟩=some (.int .i64 kd):=World.cell?_setCell_same' _ _ _ (by rw [t0]; rfl);have r1:=(zm kQ).2;clear kQ gQ;go_wp2;exact bodyPost_ret (v:=.agg #[.int .i64 kd,.int .i64 0]) (by simp [results,Tryz.results43,go_sem, *]) rfl ⟨_,_,rfl,HW.out⟩
   ·have hb0':¬(N.bn:Int)=0:=by omega
    (go_wp2_with fail);refine (zaj C a0 l0 c0 z0 (N.bn:Int) _ wn.cur (by have:=HBB.out; omega)).mono ?_;rintro e wz ⟨i,rfl,-,-,-,wt⟩;have kN:=ze kN wt.grown (fun j e=>by cases e; exact HCN.out);have kE:=ze kE wt.grown (fun j e=>by cases e; exact HCE.out);have wn:=wn.trans wt;clear wt x0 x1 x2 t0 t1 f0 f1;generalize wz=wc at *;obtain ⟨x0,x1,x2⟩:=zd kN;obtain ⟨t0,t1⟩:=zm kE;have f0:=zf kE 0;have f1:=zf kE 1;have kQ:((wc.setCell ⟨w1.heap.size,0,none⟩ (.int .i64 kd)).setCell ⟨w1.heap.size,1,none⟩ (.int .i64 i)).heap[w1.heap.size]? = some (.cells #[.int .i64 kd,.int .i64 i] 94):=zN (K:=fun V=>V.heap[w1.heap.size]? = some (.cells #[.int .i64 kd,.int .i64 i] 94)) kE _ _ (fun _ k _=>k);have gQ:wc.grownBy ((wc.setCell ⟨w1.heap.size,0,none⟩ (.int .i64 kd)).setCell ⟨w1.heap.size,1,none⟩ (.int .i64 i)) (some w1.heap.size):=zN (K:=fun V=>wc.grownBy V (some w1.heap.size)) kE _ _ (fun _ _ k=>k);have HW:=hide (wn.madeAt ((Below.refl w.heap.size _).grown gQ wn.grown.size (fun k e=>by cases e; exact HX.out)) hlt (Nat.le_refl _));have r0:(wc.setCell ⟨w1.heap.size,0,none⟩ (.int .i64 kd)).cell? ⟨w1.heap.size,0,none⟩=some (.int .i64 kd):=World.cell?_setCell_same' _ _ _ (by rw [t0]; rfl);have r1:=(zm kQ).2;clear kQ gQ;go_wp2;exact bodyPost_ret (v:=.agg #[.int .i64 kd,.int .i64 i]) (by simp [results,Tryz.results43,go_sem, *]) rfl ⟨_,_,rfl,HW.out⟩

def zn (id ports:Int):BR:=if (decide (1≤id) && decide (id≤99)) && (decide (1≤ports) && decide (ports≤6)) then zac id ports.toNat else zh9

theorem zfN (id ports:Int) (w:World):Calls Tryz.prog 70 #[.int .i64 id,.int .i64 ports] w fun e w'=>∃(a2:Option Addr) (n2 c2:Nat) (fa2:Option Addr) (fn2 fc2:Nat) (ra2:Option Addr) (rn2 rc2:Nat) (oa2:Option Addr) (on2 oc2:Nat),e=.returned (.agg #[.int .i64 (zn id ports).id,.string (zn id ports).name,.slice a2 n2 c2,.slice fa2 fn2 fc2,.slice ra2 rn2 rc2,.slice oa2 on2 oc2,.int .i64 (zn id ports).ticks,.int .i64 (zn id ports).parse,.int .i64 (zn id ports).word,.int .i64 (zn id ports).drops,.int .i64 (zn id ports).vers])∧BrOwn w' w.heap.size a2 n2 c2 fa2 fn2 fc2 ra2 rn2 rc2 oa2 on2 oc2 (zn id ports)∧Below w.heap.size w w':=by
 cases hid:(decide (1≤id) && decide (id≤99))
 ·have HE:Hid (zn id ports=zh9):=hide (by unfold zn; rw [hid]; rfl);have HID:=hide hid;clear hid;generalize hw1:w.alloc (Obj.cells #[.int .i64 0,.string ⟨#[]⟩,.slice none 0 0,.slice none 0 0,.slice none 0 0,.slice none 0 0,.int .i64 0,.int .i64 0,.int .i64 0,.int .i64 0,.int .i64 0] 44)=w1;have b1:=zb hw1;have kJ:=zk hw1;obtain ⟨u0,u1,u2,u3,u4,u5,u6,u7,u8,u9,u10⟩:=zx kJ;have fr:=zf kJ;have fr0:=fr 0;have fr1:=fr 1;have fr2:=fr 2;have fr3:=fr 3;have fr4:=fr 4;have fr5:=fr 5;have fr6:=fr 6;have fr7:=fr 7;have fr8:=fr 8;have fr9:=fr 9;have fr10:=fr 10;have HO:=hide ((zgF w1 w.heap.size).boxed11 kJ (.int .i64 0) (.string ⟨#[]⟩) (.slice none 0 0) (.slice none 0 0) (.slice none 0 0) (.slice none 0 0) (.int .i64 0) (.int .i64 0) (.int .i64 0) (.int .i64 0) (.int .i64 0));have HB:=hide (zam b1 (Nat.le_refl _) (.int .i64 0) (.string ⟨#[]⟩) (.slice none 0 0) (.slice none 0 0) (.slice none 0 0) (.slice none 0 0) (.int .i64 0) (.int .i64 0) (.int .i64 0) (.int .i64 0) (.int .i64 0));clear fr b1 kJ;go_enter Tryz.func70,Tryz.ntmps70;(go_wp2_with fail);refine (zg id 1 99 _).mono ?_;rintro r wx ⟨rfl,ew⟩;obtain rfl:=ew.symm;rw [HID.out];go_wp2;exact bodyPost_ret (v:=.agg #[.int .i64 0,.string ⟨#[]⟩,.slice none 0 0,.slice none 0 0,.slice none 0 0,.slice none 0 0,.int .i64 0,.int .i64 0,.int .i64 0,.int .i64 0,.int .i64 0]) (by simp [results,Tryz.results70,go_sem, *]) rfl ⟨none,0,0,none,0,0,none,0,0,none,0,0,(by rw [HE.out]; rfl),(by rw [HE.out]; exact HO.out),HB.out⟩
 cases hm:(decide (1≤ports) && decide (ports≤6))
 ·have HE:Hid (zn id ports=zh9):=hide (by unfold zn; rw [hid,hm]; rfl);have HID:=hide hid;have HM:=hide hm;clear hid hm;generalize hw1:w.alloc (Obj.cells #[.int .i64 0,.string ⟨#[]⟩,.slice none 0 0,.slice none 0 0,.slice none 0 0,.slice none 0 0,.int .i64 0,.int .i64 0,.int .i64 0,.int .i64 0,.int .i64 0] 44)=w1;have b1:=zb hw1;have kJ:=zk hw1;obtain ⟨u0,u1,u2,u3,u4,u5,u6,u7,u8,u9,u10⟩:=zx kJ;have fr:=zf kJ;have fr0:=fr 0;have fr1:=fr 1;have fr2:=fr 2;have fr3:=fr 3;have fr4:=fr 4;have fr5:=fr 5;have fr6:=fr 6;have fr7:=fr 7;have fr8:=fr 8;have fr9:=fr 9;have fr10:=fr 10;have HO:=hide ((zgF w1 w.heap.size).boxed11 kJ (.int .i64 0) (.string ⟨#[]⟩) (.slice none 0 0) (.slice none 0 0) (.slice none 0 0) (.slice none 0 0) (.int .i64 0) (.int .i64 0) (.int .i64 0) (.int .i64 0) (.int .i64 0));have HB:=hide (zam b1 (Nat.le_refl _) (.int .i64 0) (.string ⟨#[]⟩) (.slice none 0 0) (.slice none 0 0) (.slice none 0 0) (.slice none 0 0) (.int .i64 0) (.int .i64 0) (.int .i64 0) (.int .i64 0) (.int .i64 0));clear fr b1 kJ;go_enter Tryz.func70,Tryz.ntmps70;(go_wp2_with fail);refine (zg id 1 99 _).mono ?_;rintro r wx ⟨rfl,ew⟩;obtain rfl:=ew.symm;rw [HID.out];(go_wp2_with fail);refine (zg ports 1 6 _).mono ?_;rintro r wx ⟨rfl,ew⟩;obtain rfl:=ew.symm;rw [HM.out];go_wp2;exact bodyPost_ret (v:=.agg #[.int .i64 0,.string ⟨#[]⟩,.slice none 0 0,.slice none 0 0,.slice none 0 0,.slice none 0 0,.int .i64 0,.int .i64 0,.int .i64 0,.int .i64 0,.int .i64 0]) (by simp [results,Tryz.results70,go_sem, *]) rfl ⟨none,0,0,none,0,0,none,0,0,none,0,0,(by rw [HE.out]; rfl),(by rw [HE.out]; exact HO.out),HB.out⟩
 obtain ⟨m,rfl⟩:∃m:Nat,ports=(m:Int):=⟨ports.toNat,by simp at hm; omega⟩;have HE:Hid (zn id (m:Int)=zac id m):=hide (by unfold zn; rw [hid,hm,Int.toNat_natCast]; rfl);refine (zem id m w hid hm).mono ?_;rintro e w' ⟨a,c,ra,rn,rc,oa,on,oc,rfl,ho,hb⟩;rw [HE.out];exact ⟨a,m,c,none,0,0,ra,rn,rc,oa,on,oc,rfl,ho,hb⟩

def zaW (B:BR):Nat→BR
 | 0=>B
 | p+1=>linkB (zaW B p) (p:Int) true
def raised (B:BR):BR:=zaW B B.ports.length
def upPt:PT:=⟨true,1,false,⟨0,0,0,0,0⟩⟩

theorem zk6:∀m∈([1,2,3,4,5,6]:List Nat),(List.replicate m newPt).all ptOk=true∧in3 ((List.replicate m newPt).length:Int) 1 6=true∧fdbOk []=true∧zau (zdb m) ((List.replicate m newPt).length:Int)=true:=by decide

theorem zgY {id:Int} {m:Nat} (hid:1≤id∧id≤99) (hm:1≤m∧m≤6):zu (zac id m)=true:=by
 obtain ⟨h1,h2,h3,h4⟩:=zk6 m (by
  have:m=1∨m=2∨m=3∨m=4∨m=5∨m=6:=by omega
  simpa using this)
 unfold zu zac;simp only [h1,h2,h3,h4,Bool.true_and];have h5:in3 id 1 99=true:=by unfold in3; simp; omega
 rw [h5]
 rfl

theorem zlp (p m:Nat) (hp:p < m):(List.replicate p upPt++List.replicate (m - p) newPt).set p upPt=List.replicate (p+1) upPt++List.replicate (m - (p+1)) newPt:=by
 rw [List.set_append_right _ _ (by simp),List.length_replicate,Nat.sub_self];obtain ⟨k,hk⟩:∃k,m - p=k+1:=⟨m - p - 1,by omega⟩;rw [hk,List.replicate_succ,List.set_cons_zero,show m - (p+1)=k by omega,List.replicate_succ' (n:=p),List.append_assoc]
 rfl

theorem zjx {id:Int} {m:Nat} (hid:1≤id∧id≤99) (hm:1≤m∧m≤6):∀(p:Nat),p≤m→zu (zaW (zac id m) p)=true∧(zaW (zac id m) p).id=id∧(zaW (zac id m) p).ports=List.replicate p upPt++List.replicate (m - p) newPt
 | 0,_=>⟨zgY hid hm,rfl,by simp [zaW,zac]⟩
 | p+1,hp=>by
  obtain ⟨h1,h2,h3⟩:=zjx hid hm p (by omega);have hl:(zaW (zac id m) p).ports.length=m:=by rw [h3]; simp; omega
  have ht:za4 (zaW (zac id m) p) (p:Int)=true:=by unfold za4; rw [h1,hl]; simp; omega
  have hx:(zaW (zac id m) p).ports[(p:Int).toNat]? = some newPt:=by
   rw [Int.toNat_natCast,h3,List.getElem?_append_right (by simp),List.length_replicate,Nat.sub_self];obtain ⟨k,hk⟩:∃k,m - p=k+1:=⟨m - p - 1,by omega⟩;rw [hk]
   rfl
  have e:zaW (zac id m) (p+1)=turned { zaW (zac id m) p with ports:=(zaW (zac id m) p).ports.set p upPt }:=by
   show linkB (zaW (zac id m) p) (p:Int) true=_
   unfold linkB;rw [ht,hx,Int.toNat_natCast]
   rfl
  refine ⟨zjm h1 _ _, ?_, ?_⟩
  ·rw [e]; exact h2
  ·rw [e]
   show (zaW (zac id m) p).ports.set p upPt=_
   rw [h3];exact zlp p m (by omega)

theorem zaI (id ports:Int):(zu (raised (zn id ports))=zu (zn id ports))∧(raised (zn id ports)).id=(zn id ports).id∧(raised (zn id ports)).ports.length=(zn id ports).ports.length∧(∀x∈(zn id ports).ports,x=newPt)∧(∀x∈(raised (zn id ports)).ports,x=upPt)∧(zu (zn id ports)=true→ports=((zn id ports).ports.length:Int)):=by
 unfold zn
 split
 ·next h =>
  simp only [Bool.and_eq_true,decide_eq_true_eq] at h;obtain ⟨m,rfl⟩:∃m:Nat,ports=(m:Int):=⟨ports.toNat,by omega⟩;rw [Int.toNat_natCast];have hl:(zac id m).ports.length=m:=by simp [zac]
  obtain ⟨h1,h2,h3⟩:=zjx h.1 (m:=m) (by omega) m (Nat.le_refl _);unfold raised;rw [hl];refine ⟨by rw [h1,zgY h.1 (by omega)],h2,by rw [h3]; simp, ?_, ?_,fun _=>rfl⟩
  ·intro x hx; exact List.eq_of_mem_replicate hx
  ·intro x hx; rw [h3] at hx; simp at hx; exact hx.2
 ·refine ⟨rfl,rfl,rfl,(by intro x hx; cases hx),(by intro x hx; cases hx),fun h => ?_⟩
  have:zu zh9=false:=by decide
  rw [this] at h;cases h

theorem zcZ (id ports:Int):(zn id ports).f.length≤6∧(zn id ports).ports.length≤6∧(zn id ports).v.rows.length≤6∧(zn id ports).v.own.length≤6:=by
 unfold zn
 split
 ·next h =>
  simp only [Bool.and_eq_true,decide_eq_true_eq] at h;obtain ⟨m,rfl⟩:∃m:Nat,ports=(m:Int):=⟨ports.toNat,by omega⟩;rw [Int.toNat_natCast];unfold zac zdb;refine ⟨by simp,by simp; omega, ?_, ?_⟩
  ·split <;> simp
  ·split <;> simp <;> omega
 ·exact ⟨by decide,by decide,by decide,by decide⟩

def newBs (ids:List Int) (ports:Int):List BR:=ids.map fun i=>zn i ports
def upBs (ids:List Int) (ports:Int):List BR:=ids.map fun i=>raised (zn i ports)

theorem zdl {ids:List Int} {ports:Int} {i:Nat} {x:BR} (h:(newBs ids ports)[i]? = some x):∃id,ids[i]? = some id∧x=zn id ports:=by
 unfold newBs at h;rw [List.getElem?_map] at h;cases hi:ids[i]? with
 | none=>rw [hi] at h; cases h
 | some id=>rw [hi] at h; exact ⟨id,rfl,(Option.some.inj h).symm⟩
theorem zfR {ids:List Int} {ports:Int} {i:Nat} {x:BR} (h:(upBs ids ports)[i]? = some x):∃id,ids[i]? = some id∧x=raised (zn id ports):=by
 unfold upBs at h;rw [List.getElem?_map] at h;cases hi:ids[i]? with
 | none=>rw [hi] at h; cases h
 | some id=>rw [hi] at h; exact ⟨id,rfl,(Option.some.inj h).symm⟩
theorem zcF {ids:List Int} {ports:Int} {i:Nat} {id:Int} (h:ids[i]? = some id):(newBs ids ports)[i]? = some (zn id ports):=by unfold newBs; rw [List.getElem?_map,h]; rfl
theorem zhd {ids:List Int} {ports:Int} {i:Nat} {id:Int} (h:ids[i]? = some id):(upBs ids ports)[i]? = some (raised (zn id ports)):=by unfold upBs; rw [List.getElem?_map,h]; rfl

theorem zjw {ids:List Int} {ports b p:Int} {u:PT} (h:zad (newBs ids ports) b p=some u):u=newPt∧zad (upBs ids ports) b p=some upPt:=by
 unfold zad at h ⊢
 split at h
 ·next hc =>
  rw [if_pos hc];cases hB:(newBs ids ports)[b.toNat]? with
  | none=>rw [hB] at h; cases h
  | some B =>
   rw [hB] at h;obtain ⟨id,hi,rfl⟩:=zdl hB;have h:(zn id ports).ports[p.toNat]? = some u:=h;obtain ⟨-,-,hl,h4,h5,-⟩:=zaI id ports;refine ⟨h4 u (List.mem_of_getElem? h), ?_⟩;rw [zhd hi]
   show (raised (zn id ports)).ports[p.toNat]? = some upPt
   have hlt:=(List.getElem?_eq_some_iff.1 h).1;obtain ⟨y,hy⟩:∃y,(raised (zn id ports)).ports[p.toNat]? = some y:=⟨_,List.getElem?_eq_getElem (by omega)⟩;rw [hy,h5 y (List.mem_of_getElem? hy)]
 ·cases h
theorem zlc {ids:List Int} {ports b p:Int} {u:PT} (h:zad (upBs ids ports) b p=some u):u=upPt∧zad (newBs ids ports) b p=some newPt:=by
 unfold zad at h ⊢
 split at h
 ·next hc =>
  rw [if_pos hc];cases hB:(upBs ids ports)[b.toNat]? with
  | none=>rw [hB] at h; cases h
  | some B =>
   rw [hB] at h;obtain ⟨id,hi,rfl⟩:=zfR hB;have h:(raised (zn id ports)).ports[p.toNat]? = some u:=h;obtain ⟨-,-,hl,h4,h5,-⟩:=zaI id ports;refine ⟨h5 u (List.mem_of_getElem? h), ?_⟩;rw [zcF hi]
   show (zn id ports).ports[p.toNat]? = some newPt
   have hlt:=(List.getElem?_eq_some_iff.1 h).1;obtain ⟨y,hy⟩:∃y,(zn id ports).ports[p.toNat]? = some y:=⟨_,List.getElem?_eq_getElem (by omega)⟩;rw [hy,h4 y (List.mem_of_getElem? hy)]
 ·cases h

theorem zm3 (ids:List Int) (ports:Int) (l:List LK):NetOk (newBs ids ports) l []↔NetOk (upBs ids ports) l []:=by
 have hq1:Quiet (newBs ids ports) l:=fun i B hB p x hx hh=>by
  obtain ⟨id,-,rfl⟩:=zdl hB;rw [(zaI id ports).2.2.2.1 x (List.mem_of_getElem? hx)] at hh;cases hh
 have hq2:Quiet (upBs ids ports) l:=fun i B hB p x hx hh=>by
  obtain ⟨id,-,rfl⟩:=zfR hB;rw [(zaI id ports).2.2.2.2.1 x (List.mem_of_getElem? hx)] at hh;cases hh
 have hbr:zaE (newBs ids ports)↔zaE (upBs ids ports):=by
  unfold zaE zi0;have hl:(newBs ids ports).length=(upBs ids ports).length:=by simp [newBs,upBs]
  rw [hl]
  constructor
  ·rintro ⟨h1,h2,h3,h4⟩;refine ⟨fun x hx => ?_,fun i j x y hij hx hy => ?_,h3,h4⟩
   ·obtain ⟨i,hi⟩:=List.getElem?_of_mem hx;obtain ⟨id,hid,rfl⟩:=zfR hi;rw [(zaI id ports).1];exact h1 _ (List.mem_of_getElem? (zcF hid))
   ·obtain ⟨a,ha,rfl⟩:=zfR hx;obtain ⟨b,hb,rfl⟩:=zfR hy;rw [(zaI a ports).2.1,(zaI b ports).2.1];exact h2 i j _ _ hij (zcF ha) (zcF hb)
  ·rintro ⟨h1,h2,h3,h4⟩;refine ⟨fun x hx => ?_,fun i j x y hij hx hy => ?_,h3,h4⟩
   ·obtain ⟨i,hi⟩:=List.getElem?_of_mem hx;obtain ⟨id,hid,rfl⟩:=zdl hi;rw [← (zaI id ports).1];exact h1 _ (List.mem_of_getElem? (zhd hid))
   ·obtain ⟨a,ha,rfl⟩:=zdl hx;obtain ⟨b,hb,rfl⟩:=zdl hy;rw [← (zaI a ports).2.1,← (zaI b ports).2.1];exact h2 i j _ _ hij (zhd ha) (zhd hb)
 have he:∀x:LK,zcl (newBs ids ports) x↔zcl (upBs ids ports) x:=by
  intro x;unfold zcl
  constructor
  ·rintro ⟨h,u,v,hu,hv,-⟩;exact ⟨h,upPt,upPt,(zjw hu).2,(zjw hv).2,rfl⟩
  ·rintro ⟨h,u,v,hu,hv,-⟩;exact ⟨h,newPt,newPt,(zlc hu).2,(zlc hv).2,rfl⟩
 have hln:zaS (newBs ids ports) l↔zaS (upBs ids ports) l:=by
  unfold zaS zhi
  constructor
  ·rintro ⟨h1,h2⟩;exact ⟨h1,fun x hx=>⟨(he x).1 (h2 x hx).1,(h2 x hx).2⟩⟩
  ·rintro ⟨h1,h2⟩;exact ⟨h1,fun x hx=>⟨(he x).2 (h2 x hx).1,(h2 x hx).2⟩⟩
 unfold NetOk;rw [hbr,hln];exact ⟨fun h=>⟨h.1,h.2.1,hq2,h.2.2.2⟩,fun h=>⟨h.1,h.2.1,hq1,h.2.2.2⟩⟩

theorem zeK (B:BR):∀p,lessB (zaW B p) B
 | 0=>⟨Nat.le_refl _,Nat.le_refl _,rfl⟩
 | p+1=>zew (zk3 _ _ _) (zeK B p)

section
open Go.RowKit

structure zdC (nn pp:Nat) (ls:List LK):Prop where
 len:ls.length≤9
 at':∀x∈ls,x.a≠x.b∧(0≤x.a∧x.a < (nn:Int))∧(0≤x.b∧x.b < (nn:Int))∧(0≤x.p∧x.p < (pp:Int))∧(0≤x.q∧x.q < (pp:Int))
 nd:(endsL ls).Nodup

theorem zdC.push {nn pp:Nat} {ls:List LK} (h:zdC nn pp ls) {a p b q:Int} (hab:¬a=b) (ha:0≤a∧a < (nn:Int)) (hb:0≤b∧b < (nn:Int)) (hp:0≤p∧p < (pp:Int)) (hq:0≤q∧q < (pp:Int)) (h1:usedL ls a p=0) (h2:usedL ls b q=0) (h9:ls.length < 9):zdC nn pp (ls++[⟨a,p,b,q⟩]) where
 len:=by rw [List.length_append]; simp; omega
 at':=fun x hx=>by
  rcases List.mem_append.1 hx with h3 | h3
  ·exact h.at' x h3
  ·simp at h3
   subst h3;exact ⟨hab,ha,hb,hp,hq⟩
 nd:=by
  rw [zeX,List.nodup_append];refine ⟨h.nd,by simp [endsL,hab],fun x hx y hy => ?_⟩;unfold usedL at h1 h2;rw [List.count_eq_zero] at h1 h2;have hy:y=(a,p)∨y=(b,q):=by simpa [endsL] using hy
  rintro rfl;rcases hy with rfl | rfl
  ·exact h1 hx
  ·exact h2 hx

structure LkSt (w wr:World) (C:Nat) (a0:Option Addr) (l0 c0:Nat) (z0:List Int) (la:Option Addr) (lc:Nat) (ls:List LK):Prop where
 box:wr.heap[w.heap.size]? = some (.cells #[.slice none 0 0,.slice la ls.length lc,.slice none 0 0] 28)
 own:wr.ownsRow (w.heap.size+1) 66 4 (.slice la ls.length lc) ls.length (linkF.all ls)
 went:Went w wr C a0 l0 c0 z0
 lt:C < w.heap.size

section
variable {w wr w':World} {C:Nat} {a0:Option Addr} {l0 c0:Nat} {z0:List Int} {la:Option Addr} {lc:Nat} {ls:List LK}
theorem LkSt.later (h:LkSt w wr C a0 l0 c0 z0 la lc ls) (hb:Below wr.heap.size wr w'):LkSt w w' C a0 l0 c0 z0 la lc ls:=⟨za h.box hb,zh h.own hb,h.went.made hb,h.lt⟩
theorem LkSt.goes (h:LkSt w wr C a0 l0 c0 z0 la lc ls) (wt:Went wr w' C a0 l0 c0 z0):LkSt w w' C a0 l0 c0 z0 la lc ls :=
 ⟨ze h.box wt.grown (fun j e=>by cases e; exact Nat.ne_of_lt h.lt),zL h.own wt.grown (fun b hb=>by cases hb; exact Nat.lt_succ_of_lt h.lt),h.went.trans wt,h.lt⟩
theorem LkSt.row (h:LkSt w wr C a0 l0 c0 z0 la lc ls):zaa wr ⟨none,0,0,[],la,ls.length,lc,ls,none,0,0,[]⟩ :=
 ⟨zdh _ _,(by intro x hx; cases hx),zC (F:=linkF) h.own,zdh _ _⟩
theorem LkSt.pushed (h:LkSt w wr C a0 l0 c0 z0 la lc ls) {a7:Option Addr} {c7:Nat} {l7:List LK} {w7:World} (how:w7.ownsRow (w.heap.size+1) 66 4 (.slice a7 l7.length c7) l7.length (linkF.all l7)) (kX:w7.heap[w.heap.size]? = some (.cells #[.slice none 0 0,.slice la ls.length lc,.slice none 0 0] 28)) (hb7:Below (w.heap.size+1) wr w7):LkSt w (w7.setCell ⟨w.heap.size,1,none⟩ (.slice a7 l7.length c7)) C a0 l0 c0 z0 a7 c7 l7 where
 box:=by have:=zB (j:=1) kX (.slice a7 l7.length c7); simpa using this
 own:=zt how (zj (rb:=w.heap.size) 1 _) (zA how kX (by decide))
 went:=by
  have h1:=h.went.madeAt hb7 (Nat.lt_succ_of_lt h.lt) (Nat.le_succ _);exact h1.madeAt (zr (Below.refl w.heap.size w7) (g:=w.heap.size) (Nat.le_refl _) 1 _) h.lt (Nat.le_refl _)
 lt:=h.lt
end

theorem zhG (C:Nat) (a0:Option Addr) (l0 c0:Nat) (z0:List Int) (nn pp:Nat) (w:World) (hc:Cur w C a0 l0 c0 z0) (hn1:1≤nn) (hn:nn≤100) (hp1:1≤pp) (hp:pp≤100) :
  Calls Tryz.prog 40 #[.pointer (some ⟨C,0,none⟩),.int .i64 nn,.int .i64 pp] w fun e w'=>∃(la:Option Addr) (lc:Nat) (ls:List LK),e=.returned (.slice la ls.length lc)∧zdC nn pp ls∧w'.ownsRow w.heap.size 66 4 (.slice la ls.length lc) ls.length (linkF.all ls)∧Went w w' C a0 l0 c0 z0:=by
 have hlt:=hc.lt;go_enter Tryz.func40,Tryz.ntmps40;go_wp2_with fail
 generalize hw1:w.alloc (Obj.cells #[.slice none 0 0,.slice none 0 0,.slice none 0 0] 28)=w1;have b1:=zb hw1;have k1:=zk hw1;have st1:LkSt w w1 C a0 l0 c0 z0 none 0 []:=⟨k1,World.ownsRow_nil _ _ _ _,Went.start hc b1,hlt⟩;clear hw1 b1 k1
 go_loopw [8,9,10,11,12] (fun i u9 u10 u11 u12 wr=>∃(k:Nat) (la:Option Addr) (lc:Nat) (ls:List LK),i=.int .i64 (k:Int)∧k≤nn+4∧zdC nn pp ls∧LkSt w wr C a0 l0 c0 z0 la lc ls) (fun i _ _ _ _ _=>nn+5 - (intOf i).toNat)
 case atStart=>exact ⟨0,none,0,[],rfl,Nat.zero_le _,⟨by simp,(by intro x hx; cases hx),List.nodup_nil⟩,st1⟩
 case round =>
  clear st1;obtain ⟨k,la,lc,ls,rfl,hk,hLI,st⟩:=hrel;have HLI:=hide hLI;clear hLI;(go_wp2_with fail);refine (zaj C a0 l0 c0 z0 4 _ st.went.cur (by omega)).mono ?_;rintro e wz ⟨d,rfl,d0,d1,-,wt⟩;have st:=st.goes wt;clear wt;generalize wz=wc at *;have d1:=d1 (by omega);by_cases hkd:(k:Int) < (nn:Int)+d
  ·(go_wp2_with fail);refine (zaj C a0 l0 c0 z0 (nn:Int) _ st.went.cur (by omega)).mono ?_;rintro e wz ⟨ga,rfl,ga0,ga1,-,wt⟩;have st:=st.goes wt;clear wt;generalize wz=wc at *;have ga1:=ga1 (by omega);(go_wp2_with fail);refine (zaj C a0 l0 c0 z0 2 _ st.went.cur (by omega)).mono ?_;rintro e wz ⟨gc,rfl,gc0,gc1,-,wt⟩;have st:=st.goes wt;clear wt;generalize wz=wc at *;have gc1:=gc1 (by omega);have hmm:(ga+1+gc).tmod (nn:Int)=(ga+1+gc) % (nn:Int):=Int.tmod_eq_emod_of_nonneg (by omega);have hn0:¬(nn:Int)=0:=by omega
   have gb0:0≤(ga+1+gc) % (nn:Int):=Int.emod_nonneg _ hn0;have gb1:(ga+1+gc) % (nn:Int) < (nn:Int):=Int.emod_lt_of_pos _ (by omega);(go_upto_region 7 with fail);generalize (ga+1+gc) % (nn:Int)=gb at *
   go_cut [40] from 32 to 39 (fun s wx=>∃q:Bool,s=.bool q∧(q=true→(k:Int) < (nn:Int) - 1)∧LkSt w wx C a0 l0 c0 z0 la lc ls)
   case first =>
    by_cases hk1:(k:Int) < (nn:Int) - 1
    ·(go_wp2_with fail);refine (zjq C a0 l0 c0 z0 5 _ st.went.cur (by omega)).mono ?_;rintro e wz ⟨q,rfl,wt⟩;have st:=st.goes wt;clear wt;generalize wz=wc at *;have HST:=hide st;clear st;(go_wp2_with fail)
     go_meet
     exact ⟨!q,rfl,fun _=>hk1,HST.out⟩
    ·have HST:=hide st;clear st;(go_wp2_with fail)
     go_meet
     exact ⟨false,rfl,(fun e=>by cases e),HST.out⟩
   case rest =>
    clear st;obtain ⟨q,rfl,hq,st⟩:=hcut
    go_upto_if 40 with fail
    go_cut [9,10] from 41 to 43 (fun s t wx=>∃fa fb:Int,s=.int .i64 fa∧t=.int .i64 fb∧0≤fa∧fa < (nn:Int)∧0≤fb∧fb < (nn:Int)∧LkSt w wx C a0 l0 c0 z0 la lc ls)
    case first =>
     have HST:=hide st;clear st;cases q
     ·(go_wp2_with fail)
      go_meet
      exact ⟨ga,gb,rfl,rfl,ga0,ga1,gb0,gb1,HST.out⟩
     ·have hk1:=hq rfl;(go_wp2_with fail)
      go_meet
      exact ⟨(k:Int),(k:Int)+1,rfl,rfl,by omega,by omega,by omega,by omega,HST.out⟩
    case rest =>
     clear st hq ga0 ga1 gb0 gb1 gc0 gc1 hmm;obtain ⟨fa,fb,rfl,rfl,fa0,fa1,fb0,fb1,st⟩:=hcut;(go_wp2_with fail);refine (zaj C a0 l0 c0 z0 (pp:Int) _ st.went.cur (by omega)).mono ?_;rintro e wz ⟨gp,rfl,gp0,gp1,-,wt⟩;have st:=st.goes wt;clear wt;generalize wz=wc at *;have gp1:=gp1 (by omega);(go_wp2_with fail);refine (zaj C a0 l0 c0 z0 (pp:Int) _ st.went.cur (by omega)).mono ?_;rintro e wz ⟨gq,rfl,gq0,gq1,-,wt⟩;have st:=st.goes wt;clear wt;generalize wz=wc at *;have gq1:=gq1 (by omega)
     go_upto_block 2 with fail
     go_cut [11] from 50 to 62 (fun v wx=>∃y:Int,v=.int .i64 y∧0≤y∧y < (pp:Int)∧LkSt w wx C a0 l0 c0 z0 la lc ls)
     case first =>
      (go_wp2_with fail)
      go_loopw [11] (fun v wx=>∃y:Nat,v=.int .i64 (y:Int)∧y < pp∧LkSt w wx C a0 l0 c0 z0 la lc ls) (fun v _=>pp - (intOf v).toNat)
      case atStart=>exact ⟨gp.toNat,by rw [show ((gp.toNat:Nat):Int)=gp by omega],by omega,st⟩
      case round =>
       clear st;obtain ⟨y,rfl,hy,st⟩:=hrel;have x:=zd st.box;obtain ⟨x0,x1,x2⟩:=x;(go_wp2_with fail);refine (zbr ⟨none,0,0,[],la,ls.length,lc,ls,none,0,0,[]⟩ fa (y:Int) _ st.row (by have:=HLI.out.len; dsimp only; omega)).mono ?_;rintro e wz ⟨rfl,hbz⟩;have st:=st.later hbz;clear hbz x0 x1 x2;generalize wz=wc at *;by_cases hu:0 < ((usedL ls fa (y:Int):Nat):Int)
       ·by_cases hy1:(y:Int)+1 < (pp:Int)
        ·have HST:=hide st;clear st;go_wp2
         go_roundw
         case rel=>exact ⟨y+1,by go_num,by omega,HST.out⟩
         case measure=>simp [intOf]; omega
        ·have HST:=hide st;clear st;(go_wp2_with fail)
         go_meet
         exact ⟨(y:Int),rfl,by omega,by omega,HST.out⟩
       ·have HST:=hide st;clear st;(go_wp2_with fail)
        go_meet
        exact ⟨(y:Int),rfl,by omega,by omega,HST.out⟩
     case rest =>
      clear st;obtain ⟨fp,rfl,fp0,fp1,st⟩:=hcut
      go_upto_block 4 with fail
      go_cut [12] from 63 to 75 (fun v wx=>∃y:Int,v=.int .i64 y∧0≤y∧y < (pp:Int)∧LkSt w wx C a0 l0 c0 z0 la lc ls)
      case first =>
       (go_wp2_with fail)
       go_loopw [12] (fun v wx=>∃y:Nat,v=.int .i64 (y:Int)∧y < pp∧LkSt w wx C a0 l0 c0 z0 la lc ls) (fun v _=>pp - (intOf v).toNat)
       case atStart=>exact ⟨gq.toNat,by rw [show ((gq.toNat:Nat):Int)=gq by omega],by omega,st⟩
       case round =>
        clear st;obtain ⟨y,rfl,hy,st⟩:=hrel;have x:=zd st.box;obtain ⟨x0,x1,x2⟩:=x;(go_wp2_with fail);refine (zbr ⟨none,0,0,[],la,ls.length,lc,ls,none,0,0,[]⟩ fb (y:Int) _ st.row (by have:=HLI.out.len; dsimp only; omega)).mono ?_;rintro e wz ⟨rfl,hbz⟩;have st:=st.later hbz;clear hbz x0 x1 x2;generalize wz=wc at *;by_cases hu:0 < ((usedL ls fb (y:Int):Nat):Int)
        ·by_cases hy1:(y:Int)+1 < (pp:Int)
         ·have HST:=hide st;clear st;go_wp2
          go_roundw
          case rel=>exact ⟨y+1,by go_num,by omega,HST.out⟩
          case measure=>simp [intOf]; omega
         ·have HST:=hide st;clear st;(go_wp2_with fail)
          go_meet
          exact ⟨(y:Int),rfl,by omega,by omega,HST.out⟩
        ·have HST:=hide st;clear st;(go_wp2_with fail)
         go_meet
         exact ⟨(y:Int),rfl,by omega,by omega,HST.out⟩
      case rest =>
       clear st;obtain ⟨fq,rfl,fq0,fq1,st⟩:=hcut;(go_upto_region 16 with fail)
       go_cut [98] from 76 to 97 (fun s wx=>∃q:Bool,s=.bool q∧(q=true→¬fa=fb∧usedL ls fa fp=0∧usedL ls fb fq=0∧ls.length < 9)∧LkSt w wx C a0 l0 c0 z0 la lc ls)
       case first =>
        by_cases hab:fa=fb
        ·have hab':(fa != fb)=false:=by simp [hab]
         have HST:=hide st;clear st;(go_wp2_with fail)
         go_meet
         exact ⟨false,rfl,(fun e=>by cases e),HST.out⟩
        ·have hab':(fa != fb)=true:=by simp [hab]
         have x:=zd st.box;obtain ⟨x0,x1,x2⟩:=x;(go_wp2_with fail);refine (zbr ⟨none,0,0,[],la,ls.length,lc,ls,none,0,0,[]⟩ fa fp _ st.row (by have:=HLI.out.len; dsimp only; omega)).mono ?_;rintro e wz ⟨rfl,hbz⟩;have st:=st.later hbz;clear hbz x0 x1 x2;generalize wz=wc at *;by_cases hu1:((usedL ls fa fp:Nat):Int)=0
         ·have x:=zd st.box;obtain ⟨x0,x1,x2⟩:=x;(go_wp2_with fail);refine (zbr ⟨none,0,0,[],la,ls.length,lc,ls,none,0,0,[]⟩ fb fq _ st.row (by have:=HLI.out.len; dsimp only; omega)).mono ?_;rintro e wz ⟨rfl,hbz⟩;have st:=st.later hbz;clear hbz x0 x1 x2;generalize wz=wc at *;by_cases hu2:((usedL ls fb fq:Nat):Int)=0
          ·obtain ⟨x0,x1,x2⟩:=zd st.box;by_cases h9:(ls.length:Int) < 9
           ·have HST:=hide st;clear st;(go_wp2_with fail)
            go_meet
            exact ⟨true,by first | rfl | simp [h9],fun _=>⟨hab,by omega,by omega,by omega⟩,HST.out⟩
           ·have HST:=hide st;clear st;(go_wp2_with fail)
            go_meet
            exact ⟨false,by first | rfl | simp [h9],(fun e=>by cases e),HST.out⟩
          ·have HST:=hide st;clear st;(go_wp2_with fail)
           go_meet
           exact ⟨false,rfl,(fun e=>by cases e),HST.out⟩
         ·have HST:=hide st;clear st;(go_wp2_with fail)
          go_meet
          exact ⟨false,rfl,(fun e=>by cases e),HST.out⟩
       case rest =>
        clear st;obtain ⟨q,rfl,hq,st⟩:=hcut;cases q
        ·have HST:=hide st;clear st hq;go_wp2
         go_roundw
         case rel=>exact ⟨k+1,la,lc,ls,by go_num,by omega,HLI.out,HST.out⟩
         case measure=>simp [intOf]; omega
        ·obtain ⟨hab,hu1,hu2,h9⟩:=hq rfl;have HLI2:Hid (zdC nn pp (ls++[⟨fa,fp,fb,fq⟩])):=hide (HLI.out.push hab ⟨fa0,fa1⟩ ⟨fb0,fb1⟩ ⟨fp0,fp1⟩ ⟨fq0,fq1⟩ hu1 hu2 h9);have HL1:Hid ((ls++[(⟨fa,fp,fb,fq⟩:LK)]).length=ls.length+1):=hide (by rw [List.length_append]; rfl);generalize hwa:wc.alloc (Obj.cells #[.int .i64 fa,.int .i64 fp,.int .i64 fb,.int .i64 fq] 66)=wa;have ba:=zb hwa;have ka:=zk hwa;have gone:GRow linkF wa (some ⟨wc.heap.size,0,none⟩) 1 1 [⟨fa,fp,fb,fq⟩]:=zC (F:=linkF) (zc7 linkF (x:=⟨fa,fp,fb,fq⟩) (base:=0) ka rfl (Nat.zero_le _));obtain ⟨v0,v1,v2⟩:=zd st.box;have st:=st.later ba;have hbA:w.heap.size+1≤wa.heap.size:=Nat.succ_le_of_lt (Array.getElem?_eq_some_iff.1 st.box).1;have HSA:=hide st;have how0:=st.own;obtain ⟨x0,x1,x2⟩:=zd st.box;clear st;go_wp2_with (at_builtin; refine zK (F:=linkF) _ rfl _ _ 25 66 rfl (w.heap.size+1) Tryz.underlying25 zaQ rfl (by decide) _ ls.length ls rfl how0 (some ⟨wc.heap.size,0,none⟩) 1 1 [⟨fa,fp,fb,fq⟩] rfl gone (by omega) hbA ?_)
         intro a7 c7 w7 how hr hgr hb7;have kX:=ze HSA.out.box hgr (fun b e=>zA how0 HSA.out.box (by decide) b e);obtain ⟨y0,y1,y2⟩:=zd kX;have f1:=zf kX 1;rw [← HL1.out] at how;have HS2:=hide (HSA.out.pushed how kX hb7);have HOWL:=hide HL1.out;clear how hr hgr hb7 gone ka hwa ba how0 x0 x1 x2 v0 v1 v2;(go_wp2_with fail);rw [← HL1.out];generalize hws:w7.setCell ⟨w.heap.size,1,none⟩ (.slice a7 (ls++[(⟨fa,fp,fb,fq⟩:LK)]).length c7)=ws;have HS3:=HS2;rw [hws] at HS3;clear HS2 hws kX y0 y1 y2 f1;go_wp2
         go_roundw
         case rel=>exact ⟨k+1,a7,c7,_,by go_num,by omega,HLI2.out,HS3.out⟩
         case measure=>simp [intOf]; omega
  ·have HST:=hide st;obtain ⟨x0,x1,x2⟩:=zd st.box;clear st;go_wp2;go_ret;exact ⟨la,lc,ls,rfl,HLI.out,zH HST.out.own (Nat.le_succ _),HST.out.went⟩

end

end Go.Proofs.YtkaefmfopejbaaaGreat
