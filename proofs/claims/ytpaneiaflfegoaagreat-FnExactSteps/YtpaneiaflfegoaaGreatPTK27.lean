/-
  Packed: SayOn NetOkI NetOkK ToNetO.
-/
import Derived.Test.YtpaneiaflfegoaaGreatPTKW
import Derived.Test.YtpaneiaflfegoaaGreatPTBrOkI
import Derived.Test.YtpaneiaflfegoaaGreatPTK01
import Derived.Test.YtpaneiaflfegoaaGreatPTK03
import Derived.Test.YtpaneiaflfegoaaGreatPTK04
import Derived.Test.YtpaneiaflfegoaaGreatPTK06
import Derived.Test.YtpaneiaflfegoaaGreatPTK07
import Derived.Test.YtpaneiaflfegoaaGreatPTK15
import Derived.Test.YtpaneiaflfegoaaGreatPTK22
import Derived.Test.YtpaneiaflfegoaaGreatPTK24
import Derived.Test.YtpaneiaflfegoaaGreatPTNetOkT
import Derived.Deep.RegionHeld3
namespace Go.Proofs.YtpaneiaflfegoaaGreat
set_option maxRecDepth 100000
set_option maxHeartbeats 16000000
open Go.RowKit

structure Way (x:LK) (back:Bool) (fb fp tb tp:Int):Prop where
 yes:back=true→fb=x.b∧fp=x.q∧tb=x.a∧tp=x.p
 no:back=false→fb=x.a∧fp=x.p∧tb=x.b∧tp=x.q

theorem zcd (x:LK) (back:Bool) (fb fp tb tp:Int) (w:World) (hw:Way x back fb fp tb tp) :
  Calls Tryz.prog 156 #[.agg #[.int .i64 x.a,.int .i64 x.p,.int .i64 x.b,.int .i64 x.q],.bool back] w fun e w'=>e=.returned (.tuple #[.agg #[.int .i64 fb,.int .i64 fp],.agg #[.int .i64 tb,.int .i64 tp]])∧Below w.heap.size w w':=by
 generalize hw1:w.alloc (Obj.cells #[.int .i64 x.a,.int .i64 x.p,.int .i64 x.b,.int .i64 x.q] 98)=w1;generalize hw2:w1.alloc (Obj.cells #[.int .i64 0,.int .i64 0] 164)=w2;generalize hw3:w2.alloc (Obj.cells #[.int .i64 0,.int .i64 0] 164)=w3;have b01:=zb hw1;have b12:=zb hw2;have b23:=zb hw3;have b13:=zc b12 b23;have k0:=za (zk hw1) b13;have k1:=za (zk hw2) b23;have k2:=zk hw3;have b03:=zc b01 b13;have HZ:Hid (w1.heap.size=w.heap.size+1∧w2.heap.size=w.heap.size+2):=hide ⟨by rw [← hw1]; simp,by rw [← hw2,← hw1]; simp⟩;have HZ3:Hid (w3.heap.size=w.heap.size+3):=hide (by rw [← hw3,← hw2,← hw1]; simp);obtain ⟨x0,x1,x2,x3⟩:=zM k0;go_enter Tryz.func156,Tryz.ntmps156;go_wp2_with fail
 refine (zb8 x _).mono ?_;rintro e we ⟨rfl,hbe⟩;generalize hwq:we.alloc (Obj.cells #[.int .i64 x.a,.int .i64 x.p,.int .i64 x.b,.int .i64 x.q] 165)=wq;have bq:=zb hwq;have kE:=zk hwq;have bq:=zc hbe bq;have k1:=za k1 bq;have k2:=za k2 bq;have b0:=zc b03 bq;have HZ4:Hid (w.heap.size+3≤we.heap.size):=hide (by have:=hbe.size; have:=HZ3.out; omega);clear x0 x1 x2 x3 hbe k0 hw1 hw2 hw3 b01 b12 b23 b13 b03;cases back
 ·obtain ⟨rfl,rfl,rfl,rfl⟩:=hw.no rfl;clear hw;(go_upto_region 4 with fail);clear hwq;have vv:Below wq.heap.size wq wq.drew:=zp (Below.refl _ _);have bb:=zc b0 vv;obtain ⟨p0,p1⟩:=zm k1;obtain ⟨p2,p3⟩:=zm k2;have p4:=zf k1 0;have p5:=zf k1 1;have p6:=zf k2 0;have p7:=zf k2 1;have k1:=za k1 vv;have k2:=za k2 vv;have kE:=za kE vv;clear b0 bq vv;refine wp_region_held_drew (S:=(fun W=>(W.cell? ⟨we.heap.size,0,none⟩=some (.int .i64 x.a)∧W.cell? ⟨we.heap.size,1,none⟩=some (.int .i64 x.p)∧W.cell? ⟨we.heap.size,2,none⟩=some (.int .i64 x.b)∧W.cell? ⟨we.heap.size,3,none⟩=some (.int .i64 x.q)))) (by kernel_rfl) (zM kE) (fun hHeld => ?_);refine kK 0 ⟨some 14,.indexAddr 165 (.tmp 6) (.const (.int .i64 0)),0,"l14_step.go:175",#[],none⟩ ?_;refine kK 1 ⟨some 15,.load 164 (.tmp 14),164,"l14_step.go:175",#[⟨0,.data⟩],none⟩ ?_;refine kK 2 ⟨some 16,.indexAddr 165 (.tmp 6) (.const (.int .i64 1)),0,"l14_step.go:175",#[{ on:=4,ground:=Ground.gcOnly Departure.lateStores }],none⟩ ?_;refine kK 3 ⟨some 17,.load 164 (.tmp 16),164,"l14_step.go:175",#[⟨2,.data⟩,{ on:=4,ground:=Ground.gcOnly Departure.lateStores }],none⟩ ?_;refine kR 4 ⟨none,.store 164 (.tmp 4) (.tmp 15),0,"l14_step.go:175",#[⟨1,.data⟩,⟨0,.phase⟩,⟨1,.phase⟩,{ on:=2,ground:=Ground.textOnly Departure.lateStores },{ on:=3,ground:=Ground.textOnly Departure.lateStores }],none⟩ (fun K hK => ?_);obtain ⟨xx0,xx1⟩:=zm k1;have ff0:=zf k1 0;have ff1:=zf k1 1;go_simp;refine zax (K:=K _) k1 _ _ (fun wq kQ hgq => ?_);have bb:=bb.grown hgq bb.size (by intro j e; cases e; have:=HZ.out; omega);have kE:=ze kE hgq (by intro j e; cases e; have:=HZ.out; have:=HZ4.out; omega);(try have k2:=ze k2 hgq (by intro j e; cases e; have:=HZ.out; omega));(try have kA:=ze kA hgq (by intro j e; cases e; have:=HZ.out; omega));(try have kB:=ze kB hgq (by intro j e; cases e; have:=HZ.out; omega));have kA:=kQ;clear hgq kQ xx0 xx1 ff0 ff1;refine hK.out _ _ (zM kE) (fun hHeld => ?_);clear hK K;(try simp only [Act.put,lA,lB,lC]);refine kR 5 ⟨none,.store 164 (.tmp 5) (.tmp 17),0,"l14_step.go:175",#[⟨3,.data⟩,⟨4,.chain⟩,⟨0,.phase⟩,⟨1,.phase⟩,⟨2,.phase⟩,⟨3,.phase⟩,⟨4,.phase⟩],none⟩ (fun K hK => ?_);obtain ⟨xx0,xx1⟩:=zm k2;have ff0:=zf k2 0;have ff1:=zf k2 1;go_simp;refine zax (K:=K _) k2 _ _ (fun wq kQ hgq => ?_);have bb:=bb.grown hgq bb.size (by intro j e; cases e; have:=HZ.out; omega);have kE:=ze kE hgq (by intro j e; cases e; have:=HZ.out; have:=HZ4.out; omega);(try have k1:=ze k1 hgq (by intro j e; cases e; have:=HZ.out; omega));(try have kA:=ze kA hgq (by intro j e; cases e; have:=HZ.out; omega));(try have kB:=ze kB hgq (by intro j e; cases e; have:=HZ.out; omega));have kB:=kQ;clear hgq kQ xx0 xx1 ff0 ff1;refine hK.out _ _ (zM kE) (fun hHeld => ?_);clear hK K;(try simp only [Act.put,lA,lB,lC]);refine wpAnyH_done (by kernel_rfl) ?_ _;have HB:=hide bb;obtain ⟨r0,r1⟩:=zm kA;obtain ⟨t0,t1⟩:=zm kB;clear hHeld kE k1 k2 kA kB bb;go_wp2;exact bodyPost_ret (v:=.tuple #[.agg #[.int .i64 x.a,.int .i64 x.p],.agg #[.int .i64 x.b,.int .i64 x.q]]) (by simp [results,Tryz.results156,go_sem, *]) rfl ⟨rfl,HB.out⟩
 ·obtain ⟨rfl,rfl,rfl,rfl⟩:=hw.yes rfl;clear hw;(go_upto_region 3 with fail);clear hwq;have vv:Below wq.heap.size wq wq.drew:=zp (Below.refl _ _);have bb:=zc b0 vv;obtain ⟨p0,p1⟩:=zm k1;obtain ⟨p2,p3⟩:=zm k2;have p4:=zf k1 0;have p5:=zf k1 1;have p6:=zf k2 0;have p7:=zf k2 1;have k1:=za k1 vv;have k2:=za k2 vv;have kE:=za kE vv;clear b0 bq vv;refine wp_region_held_drew (S:=(fun W=>(W.cell? ⟨we.heap.size,0,none⟩=some (.int .i64 x.a)∧W.cell? ⟨we.heap.size,1,none⟩=some (.int .i64 x.p)∧W.cell? ⟨we.heap.size,2,none⟩=some (.int .i64 x.b)∧W.cell? ⟨we.heap.size,3,none⟩=some (.int .i64 x.q)))) (by kernel_rfl) (zM kE) (fun hHeld => ?_);refine kK 0 ⟨some 10,.indexAddr 165 (.tmp 6) (.const (.int .i64 1)),0,"l14_step.go:173",#[],none⟩ ?_;refine kK 1 ⟨some 11,.load 164 (.tmp 10),164,"l14_step.go:173",#[⟨0,.data⟩],none⟩ ?_;refine kK 2 ⟨some 12,.indexAddr 165 (.tmp 6) (.const (.int .i64 0)),0,"l14_step.go:173",#[{ on:=4,ground:=Ground.gcOnly Departure.lateStores }],none⟩ ?_;refine kK 3 ⟨some 13,.load 164 (.tmp 12),164,"l14_step.go:173",#[⟨2,.data⟩,{ on:=4,ground:=Ground.gcOnly Departure.lateStores }],none⟩ ?_;refine kR 4 ⟨none,.store 164 (.tmp 4) (.tmp 11),0,"l14_step.go:173",#[⟨1,.data⟩,⟨0,.phase⟩,⟨1,.phase⟩,{ on:=2,ground:=Ground.textOnly Departure.lateStores },{ on:=3,ground:=Ground.textOnly Departure.lateStores }],none⟩ (fun K hK => ?_);obtain ⟨xx0,xx1⟩:=zm k1;have ff0:=zf k1 0;have ff1:=zf k1 1;go_simp;refine zax (K:=K _) k1 _ _ (fun wq kQ hgq => ?_);have bb:=bb.grown hgq bb.size (by intro j e; cases e; have:=HZ.out; omega);have kE:=ze kE hgq (by intro j e; cases e; have:=HZ.out; have:=HZ4.out; omega);(try have k2:=ze k2 hgq (by intro j e; cases e; have:=HZ.out; omega));(try have kA:=ze kA hgq (by intro j e; cases e; have:=HZ.out; omega));(try have kB:=ze kB hgq (by intro j e; cases e; have:=HZ.out; omega));have kA:=kQ;clear hgq kQ xx0 xx1 ff0 ff1;refine hK.out _ _ (zM kE) (fun hHeld => ?_);clear hK K;(try simp only [Act.put,lA,lB,lC]);refine kR 5 ⟨none,.store 164 (.tmp 5) (.tmp 13),0,"l14_step.go:173",#[⟨3,.data⟩,⟨4,.chain⟩,⟨0,.phase⟩,⟨1,.phase⟩,⟨2,.phase⟩,⟨3,.phase⟩,⟨4,.phase⟩],none⟩ (fun K hK => ?_);obtain ⟨xx0,xx1⟩:=zm k2;have ff0:=zf k2 0;have ff1:=zf k2 1;go_simp;refine zax (K:=K _) k2 _ _ (fun wq kQ hgq => ?_);have bb:=bb.grown hgq bb.size (by intro j e; cases e; have:=HZ.out; omega);have kE:=ze kE hgq (by intro j e; cases e; have:=HZ.out; have:=HZ4.out; omega);(try have k1:=ze k1 hgq (by intro j e; cases e; have:=HZ.out; omega));(try have kA:=ze kA hgq (by intro j e; cases e; have:=HZ.out; omega));(try have kB:=ze kB hgq (by intro j e; cases e; have:=HZ.out; omega));have kB:=kQ;clear hgq kQ xx0 xx1 ff0 ff1;refine hK.out _ _ (zM kE) (fun hHeld => ?_);clear hK K;(try simp only [Act.put,lA,lB,lC]);refine wpAnyH_done (by kernel_rfl) ?_ _;have HB:=hide bb;obtain ⟨r0,r1⟩:=zm kA;obtain ⟨t0,t1⟩:=zm kB;clear hHeld kE k1 k2 kA kB bb;go_wp2;exact bodyPost_ret (v:=.tuple #[.agg #[.int .i64 x.b,.int .i64 x.q],.agg #[.int .i64 x.a,.int .i64 x.p]]) (by simp [results,Tryz.results156,go_sem, *]) rfl ⟨rfl,HB.out⟩

theorem zdl (N:NV) (k i:Nat) (x:LK) (y:BV) (back:Bool) (fp tb tp:Int) (w:World) (h:zae w N) (hx:N.ls[k]?=some x) (hy0:N.bs[i]?=some y) (hwy:Way x back (i:Int) fp tb tp) :
  Calls Tryz.prog 125 #[.agg #[.slice N.ba N.bn N.bc,.slice N.la N.ln N.lc,.slice N.sa N.sn N.sc],.int .i64 (k:Int),.bool back] w fun e w'=>e=.returned (.agg #[.int .i64 (k:Int),.bool back,.int .i64 (sayV y.B.id y.B.ports fp).r,.int .i64 (sayV y.B.id y.B.ports fp).c,.int .i64 (sayV y.B.id y.B.ports fp).h,.int .i64 (sayV y.B.id y.B.ports fp).b,.int .i64 (sayV y.B.id y.B.ports fp).p])∧Below w.heap.size w w':=by
 have hk:k < N.ln:=by have:=(List.getElem?_eq_some_iff.1 hx).1; have:=h.l.size; omega
 have hib:i < N.bn:=by have:=(List.getElem?_eq_some_iff.1 hy0).1; have:=h.b.size; omega
 have hle:=Nat.le_trans h.b.le h.b.top;unfold maxLen at hle;generalize hw1:w.alloc (Obj.cells #[.slice N.ba N.bn N.bc,.slice N.la N.ln N.lc,.slice N.sa N.sn N.sc] 34)=w1;generalize hw2:w1.alloc (Obj.cells #[.int .i64 0,.bool false,.int .i64 0,.int .i64 0,.int .i64 0,.int .i64 0,.int .i64 0] 105)=w2;have b01:=zb hw1;have b12:=zb hw2;have b02:=zc b01 b12;have kP:=za (zk hw1) b12;have kJ:=zk hw2;have HZ1:Hid (w1.heap.size=w.heap.size+1):=hide (by rw [← hw1]; simp);have HZ2:Hid (w2.heap.size=w.heap.size+2):=hide (by rw [← hw2,← hw1]; simp);obtain ⟨x',lb,lo,hx',hla,a0,a1,a2,a3⟩:=zaw (h.l.below b02) k hk;rw [hx] at hx';cases hx';obtain ⟨y',bb,off,hy',hba,-⟩:=br_at h.b i hib;rw [hy0] at hy';cases hy';have hy:=h.item y (List.mem_of_getElem? hy0);have hG:GRow brF w (some ⟨bb,off,none⟩) N.bn N.bc N.bs:=by rw [← hba]; exact h.b
 have HBC:Hid (∀W,Below w.heap.size w W→W.cell? ⟨bb,off+i*11,none⟩=some (.int .i64 y.B.id)∧W.cell? ⟨bb,off+i*11+2,none⟩=some (.slice y.a y.n y.c)):=hide (fun W hW=>by have:=zO hG hW hy0; exact ⟨this.1,this.2.2.1⟩);have HBA:=hide hba;obtain ⟨x0,x1,x2⟩:=zd kP;rw [hla] at x1;have i1:(0:Int)≤(k:Int):=by omega
 have i2:(k:Int) < (N.ln:Int):=by omega
 clear hla hba hx hy0 hG b01 b12;go_enter Tryz.func125,Tryz.ntmps125;go_wp2_with fail
 refine (zcd x back (i:Int) fp tb tp _ hwy).mono ?_;rintro e w4 ⟨rfl,b24⟩;generalize hz5:w4.alloc (Obj.cells #[.int .i64 0,.int .i64 0] 164)=z5;generalize hz6:z5.alloc (Obj.cells #[.int .i64 0,.int .i64 0] 164)=z6;have b45:=zb hz5;have b56:=zb hz6;have kF:=za (zk hz5) b56;have kG:=zk hz6;have HZ5:Hid (z5.heap.size=w4.heap.size+1):=hide (by rw [← hz5]; simp);obtain ⟨p0,p1⟩:=zm kF;obtain ⟨p2,p3⟩:=zm kG;have p4:=zf kF 0;have p5:=zf kF 1;have p6:=zf kG 0;have p7:=zf kG 1;have ne1:¬w4.heap.size=z5.heap.size:=by have:=HZ5.out; omega
 have ne2:¬z5.heap.size=w4.heap.size:=by have:=HZ5.out; omega
 have b26:=zc b24 (zc b45 b56);have kP:=za kP b26;have kJ:=za kJ b26;have b06:=zc b02 b26;have HZ4:Hid (w.heap.size+2≤w4.heap.size):=hide (by have:=b24.size; have:=HZ2.out; omega);clear x0 x1 x2 a0 a1 a2 a3 b24 b45 b56 b26 b02 hw1 hw2;go_upto_region 2 with fail
 generalize hw6:(((z6.setCell ⟨w4.heap.size,0,none⟩ (.int .i64 (i:Int))).setCell ⟨w4.heap.size,1,none⟩ (.int .i64 fp)).setCell ⟨z5.heap.size,0,none⟩ (.int .i64 tb)).setCell ⟨z5.heap.size,1,none⟩ (.int .i64 tp)=w6;obtain ⟨w5,hw5⟩:∃w5:World,w5=(z6.setCell ⟨w4.heap.size,0,none⟩ (.int .i64 (i:Int))).setCell ⟨w4.heap.size,1,none⟩ (.int .i64 fp):=⟨_,rfl⟩;have kF5:w5.heap[w4.heap.size]?=some (.cells #[.int .i64 (i:Int),.int .i64 fp] 164):=by rw [hw5]; exact zax (K:=fun W=>W.heap[w4.heap.size]?=some (.cells #[.int .i64 (i:Int),.int .i64 fp] 164)) kF _ _ (fun wq kQ _=>kQ)
 have hgA:z6.grownBy w5 (some w4.heap.size):=by rw [hw5]; exact zz (zg 0 _) (zg 1 _)
 have hgB:w5.grownBy w6 (some z5.heap.size):=by rw [← hw6,← hw5]; exact zz (zg 0 _) (zg 1 _)
 have kF:=ze kF5 hgB (by intro j e; cases e; exact ne2);have kP:=ze (ze kP hgA (by intro j e; cases e; have:=HZ4.out; omega)) hgB (by intro j e; cases e; have:=HZ4.out; have:=HZ5.out; omega);have kJ:=ze (ze kJ hgA (by intro j e; cases e; have:=HZ4.out; have:=HZ1.out; omega)) hgB (by intro j e; cases e; have:=HZ4.out; have:=HZ5.out; have:=HZ1.out; omega);have b06:=(b06.grown hgA b06.size (by intro j e; cases e; have:=HZ4.out; omega)).grown hgB (Nat.le_trans b06.size hgA.size) (by intro j e; cases e; have:=HZ4.out; have:=HZ5.out; omega);clear hw6 hw5 hgA hgB kF5 p0 p1 p2 p3 p4 p5 p6 p7 kG hz5 hz6 ne1 ne2;obtain ⟨x0,x1,x2⟩:=zd kP;obtain ⟨e0,e1⟩:=zm kF;go_wp2_with fail
 refine (zbi N i bb off _ hle hib HBA.out).mono ?_;rintro e w7 ⟨rfl,b67⟩;have kF:=za kF b67;have kJ:=za kJ b67;have b0:=zc b06 b67;clear x0 x1 x2 e0 e1 b67 b06 kP hwy;have vv:Below w7.heap.size w7 w7.drew:=zp (Below.refl _ _);have kF:=za kF vv;have kJ:=za kJ vv;have hc:=HBC.out _ (zc b0 vv);go_upto_region 3 with fail
 refine wp_region_held_drew (S:=(fun W=>(W.cell? ⟨w4.heap.size,0,none⟩=some (.int .i64 (i:Int))∧W.cell? ⟨w4.heap.size,1,none⟩=some (.int .i64 fp))∧(W.cell? ⟨bb,off+i*11,none⟩=some (.int .i64 y.B.id)∧W.cell? ⟨bb,off+i*11+2,none⟩=some (.slice y.a y.n y.c)))) (by kernel_rfl) (⟨zm kF,hc⟩) (fun hHeld => ?_);refine kK 0 ⟨some 24,.move (.tmp 1),3,"l14_step.go:182",#[],none⟩ ?_;refine kK 1 ⟨some 25,.move (.tmp 2),4,"l14_step.go:182",#[],none⟩ ?_;refine kK 2 ⟨some 26,.move (.tmp 9),176,"l14_step.go:182",#[],none⟩ ?_;refine kK 3 ⟨some 27,.nilCheck (.tmp 26),0,"l14_step.go:182",#[⟨2,.data⟩],none⟩ ?_;refine kK 4 ⟨some 28,.fieldAddr 64 (.tmp 27) 0,0,"l14_step.go:182",#[⟨3,.data⟩],none⟩ ?_;refine kK 5 ⟨some 29,.load 3 (.tmp 28),3,"l14_step.go:182",#[⟨4,.data⟩],none⟩ ?_;refine kK 6 ⟨some 30,.move (.tmp 9),176,"l14_step.go:182",#[],none⟩ ?_;refine kK 7 ⟨some 31,.nilCheck (.tmp 30),0,"l14_step.go:182",#[⟨6,.data⟩],none⟩ ?_;refine kK 8 ⟨some 32,.fieldAddr 64 (.tmp 31) 2,0,"l14_step.go:182",#[⟨7,.data⟩],none⟩ ?_;refine kK 9 ⟨some 33,.load 57 (.tmp 32),57,"l14_step.go:182",#[⟨8,.data⟩],none⟩ ?_;refine kK 10 ⟨some 34,.fieldAddr 164 (.tmp 7) 1,0,"l14_step.go:182",#[],none⟩ ?_;refine kK 11 ⟨some 35,.load 3 (.tmp 34),3,"l14_step.go:182",#[⟨10,.data⟩],none⟩ ?_;refine kR 12 ⟨some 36,.call ⟨.value (.func 157),#[.tmp 29,.tmp 33,.tmp 35],#[3,57,3]⟩,101,"l14_step.go:182",#[⟨5,.data⟩,⟨9,.data⟩,⟨11,.data⟩],none⟩ (fun K hK => ?_);go_simp;refine (zb2 y.B.id y.a y.n y.c y.B.ports fp _ (hy.ports.below (zc b0 vv))).mono ?_;rintro e wz ⟨rfl,hbz⟩;have vv:=zc vv hbz;have kF:=za kF hbz;have kJ:=za kJ hbz;have hc:=HBC.out _ (zc b0 vv);generalize hSV:sayV y.B.id y.B.ports fp=SV at *;go_wp2_with fail
 refine hK.out _ _ (⟨zm kF,hc⟩) (fun hHeld => ?_);clear hK K
 try simp only [Act.put,lA,lB,lC]
 refine kK 13 ⟨some 37,.build 105 #[(0,.tmp 24),(1,.tmp 25),(2,.tmp 36)],105,"l14_step.go:182",#[⟨0,.data⟩,⟨1,.data⟩,⟨12,.data⟩],none⟩ ?_;refine kR 14 ⟨none,.store 105 (.tmp 6) (.tmp 37),0,"l14_step.go:182",#[⟨13,.data⟩,⟨12,.chain⟩,⟨0,.phase⟩,⟨1,.phase⟩,⟨2,.phase⟩,⟨3,.phase⟩,⟨4,.phase⟩,⟨5,.phase⟩,⟨6,.phase⟩,⟨7,.phase⟩,⟨8,.phase⟩,⟨9,.phase⟩,⟨10,.phase⟩,⟨11,.phase⟩,⟨12,.phase⟩,⟨13,.phase⟩],none⟩ (fun K hK => ?_);obtain ⟨xx0,xx1,xx2,xx3,xx4,xx5,xx6⟩:=zU kJ;have ff0:=zf kJ 0;have ff1:=zf kJ 1;have ff2:=zf kJ 2;have ff3:=zf kJ 3;have ff4:=zf kJ 4;have ff5:=zf kJ 5;have ff6:=zf kJ 6;go_simp;refine zgx (K:=K _) kJ _ _ _ _ _ _ _ (fun wq kQ hgq => ?_);have bq:=(zc b0 vv).grown hgq (zc b0 vv).size (by intro j e; cases e; have:=HZ1.out; omega);have kF:=ze kF hgq (by intro j e; cases e; have:=HZ1.out; have:=HZ4.out; omega);have hc:=HBC.out _ bq;refine hK.out _ _ (⟨zm kF,hc⟩) (fun hHeld => ?_);clear hK K
 try simp only [Act.put,lA,lB,lC]
 refine wpAnyH_done (by kernel_rfl) ?_ _;have HB:=hide bq;obtain ⟨r0,r1,r2,r3,r4,r5,r6⟩:=zU kQ;clear hHeld kF kQ hgq bq vv hc kJ xx0 xx1 xx2 xx3 xx4 xx5 xx6 ff0 ff1 ff2 ff3 ff4 ff5 ff6;go_wp2;exact bodyPost_ret (v:=.agg #[.int .i64 (k:Int),.bool back,.int .i64 SV.r,.int .i64 SV.c,.int .i64 SV.h,.int .i64 SV.b,.int .i64 SV.p]) (by simp [results,Tryz.results125,go_sem, *]) rfl ⟨by rw [hSV],HB.out⟩

theorem zjd (x:BV) (id:Int) (g:Nat) (w:World) (c:w.cell? ⟨g,0,none⟩=some (.int .i64 id)) :
  Calls Tryz.prog 115 #[.agg #[.int .i64 x.B.id,.string x.B.name,.slice x.a x.n x.c,.slice x.fa x.fn x.fc,.slice x.ra x.rn x.rc,.slice x.oa x.on x.oc,.int .i64 x.B.ticks,.int .i64 x.B.parse,.int .i64 x.B.word,.int .i64 x.B.drops,.int .i64 x.B.vers],.pointer (some ⟨g,0,none⟩)] w fun e w'=>e=.returned (.bool (decide (x.B.id=id)))∧Below w.heap.size w w':=by
 generalize hw1:w.alloc (Obj.cells #[.int .i64 x.B.id,.string x.B.name,.slice x.a x.n x.c,.slice x.fa x.fn x.fc,.slice x.ra x.rn x.rc,.slice x.oa x.on x.oc,.int .i64 x.B.ticks,.int .i64 x.B.parse,.int .i64 x.B.word,.int .i64 x.B.drops,.int .i64 x.B.vers] 64)=w1;have b1:=zb hw1;have k1:=zk hw1;obtain ⟨c0,c1,c2,c3,c4,c5,c6,c7,c8,c9,c10⟩:=zo k1;have cg:=(b1.cell (zF c)).trans c;clear c;by_cases he:x.B.id=id
 ·have HE:=hide he;clear he;go_enter Tryz.func115,Tryz.ntmps115;go_wp2;go_ret;exact ⟨zK (by rw [HE.out]; simp),b1⟩
 ·have HE:=hide he;clear he;go_enter Tryz.func115,Tryz.ntmps115;go_wp2;go_ret;exact ⟨zK (by have:=HE.out; simp [this]),b1⟩

theorem zhq (a:Option Addr) (n c:Nat) (l:List BV) (id:Int) (g:Nat) (w:World) (h:GRow brF w a n c l) (cg:w.cell? ⟨g,0,none⟩=some (.int .i64 id)) :
  Calls Tryz.prog 152 #[.slice a n c,.func (.func 115) #[] #[.pointer (some ⟨g,0,none⟩)]] w fun e w'=>∃k:Int,e=.returned (.int .i64 k)∧(0≤k↔∃y∈l,y.B.id=id)∧Below w.heap.size w w':=by
 have hle:=h.le;have htop:=h.top;unfold maxLen at htop;have hsz:=h.size;go_enter Tryz.func152,Tryz.ntmps152;go_wp2
 go_loopw [8] (fun i wr=>∃k:Nat,k≤n∧i=.int .i64 k∧(∀y∈l.take k,¬y.B.id=id)∧Below w.heap.size w wr) (fun i _=>n - (intOf i).toNat)
 case atStart=>exact ⟨0,Nat.zero_le _,rfl,by intro y hy; simp at hy,Below.refl _ _⟩
 case round =>
  obtain ⟨k,hk,rfl,hno,hb⟩:=hrel;by_cases hlt:k < n
  ·obtain ⟨x,b,off,hx,rfl,ca0,ca1,ca2,ca3,ca4,ca5,ca6,ca7,ca8,ca9,ca10⟩:=br_at (h.below hb) k hlt;have HX:=hide hx;have HN:=hide hno;have HB:=hide hb;clear hno hb hx;(go_wp2_with fail);refine (zjd x id g _ ((HB.out.cell (zF cg)).trans cg)).mono ?_;rintro r w1 ⟨rfl,hb1⟩;have HB1:=hide (zc HB.out hb1);clear hb1 ca0 ca1 ca2 ca3 ca4 ca5 ca6 ca7 ca8 ca9 ca10;by_cases t1:x.B.id=id
   ·have HF:Hid (∃y∈l,y.B.id=id):=hide ⟨x,List.mem_of_getElem? HX.out,t1⟩;rw [decide_eq_true t1];clear t1;go_wp2;go_ret;exact ⟨(k:Int),rfl,⟨fun _=>HF.out,fun _=>by omega⟩,HB1.out⟩
   ·have HO:=hide (zbI (P:=fun y:BV=>¬y.B.id=id) HX.out HN.out t1);rw [decide_eq_false t1];clear t1;go_wp2
    go_roundw
    case rel=>exact ⟨k+1,by omega,by go_num,HO.out,HB1.out⟩
    case measure=>simp [intOf]; omega
  ·have hkn:k=n:=by omega
   rw [List.take_of_length_le (by omega)] at hno;have HN:=hide hno;clear hno;subst hkn;go_wp2;go_ret;exact ⟨-1,rfl,⟨fun e=>by omega,fun ⟨y,hy,e⟩=>absurd e (HN.out y hy)⟩,hb⟩

theorem zeJ (a:Option Addr) (n c:Nat) (l:List BV) (id:Int) (g:Nat) (w:World) (h:GRow brF w a n c l) (cg:w.cell? ⟨g,0,none⟩=some (.int .i64 id)) :
  Calls Tryz.prog 117 #[.slice a n c,.func (.func 115) #[] #[.pointer (some ⟨g,0,none⟩)]] w fun e w'=>Says (∃y∈l,y.B.id=id) w e w':=by
 go_enter Tryz.func117,Tryz.ntmps117;go_wp2_with fail
 refine (zhq a n c l id g _ h cg).mono ?_;rintro e w1 ⟨k,rfl,hk,hb⟩;have HK:=hide hk;clear hk;go_wp2;go_ret;exact ⟨decide (0≤k),zK (by simp),by rw [← HK.out]; simp,hb⟩

theorem zeg (a:Option Addr) (n c:Nat) (l:List BV) (w:World) (h:GRow brF w a n c l) (hr:∀x∈l,x.Reads w) (hm:∀x∈l,x.fn≤16777216) (hR:∀x∈l,∀r∈x.B.v.rows,r.Rng) :
  Calls Tryz.prog 66 #[.slice a n c] w fun e w'=>Says (zaQ (l.map BV.B)) w e w':=by
 have hle:=h.le;have htop:=h.top;unfold maxLen at htop;have hsz:=h.size;have hlen:(l.map BV.B).length=n:=by simp [hsz]
 have hat:∀{i:Nat} {x:BV},l[i]?=some x→(l.map BV.B)[i]?=some x.B:=fun hx=>by rw [List.getElem?_map,hx]; rfl
 generalize hbs:l.map BV.B=bs at *;cases hA:(decide (1≤(n:Int)) && decide ((n:Int)≤6))
 ·have HNO:Hid ((false=true)↔zaQ bs):=hide (zaF fun hp=>by have h1:=hp.2.2.1; have h2:=hp.2.2.2; simp at hA; omega);go_enter Tryz.func66,Tryz.ntmps66;(go_wp2_with fail);refine (zE (n:Int) 1 6 _).mono ?_;rintro e w2 ⟨rfl,ew⟩;obtain rfl:=ew.symm;rw [hA];clear hA;go_wp2;go_ret;exact ⟨false,rfl,HNO.out,Below.refl _ _⟩
 have hn6:1≤n∧n≤6:=by simp at hA; omega
 go_enter Tryz.func66,Tryz.ntmps66;go_wp2_with fail
 refine (zE (n:Int) 1 6 _).mono ?_;rintro e w2 ⟨rfl,ew⟩;obtain rfl:=ew.symm;rw [hA];clear hA;go_wp2_with fail
 go_loopw [12] (fun i wr=>∃k:Nat,k≤n∧i=.int .i64 k∧(∀y∈bs.take k,zG y=true)∧(∀(i j:Nat) (x y:BR),i < j→j < k→bs[i]?=some x→bs[j]?=some y→x.id≠y.id)∧Below w.heap.size w wr) (fun i _=>n - (intOf i).toNat)
 case atStart=>exact ⟨0,Nat.zero_le _,rfl,by intro y hy; simp at hy,by intro i j x y _ hj; omega,Below.refl _ _⟩
 case round =>
  obtain ⟨k,hk,rfl,hok,hid,hb⟩:=hrel;by_cases hlt:k < n
  ·obtain ⟨x,b,off,hx,rfl,ca0,ca1,ca2,ca3,ca4,ca5,ca6,ca7,ca8,ca9,ca10⟩:=br_at (h.below hb) k hlt;have hmem:=List.mem_of_getElem? hx;have HBX:=hide (hat hx);have HOK:=hide hok;have HID:=hide hid;generalize hwa:wr.alloc (Obj.cells #[.int .i64 x.B.id,.string x.B.name,.slice x.a x.n x.c,.slice x.fa x.fn x.fc,.slice x.ra x.rn x.rc,.slice x.oa x.on x.oc,.int .i64 x.B.ticks,.int .i64 x.B.parse,.int .i64 x.B.word,.int .i64 x.B.drops,.int .i64 x.B.vers] 64)=wa;have ba:=zb hwa;have ka:=zk hwa;have b0a:=zc hb ba;obtain ⟨c0,c1,c2,c3,c4,c5,c6,c7,c8,c9,c10⟩:=zo ka;have i1:(0:Int)≤(k:Int):=by omega
   have i2:(k:Int) < (n:Int):=by omega
   have hrx:=hr x hmem;clear hok hid hx;(go_wp2_with fail);refine (zbb x.a x.n x.c x.fa x.fn x.fc x.ra x.rn x.rc x.oa x.on x.oc x.B _ (hrx.below b0a) (hm x hmem) (hR x hmem)).mono ?_;rintro e w3 ⟨rfl,hb3⟩;have k3:=za ka hb3;have b03:=zc b0a hb3;generalize hRR:wr.heap.size=G at *;clear c0 c1 c2 c3 c4 c5 c6 c7 c8 c9 c10 ca0 ca1 ca2 ca3 ca4 ca5 ca6 ca7 ca8 ca9 ca10 ka ba hb3 b0a hwa;cases hB:zG x.B
   ·have HNO:Hid ((false=true)↔zaQ bs):=hide (zaF fun hp=>by have:=hp.1 x.B (List.mem_of_getElem? HBX.out); rw [hB] at this; cases this);go_wp2;go_ret;exact ⟨false,rfl,HNO.out,b03⟩
   ·have HOK':=hide (zbI HBX.out HOK.out hB);have hkc:(k:Int)≤(c:Int):=by omega
    obtain ⟨c0,c1,c2,c3,c4,c5,c6,c7,c8,c9,c10⟩:=zo k3;(go_wp2_with fail);refine (zeJ (some ⟨b,off,none⟩) k c (l.take k) x.B.id G _ ((GRow.take h (by omega)).below b03) c0).mono ?_;rintro e w4 ⟨q,rfl,hq,hb4⟩;have HB4:=hide (zc b03 hb4);have HQ:=hide hq;clear hq hb4 c0 c1 c2 c3 c4 c5 c6 c7 c8 c9 c10 k3;cases q
    ·have HID':Hid (∀(i j:Nat) (u v:BR),i < j→j < k+1→bs[i]?=some u→bs[j]?=some v→u.id≠v.id):=hide (fun i j u v hij hj hu hv=>by
      by_cases hjm:j=k
      ·subst hjm;rw [HBX.out] at hv;cases hv;intro he
       have:∃y∈l.take j,y.B.id=x.B.id:=by
        rw [← hbs,List.getElem?_map] at hu;cases hy:l[i]? with
        | none=>rw [hy] at hu; cases hu
        | some y =>
         rw [hy] at hu;cases hu;exact ⟨y,List.mem_of_getElem? (by rw [List.getElem?_take_of_lt hij]; exact hy),he⟩
       have:=HQ.out.2 this
       cases this
      ·exact HID.out i j u v hij (by omega) hu hv)
     go_wp2
     go_roundw
     case rel=>exact ⟨k+1,by omega,by go_num,HOK'.out,HID'.out,HB4.out⟩
     case measure=>simp [intOf]; omega
    ·have HNO:Hid ((false=true)↔zaQ bs):=hide (zaF fun hp=>by
      obtain ⟨y,hy,he⟩:=HQ.out.1 rfl;obtain ⟨i,hi⟩:=List.getElem?_of_mem hy;have hik:i < k:=by have:=(List.getElem?_eq_some_iff.1 hi).1; rw [List.length_take] at this; omega
      rw [List.getElem?_take_of_lt hik] at hi;exact hp.2.1 i k _ _ hik (hat hi) HBX.out he)
     go_wp2;go_ret;exact ⟨false,rfl,HNO.out,HB4.out⟩
  ·have hkn:k=n:=by omega
   rw [List.take_of_length_le (by omega)] at hok;have HP:Hid (zaQ bs):=hide ⟨hok,fun i j x y hij hx hy=>hid i j x y hij (by have:=(List.getElem?_eq_some_iff.1 hy).1; omega) hx hy,by omega,by omega⟩;clear hok hid;subst hkn;go_wp2;go_ret;exact ⟨true,rfl,zdE HP.out,hb⟩

theorem zej (N:NV) (w:World) (h:zae w N) :
  Calls Tryz.prog 68 #[.agg #[.slice N.ba N.bn N.bc,.slice N.la N.ln N.lc,.slice N.sa N.sn N.sc]] w fun e w'=>Says (Quiet N.brs N.ls) w e w':=by
 obtain ⟨ba,bn,bc,bs,la,ln,lc,ls,sa,sn,sc,ss⟩:=N;have hG:=h.b;have hle:=Nat.le_trans hG.le hG.top;unfold maxLen at hle;have hsz:=hG.size;have hat:∀{i:Nat} {x:BV},bs[i]?=some x→(bs.map BV.B)[i]?=some x.B:=fun hx=>by rw [List.getElem?_map,hx]; rfl
 have hlen:(bs.map BV.B).length=bn:=by simp; exact hsz
 have hitem:∀x∈bs,x.Reads w:=h.item;have HH:=hide h;clear h;generalize hbR:NV.brs ⟨ba,bn,bc,bs,la,ln,lc,ls,sa,sn,sc,ss⟩=bR;have hbR':bs.map BV.B=bR:=hbR;rw [hbR'] at hat hlen;clear hbR hbR';dsimp only at hG hle hsz ⊢;generalize hw1:w.alloc (Obj.cells #[.slice ba bn bc,.slice la ln lc,.slice sa sn sc] 34)=w1;have b01:=zb hw1;have k1:=zk hw1;obtain ⟨x0,x1,x2⟩:=zd k1;go_enter Tryz.func68,Tryz.ntmps68;go_wp2_with fail
 clear hw1 x0 x1 x2
 go_loopw [13] (fun i wr=>∃k:Nat,k≤bn∧i=.int .i64 k∧(∀(i:Nat) (B:BR),i < k→bR[i]?=some B→zd0 ls i B)∧wr.heap[w.heap.size]?=some (.cells #[.slice ba bn bc,.slice la ln lc,.slice sa sn sc] 34)∧Below w.heap.size w wr) (fun i _=>bn - (intOf i).toNat)
 case atStart=>exact ⟨0,Nat.zero_le _,rfl,by intro i B hi; omega,k1,b01⟩
 case round =>
  obtain ⟨k,hk,rfl,hqt,hbox,hb⟩:=hrel;clear k1 b01;by_cases hlt:k < bn
  ·obtain ⟨x,bb,off,hx,rfl,ca0,ca1,ca2,ca3,ca4,ca5,ca6,ca7,ca8,ca9,ca10⟩:=br_at (hG.below hb) k hlt;have hrow:=hitem x (List.mem_of_getElem? hx);have hpl:=Nat.le_trans hrow.ports.le hrow.ports.top;unfold maxLen at hpl;have hps:=hrow.ports.size;have i1:(0:Int)≤(k:Int):=by omega
   have i2:(k:Int) < (bn:Int):=by omega
   have HBX:=hide (hat hx);have HQT:=hide hqt;generalize hwa:wr.alloc (Obj.cells #[.int .i64 x.B.id,.string x.B.name,.slice x.a x.n x.c,.slice x.fa x.fn x.fc,.slice x.ra x.rn x.rc,.slice x.oa x.on x.oc,.int .i64 x.B.ticks,.int .i64 x.B.parse,.int .i64 x.B.word,.int .i64 x.B.drops,.int .i64 x.B.vers] 64)=wa;have ba9:=zb hwa;have ka:=zk hwa;have kNe:=za hbox ba9;have b0a:=zc hb ba9;obtain ⟨c0,c1,c2,c3,c4,c5,c6,c7,c8,c9,c10⟩:=zo ka;clear hx hqt hbox;(go_wp2_with fail);clear c0 c1 c2 c3 c4 c5 c6 c7 c8 c9 c10 ca0 ca1 ca2 ca3 ca4 ca5 ca6 ca7 ca8 ca9 ca10 ka ba9 hwa hb
   go_loopw [21] (fun i wr=>∃p:Nat,p≤x.n∧i=.int .i64 p∧(∀(i:Nat) (y:PT),i < p→x.B.ports[i]?=some y→y.has=true→usedL ls (k:Int) (i:Int)≠0)∧wr.heap[w.heap.size]?=some (.cells #[.slice (some ⟨bb,off,none⟩) bn bc,.slice la ln lc,.slice sa sn sc] 34)∧Below w.heap.size w wr) (fun i _=>x.n - (intOf i).toNat)
   case atStart=>exact ⟨0,Nat.zero_le _,rfl,by intro i y hi; omega,kNe,b0a⟩
   case round =>
    obtain ⟨p,hp,rfl,hq,hbox5,hb5⟩:=hrel;clear kNe b0a;by_cases hpn:p < x.n
    ·obtain ⟨y,pb,po,hy,hpa,d0,d1,d2,d3,d4,d5,d6,d7⟩:=pt_at (hrow.ports.below hb5) p hpn;obtain ⟨xa,xn,xc,xfa,xfn,xfc,xra,xrn,xrc,xoa,xon,xoc,xB⟩:=x;dsimp only at hpa hpn hp hrow hpl hps HBX hq hy ⊢;subst hpa;have i3:(0:Int)≤(p:Int):=by omega
     have i4:(p:Int) < (xn:Int):=by omega
     have HQ:=hide hq;have HY:=hide hy;generalize hwb:wr.alloc (Obj.cells #[.bool y.up,.int .i64 y.k,.bool y.has,.int .i64 y.v.r,.int .i64 y.v.c,.int .i64 y.v.h,.int .i64 y.v.b,.int .i64 y.v.p] 103)=wb;have bb9:=zb hwb;have kp:=zk hwb;have kNe:=za hbox5 bb9;have b0b:=zc hb5 bb9;obtain ⟨x0,x1,x2⟩:=zd kNe;clear hq hy hbox5;(go_wp2_with fail);refine (zeK ⟨some ⟨bb,off,none⟩,bn,bc,bs,la,ln,lc,ls,sa,sn,sc,ss⟩ (k:Int) (p:Int) _ (HH.out.below b0b)).mono ?_;rintro e w6 ⟨rfl,hb6⟩;have kNe:=za kNe hb6;have kp:=za kp hb6;have b06:=zc b0b hb6;generalize hRR:wr.heap.size=G at *;clear x0 x1 x2 d0 d1 d2 d3 d4 d5 d6 d7 hwb bb9 b0b hb6 hb5;obtain ⟨o0,o1,o2,o3,o4,o5,o6,o7⟩:=zeY kp;dsimp only;have hBU:=zg9 ls (k:Int) (p:Int);have HKN:=hide kNe;cases hh:y.has
     ·rw [hh] at o2;have HNX:Hid (∀(i:Nat) (z:PT),i < p+1→xB.ports[i]?=some z→z.has=true→usedL ls (k:Int) (i:Int)≠0):=hide (fun i z hi hz hzh=>by
       by_cases hip:i=p
       ·subst hip; rw [HY.out] at hz; cases hz; rw [hh] at hzh; cases hzh
       ·exact HQ.out i z (by omega) hz hzh)
      obtain ⟨t1,t2,t3,hT⟩:∃(x y:Int) (z:Bool),zft (zbA ls (k:Int) (p:Int))=.tuple #[.int .i64 x,.int .i64 y,.bool z]:=by
       cases zbA ls (k:Int) (p:Int) with
       | none=>exact ⟨_,_,_,rfl⟩
       | some q=>exact ⟨_,_,_,rfl⟩
      rw [hT];clear hT hBU kNe;go_wp2
      go_roundw
      case rel=>exact ⟨p+1,by omega,by go_num,HNX.out,HKN.out,b06⟩
      case measure=>simp [intOf]; omega
     ·rw [hh] at o2;cases hBS:zbA ls (k:Int) (p:Int) with
      | none =>
       have hu:=hBU.1 hBS;have HNO:Hid ((false=true)↔Quiet bR ls):=hide (zaF fun hp=>hp k _ HBX.out p y HY.out hh hu);clear hBU hu kNe hBS;unfold zft;dsimp only;go_wp2;go_ret;exact ⟨false,rfl,HNO.out,b06⟩
      | some q =>
       have hu:¬usedL ls (k:Int) (p:Int)=0:=fun e=>by rw [hBU.2 e] at hBS; cases hBS
       have HNX:Hid (∀(i:Nat) (z:PT),i < p+1→xB.ports[i]?=some z→z.has=true→usedL ls (k:Int) (i:Int)≠0):=hide (fun i z hi hz hzh=>by
        by_cases hip:i=p
        ·subst hip; exact hu
        ·exact HQ.out i z (by omega) hz hzh)
       clear hBU hu kNe hBS;obtain ⟨qa,qb⟩:=q;unfold zft;dsimp only;go_wp2
       go_roundw
       case rel=>exact ⟨p+1,by omega,by go_num,HNX.out,HKN.out,b06⟩
       case measure=>simp [intOf]; omega
    ·have hpx:p=x.n:=by omega
     have HQT':Hid (∀(i:Nat) (B:BR),i < k+1→bR[i]?=some B→zd0 ls i B):=hide (fun i B hi hB=>by
      by_cases him:i=k
      ·subst him;rw [HBX.out] at hB;cases hB;intro q y hy hyh;exact hq q y (by have:=(List.getElem?_eq_some_iff.1 hy).1; omega) hy hyh
      ·exact HQT.out i B (by omega) hB)
     have HBOX5:=hide hbox5;have HB5:=hide hb5;clear hq hbox5 hb5;go_wp2
     go_roundw
     case rel=>exact ⟨k+1,by omega,by go_num,HQT'.out,HBOX5.out,HB5.out⟩
     case measure=>simp [intOf]; omega
  ·have hkn:k=bn:=by omega
   have HP:Hid (Quiet bR ls):=hide (fun i B hB=>hqt i B (by have:=(List.getElem?_eq_some_iff.1 hB).1; omega) hB);clear hqt;subst hkn;go_wp2;go_ret;exact ⟨true,rfl,zdE HP.out,hb⟩

theorem zgs (N:NV) (w:World) (h:zae w N) :
  Calls Tryz.prog 69 #[.agg #[.slice N.ba N.bn N.bc,.slice N.la N.ln N.lc,.slice N.sa N.sn N.sc]] w fun e w'=>Says (zeU N.ls N.ss) w e w':=by
 obtain ⟨ba,bn,bc,bs,la,ln,lc,ls,sa,sn,sc,ss⟩:=N;have hS:=h.s;have hls:=h.l.size;have hll:=Nat.le_trans h.l.le h.l.top;have hle:=Nat.le_trans hS.le hS.top;unfold maxLen at hle hll;have hsz:=hS.size;clear h;dsimp only at hS hle hll hls hsz ⊢;generalize hw1:w.alloc (Obj.cells #[.slice ba bn bc,.slice la ln lc,.slice sa sn sc] 34)=w1;have b01:=zb hw1;have k1:=zk hw1;obtain ⟨x0,x1,x2⟩:=zd k1;by_cases s40:(sn:Int) > 40
 ·have HNO:Hid ((false=true)↔zeU ls ss):=hide (zaF fun hp=>by have:=hp.1; omega);go_enter Tryz.func69,Tryz.ntmps69;go_wp2;go_ret;exact ⟨false,rfl,HNO.out,b01⟩
 go_enter Tryz.func69,Tryz.ntmps69;go_wp2_with fail
 clear hw1 x0 x1 x2
 go_loopw [12] (fun i wr=>∃k:Nat,k≤sn∧i=.int .i64 k∧(∀y∈ss.take k,SayOk ls y)∧wr.heap[w.heap.size]?=some (.cells #[.slice ba bn bc,.slice la ln lc,.slice sa sn sc] 34)∧Below w.heap.size w wr) (fun i _=>sn - (intOf i).toNat)
 case atStart=>exact ⟨0,Nat.zero_le _,rfl,by intro y hy; simp at hy,k1,b01⟩
 case round =>
  obtain ⟨k,hk,rfl,hss,hbox,hb⟩:=hrel;clear k1 b01;by_cases hlt:k < sn
  ·obtain ⟨y,sb,so,hy,rfl,d0,d1,d2,d3,d4,d5,d6⟩:=zdM (hS.below hb) k hlt;have i1:(0:Int)≤(k:Int):=by omega
   have i2:(k:Int) < (sn:Int):=by omega
   have hmem:=List.mem_of_getElem? hy;have HY:=hide hy;have HSS:=hide hss;generalize hwa:wr.alloc (Obj.cells #[.int .i64 y.l,.bool y.back,.int .i64 y.v.r,.int .i64 y.v.c,.int .i64 y.v.h,.int .i64 y.v.b,.int .i64 y.v.p] 105)=wa;have ba9:=zb hwa;have ka:=zk hwa;have kNe:=za hbox ba9;have b0a:=zc hb ba9;obtain ⟨e0,e1,e2,e3,e4,e5,e6⟩:=zU ka;obtain ⟨x0,x1,x2⟩:=zd kNe;clear hy hss hbox hb;cases h1:(decide (0≤y.l) && decide (y.l≤(ln:Int) - 1))
   ·have HNO:Hid ((false=true)↔zeU ls ss):=hide (zaF fun hp=>by
     have:=(hp.2 y hmem).1
     rw [hls,h1] at this;cases this)
    (go_wp2_with fail);refine (zE y.l 0 ((ln:Int) - 1) _).mono ?_;rintro e w2 ⟨rfl,ew⟩;obtain rfl:=ew.symm;rw [h1];clear h1;go_wp2;go_ret;exact ⟨false,rfl,HNO.out,b0a⟩
   ·(go_wp2_with fail);refine (zE y.l 0 ((ln:Int) - 1) _).mono ?_;rintro e w2 ⟨rfl,ew⟩;obtain rfl:=ew.symm;rw [h1];have H1:=hide h1;clear h1;(go_wp2_with fail);refine (zaB y.v.r y.v.c y.v.h y.v.b y.v.p _).mono ?_;rintro e w3 ⟨rfl,hb3⟩;have HK:=hide (za kNe hb3);have HB:=hide (zc b0a hb3);clear hb3 kNe b0a ba9 ka hwa e0 e1 e2 e3 e4 e5 e6 x0 x1 x2 d0 d1 d2 d3 d4 d5 d6;cases h2:okVc y.v.r y.v.c y.v.h y.v.b y.v.p
    ·have HNO:Hid ((false=true)↔zeU ls ss):=hide (zaF fun hp=>by
      have:=(hp.2 y hmem).2
      unfold okVd at this;rw [h2] at this;cases this)
     go_wp2;go_ret;exact ⟨false,rfl,HNO.out,HB.out⟩
    ·have HYES:=hide (zbI HY.out HSS.out (P:=SayOk ls) ⟨by rw [hls]; exact H1.out,h2⟩);go_wp2
     go_roundw
     case rel=>exact ⟨k+1,by omega,by go_num,HYES.out,HK.out,HB.out⟩
     case measure=>simp [intOf]; omega
  ·have hkn:k=sn:=by omega
   rw [List.take_of_length_le (by omega)] at hss;have HP:Hid (zeU ls ss):=hide ⟨by omega,hss⟩;clear hss;subst hkn;go_wp2;go_ret;exact ⟨true,rfl,zdE HP.out,hb⟩

theorem zfE (N:NV) (w:World) (h:zae w N) (hm:∀x∈N.bs,x.fn≤16777216) (hR:∀x∈N.bs,∀r∈x.B.v.rows,r.Rng) :
  Calls Tryz.prog 33 #[.agg #[.slice N.ba N.bn N.bc,.slice N.la N.ln N.lc,.slice N.sa N.sn N.sc]] w fun e w'=>Says (NetOk N.brs N.ls N.ss) w e w':=by
 generalize hw1:w.alloc (Obj.cells #[.slice N.ba N.bn N.bc,.slice N.la N.ln N.lc,.slice N.sa N.sn N.sc] 34)=w1;have b01:=zb hw1;have k1:=zk hw1;obtain ⟨x0,x1,x2⟩:=zd k1;have kNe:=k1;have b:=b01;clear k1 b01;go_enter Tryz.func33,Tryz.ntmps33;go_wp2_with fail
 refine (zeg N.ba N.bn N.bc N.bs _ (h.b.below b) (fun x hx=>(h.item x hx).below b) hm hR).mono ?_;rintro e v0 ⟨q0,rfl,hq0,hb0⟩;have kNe:=za kNe hb0;have b:=zc b hb0;have HQ0:=hide hq0;clear hq0 hb0 x0 x1 x2;obtain ⟨x0,x1,x2⟩:=zd kNe;cases q0
 ·have HNO:Hid ((false=true)↔NetOk N.brs N.ls N.ss):=hide (zaF fun hp=>by have:=HQ0.out.2 hp.1; cases this);go_wp2;go_ret;exact ⟨false,rfl,HNO.out,b⟩
 ·have HT0:Hid (zaQ N.brs):=hide (HQ0.out.1 rfl);clear HQ0;(go_wp2_with fail);refine (zfD N _ (h.below b)).mono ?_;rintro e v1 ⟨q1,rfl,hq1,hb1⟩;have kNe:=za kNe hb1;have b:=zc b hb1;have HQ1:=hide hq1;clear hq1 hb1 x0 x1 x2;obtain ⟨x0,x1,x2⟩:=zd kNe;cases q1
  ·have HNO:Hid ((false=true)↔NetOk N.brs N.ls N.ss):=hide (zaF fun hp=>by have:=HQ1.out.2 hp.2.1; cases this);go_wp2;go_ret;exact ⟨false,rfl,HNO.out,b⟩
  ·have HT1:Hid (zbe N.brs N.ls):=hide (HQ1.out.1 rfl);clear HQ1;(go_wp2_with fail);refine (zej N _ (h.below b)).mono ?_;rintro e v2 ⟨q2,rfl,hq2,hb2⟩;have kNe:=za kNe hb2;have b:=zc b hb2;have HQ2:=hide hq2;clear hq2 hb2 x0 x1 x2;obtain ⟨x0,x1,x2⟩:=zd kNe;cases q2
   ·have HNO:Hid ((false=true)↔NetOk N.brs N.ls N.ss):=hide (zaF fun hp=>by have:=HQ2.out.2 hp.2.2.1; cases this);go_wp2;go_ret;exact ⟨false,rfl,HNO.out,b⟩
   ·have HT2:Hid (Quiet N.brs N.ls):=hide (HQ2.out.1 rfl);clear HQ2;(go_wp2_with fail);refine (zgs N _ (h.below b)).mono ?_;rintro e v3 ⟨q3,rfl,hq3,hb3⟩;have kNe:=za kNe hb3;have b:=zc b hb3;have HQ3:=hide hq3;clear hq3 hb3 x0 x1 x2;obtain ⟨x0,x1,x2⟩:=zd kNe;cases q3
    ·have HNO:Hid ((false=true)↔NetOk N.brs N.ls N.ss):=hide (zaF fun hp=>by have:=HQ3.out.2 hp.2.2.2; cases this);go_wp2;go_ret;exact ⟨false,rfl,HNO.out,b⟩
    ·have HP:Hid (NetOk N.brs N.ls N.ss):=hide ⟨HT0.out,HT1.out,HT2.out,HQ3.out.1 rfl⟩;go_wp2;go_ret;exact ⟨true,rfl,zdE HP.out,b⟩

def HalfO (w wr:World) (l:List BV) (n k:Nat):Prop :=
 ∃ys:List BV,ys.length=k∧ys.map BV.B=(l.take k).map BV.B∧wr.ownsRow w.heap.size 64 11 (.slice (some ⟨w.heap.size,0,none⟩) n n) n (brF.all (ys++List.replicate (n - k) BV.zero))∧(∀y∈ys,y.Own wr w.heap.size)∧(ys.flatMap BV.blks).Nodup

theorem zf5 (ao:Option Addr) (n c:Nat) (l:List BV) (w:World) (hl:GRow brF w ao n c l) (hr:∀x∈l,x.Reads w) (hs:n≤1048576) (hm:∀x∈l,x.Small) :
  Calls Tryz.prog 29 #[.slice ao n c] w fun r w'=>∃ao' cap ys,r=.returned (.slice ao' n cap)∧ys.map BV.B=l.map BV.B∧BOs w' w.heap.size ao' n cap ys∧Below w.heap.size w w':=by
 obtain ⟨i0,hi,hz0,hz1,hz2⟩:=zaK zdG;have s1:=hl.size;go_enter Tryz.func29,Tryz.ntmps29;go_wp2_with (at_make; refine wpList_make_full _ rfl _ _ 30 rfl w.heap.size 64 i0 (.agg #[.int .i64 0,.string ⟨#[]⟩,.slice none 0 0,.slice none 0 0,.slice none 0 0,.slice none 0 0,.int .i64 0,.int .i64 0,.int .i64 0,.int .i64 0,.int .i64 0]) 11 Tryz.underlying30 hi hz0 hz1 .i64 .i64 _ _ n rfl rfl rfl rfl ?c1 ?c2 ?c3 ?_)
 case c1=>rw [hz2]; omega
 case c2=>unfold maxLen; omega
 case c3=>exact Nat.le_refl _
 intro w1 hown hgrow;have hb1:Below w.heap.size w w1:=(Below.refl _ _).grown hgrow (Nat.le_refl _) (by intro k hk; cases hk);have hown1:HalfO w w1 l n 0:=by
  refine ⟨[],rfl,rfl, ?_,(by intro y hy; cases hy),List.nodup_nil⟩;rw [List.nil_append,Nat.sub_zero,← zbQ]; exact hown
 clear hown hgrow hi hz0 hz1 hz2;go_wp2
 go_loopw [4] (fun i wr=>∃k:Nat,k≤n∧i=.int .i64 k∧HalfO w wr l n k∧Below w.heap.size w wr) (fun i _=>n - (intOf i).toNat)
 case atStart=>exact ⟨0,Nat.zero_le _,rfl,hown1,hb1⟩
 case round =>
  obtain ⟨k,hk,rfl,hh,hb⟩:=hrel;clear hown1 hb1;by_cases hlt:k < n
  ·obtain ⟨x,b,off,hx,rfl,ca0,ca1,ca2,ca3,ca4,ca5,ca6,ca7,ca8,ca9,ca10⟩:=br_at (hl.below hb) k hlt;obtain ⟨ys,rfl,hyd,hyo,hyi,hap⟩:=hh;have HAP:=hide hap;clear hap;have hrep:List.replicate (n - ys.length) BV.zero=BV.zero::List.replicate (n - (ys.length+1)) BV.zero:=by rw [← List.replicate_succ]; congr 1; omega
   rw [hrep] at hyo;have hmem:=List.mem_of_getElem? hx;obtain ⟨m1,m2,m3,m4⟩:=hm x hmem;have hrx:=(hr x hmem).below hb;have HX:=hide hx;have HB:=hide hb;have HYD:=hide hyd;have HYO:=hide hyo;have HYI:=hide hyi;clear hx hb hyd hyo hyi hrep;(go_wp2_with fail);refine (zf4 x.a x.n x.c x.fa x.fn x.fc x.ra x.rn x.rc x.oa x.on x.oc x.B _ hrx m1 m2 m3 m4).mono ?_;rintro e w2 ⟨a2,c2,fa2,fc2,ra2,rc2,oa2,oc2,rfl,ow2,hb2⟩;generalize hy:(⟨a2,x.n,c2,fa2,x.fn,fc2,ra2,x.rn,rc2,oa2,x.on,oc2,x.B⟩:BV)=y;have ho2:=zi HYO.out hb2;have hz:(ys++BV.zero::List.replicate (n - (ys.length+1)) BV.zero)[ys.length]?=some BV.zero:=by simp
   obtain ⟨⟨t0,t1,t2,t3,t4,t5,t6,t7,t8,t9,t10⟩,f0,f1,f2,f3,f4,f5,f6,f7,f8,f9,f10⟩:=zN ho2 hz;have hyb:y.B=x.B:=by rw [← hy]
   have yo:y.Own w2 wr.heap.size:=by rw [← hy]; exact ow2
   have hnd:((ys++[y]).flatMap BV.blks).Nodup:=by
    rw [List.flatMap_append,List.nodup_append];refine ⟨HAP.out,by simpa using yo.nd, ?_⟩;intro b hb c hc e;subst e;obtain ⟨z,hz,hbz⟩:=List.mem_flatMap.1 hb;have h1:=((HYI.out z hz).blk b hbz).2;have h2:=(yo.blk b (by simpa using hc)).1;omega
   have HND:=hide hnd;clear hnd yo;have o3:=zeX (y:=y) ho2;have g3:=zd4 (w:=w2) (g:=w.heap.size) (j:=ys.length*11) (y:=y);obtain ⟨cs,hblk⟩:=zka ho2;have ow':y.Own w2 w.heap.size:=by rw [← hy]; exact ow2.lt HB.out.size
   have hb3:=zc HB.out hb2;have i3:∀W,w2.grownBy W (some w.heap.size)→∀z∈ys++[y],z.Own W w.heap.size:=by
    intro W hgW z hz;refine BV.Own.other (T:=64) ?_ hblk (by decide) (by decide) (by decide) (by decide) hgW;rcases List.mem_append.1 hz with hz | hz
    ·exact (HYI.out z hz).below hb2
    ·rw [List.mem_singleton.1 hz]; exact ow'
   have i3:=i3 _ g3;have hb4:=hb3.grown g3 hb3.size (by intro j e; cases e; exact Nat.le_refl _);rw [← hy] at o3 i3 hb4 HND;have HI:=hide i3;have HO3:=hide o3;have HB3:=hide hb4;clear ho2 hb2 hb3 hb4 o3 hz g3 hblk ow2 ow' i3 hy ca0 ca1 ca2 ca3 ca4 ca5 ca6 ca7 ca8 ca9 ca10 HYO HYI HB;go_wp2
   go_roundw
   case rel =>
    refine ⟨ys.length+1,by omega,by go_num,⟨ys++[⟨a2,x.n,c2,fa2,x.fn,fc2,ra2,x.rn,rc2,oa2,x.on,oc2,x.B⟩],by simp, ?_,by rw [List.append_assoc]; exact HO3.out,HI.out,HND.out⟩,HB3.out⟩;rw [List.map_append,HYD.out,List.take_add_one,HX.out]
    simp
   case measure=>simp [intOf]; omega
  ·have hkn:k=n:=by omega
   subst hkn;obtain ⟨ys,hyl,hyd,hyo,hyi,hap⟩:=hh;rw [List.take_of_length_le (by omega)] at hyd;rw [Nat.sub_self,List.replicate_zero,List.append_nil] at hyo;have HYD:=hide hyd;have HO:=hide hyo;have HI:=hide hyi;have HB:=hide hb;have HAP:=hide hap;clear hyd hyo hyi hb hap;go_wp2;go_ret;exact ⟨_,_,ys,rfl,HYD.out,⟨HO.out,HI.out,HAP.out⟩,HB.out⟩

theorem zdt (N:NV) (w:World) (h:zae w N) (hs:sizeN N≤1048576) :
  Calls Tryz.prog 7 #[.agg #[.slice N.ba N.bn N.bc,.slice N.la N.ln N.lc,.slice N.sa N.sn N.sc]] w fun r w'=>∃M:NV,r=.returned (.agg #[.slice M.ba M.bn M.bc,.slice M.la M.ln M.lc,.slice M.sa M.sn M.sc])∧NOwn w' w.heap.size M∧M.Same N∧sizeN M=sizeN N∧Below w.heap.size w w':=by
 obtain ⟨z1,z2,z3,z4⟩:=zeu h hs;go_enter Tryz.func7,Tryz.ntmps7;go_wp2_with fail
 refine (zf5 N.ba N.bn N.bc N.bs _ (h.b.below (zac _ _ _ _)) (fun x hx=>(h.item x hx).below (zac _ _ _ _)) z1 z4).mono ?_;rintro e w1 ⟨ba,bc,bs,rfl,hB,OB,hb⟩;have oB:=OB.row;have iB:=OB.item;have HAP:=hide OB.apart;clear OB;obtain ⟨k0,k1,k2⟩:=za0 hb;have b1:Below w.heap.size w w1:=zc (zac w _ _ _) hb;obtain ⟨x0,x1,x2⟩:=zV k0;obtain ⟨y0,y1,y2⟩:=zV k2;have f0:=zf k2 0;have b2:=zn b1 (g:=w.heap.size+1+1) (by omega) 0 (.slice ba N.bn bc);have n1:=hb.size
 simp at n1
 have oB2:=zA (zD oB (base':=w.heap.size+3) (by simp)) (zg (rb:=w.heap.size+1+1) 0 (.slice ba N.bn bc)) (by intro b e; cases e; omega);have iB2:∀y∈bs,y.Own _ (w.heap.size+3):=fun y hy=>((iB y hy).lt (base':=w.heap.size+3) (by simp)).apart (zg (rb:=w.heap.size+1+1) 0 (.slice ba N.bn bc)) (by intro b e; cases e; omega)
 have k0':=z8 (b:=w.heap.size+1+1) (j:=0) (u:=.slice ba N.bn bc) k0 (by omega);have k1':=z8 (b:=w.heap.size+1+1) (j:=0) (u:=.slice ba N.bn bc) k1 (by omega);have k2':=zJ (j:=0) k2 (.slice ba N.bn bc);clear oB iB hb k0 k1 k2;generalize hwA:w1.setCell ⟨w.heap.size+1+1,0,none⟩ (.slice ba N.bn bc)=wA at b2 oB2 iB2 k0' k1' k2';clear x0 x1 x2;obtain ⟨x0,x1,x2⟩:=zV k0';go_wp2_with fail
 refine (zg0 N.la N.ln N.lc N.ls _ (h.l.below b2) z2).mono ?_;rintro e w3 ⟨la,lc,rfl,oL,hb3⟩;have k0:=za k0' hb3;have k1:=za k1' hb3;have k2:w3.heap[w.heap.size+1+1]?=some (.cells #[.slice ba N.bn bc,.slice none 0 0,.slice none 0 0] 34):=za k2' hb3;have b3:=zc b2 hb3;have n3:=b2.size;have n3':w.heap.size+3≤wA.heap.size:=by rw [← hwA]; simpa using n1
 have n3'':=Nat.le_trans n3' hb3.size;have oB3:=zi oB2 hb3;have iB3:∀y∈bs,y.Own _ (w.heap.size+3):=fun y hy=>(iB2 y hy).below hb3
 have oL3:=zD oL n3';clear hb3 k0' k1' k2' oB2 iB2 oL x0 x1 x2 y0 y1 y2 f0 hwA;obtain ⟨y0,y1,y2⟩:=zV k2;have f1:=zf k2 1;have b4:=zn b3 (g:=w.heap.size+1+1) (by omega) 1 (.slice la N.ln lc);have oB4:=zA oB3 (zg (rb:=w.heap.size+1+1) 1 (.slice la N.ln lc)) (by intro b e; cases e; omega);have oL4:=zA oL3 (zg (rb:=w.heap.size+1+1) 1 (.slice la N.ln lc)) (by intro b e; cases e; omega);have iB4:∀y∈bs,y.Own _ (w.heap.size+3):=fun y hy=>(iB3 y hy).apart (zg (rb:=w.heap.size+1+1) 1 (.slice la N.ln lc)) (by intro b e; cases e; omega)
 have k0':=z8 (b:=w.heap.size+1+1) (j:=1) (u:=.slice la N.ln lc) k0 (by omega);have k1':=z8 (b:=w.heap.size+1+1) (j:=1) (u:=.slice la N.ln lc) k1 (by omega);have k2':=zJ (j:=1) k2 (.slice la N.ln lc);have n4:w.heap.size+3≤(w3.setCell ⟨w.heap.size+1+1,1,none⟩ (.slice la N.ln lc)).heap.size:=by simpa using n3''
 clear oB3 iB3 oL3 k0 k1 k2;generalize hwB:w3.setCell ⟨w.heap.size+1+1,1,none⟩ (.slice la N.ln lc)=wB at b4 oB4 oL4 iB4 k0' k1' k2' n4;obtain ⟨x0,x1,x2⟩:=zV k0';go_wp2_with fail
 refine (zh4 N.sa N.sn N.sc N.ss _ (h.s.below b4) z3).mono ?_;rintro e w5 ⟨sa,sc,rfl,oS,hb5⟩;have k1:=za k1' hb5;have k2:w5.heap[w.heap.size+1+1]?=some (.cells #[.slice ba N.bn bc,.slice la N.ln lc,.slice none 0 0] 34):=za k2' hb5;have b5:=zc b4 hb5;have oB5:=zi oB4 hb5;have oL5:=zi oL4 hb5;have oS5:=zD oS n4;have iB5:∀y∈bs,y.Own _ (w.heap.size+3):=fun y hy=>(iB4 y hy).below hb5
 clear hb5 k0' k1' k2' oB4 oL4 iB4 oS x0 x1 x2 y0 y1 y2 f1 hwB;obtain ⟨y0,y1,y2⟩:=zV k2;obtain ⟨u0,u1,u2⟩:=zV k1;have f2:=zf k2 2;have g0:=zf k1 0;have g1:=zf k1 1;have g2:=zf k1 2;have ne1:¬w.heap.size+1=w.heap.size+1+1:=by omega
 have ne2:¬w.heap.size+1+1=w.heap.size+1:=by omega
 have hst:∀W,w5.grownBy W (some (w.heap.size+1+1))→∀W',W.grownBy W' (some (w.heap.size+1))→NOwn W' w.heap.size ⟨ba,N.bn,bc,bs,la,N.ln,lc,N.ls,sa,N.sn,sc,N.ss⟩:=by
  intro W hg W' hg';have l1:∀b,some (w.heap.size+1+1)=some b→b < w.heap.size+3:=by intro b e; cases e; omega
  have l2:∀b,some (w.heap.size+1)=some b→b < w.heap.size+3:=by intro b e; cases e; omega
  exact NOwn.lt (base:=w.heap.size+3) ⟨⟨zA (zA oB5 hg l1) hg' l2,fun y hy=>((iB5 y hy).apart hg l1).apart hg' l2,HAP.out⟩,zA (zA oL5 hg l1) hg' l2,zA (zA oS5 hg l1) hg' l2⟩ (by omega)
 have HN:=hide (hst _ (zg (rb:=w.heap.size+1+1) 2 (.slice sa N.sn sc)) _ (zz (zz (zg (rb:=w.heap.size+1) 0 (.slice ba N.bn bc)) (zg (rb:=w.heap.size+1) 1 (.slice la N.ln lc))) (zg (rb:=w.heap.size+1) 2 (.slice sa N.sn sc))));have HB:=hide (zn (zn (zn (zn b5 (g:=w.heap.size+1+1) (by omega) 2 (.slice sa N.sn sc)) (g:=w.heap.size+1) (by omega) 0 (.slice ba N.bn bc)) (g:=w.heap.size+1) (by omega) 1 (.slice la N.ln lc)) (g:=w.heap.size+1) (by omega) 2 (.slice sa N.sn sc));have HBB:=hide hB;clear hst k1 k2 oB5 oL5 oS5 iB5 b5 b4 b3 b2 b1 hB n1 n3 n3' n3'' n4;go_wp2;refine bodyPost_ret (v:=.agg #[.slice ba N.bn bc,.slice la N.ln lc,.slice sa N.sn sc]) (by simp [results,Tryz.results7,go_sem, *]) rfl ⟨⟨ba,N.bn,bc,bs,la,N.ln,lc,N.ls,sa,N.sn,sc,N.ss⟩,rfl,HN.out,⟨HBB.out,rfl,rfl⟩, ?_,HB.out⟩;have e:=HBB.out;unfold sizeN zaj
 have:(bs.map fun x=>sizeB x.B)=(N.bs.map fun x=>sizeB x.B):=by
  have:=congrArg (List.map sizeB) e
  rw [List.map_map,List.map_map] at this;exact this
 simp only [this]

end Go.Proofs.YtpaneiaflfegoaaGreat
