/-
  Packed: SayOn JoinI JoinT JoinS JoinK UpA.
-/
import Derived.Test.YtkaefmfopejbaaaGreatPAK05
import Derived.Test.YtkaefmfopejbaaaGreatPAK11
import Derived.Test.YtkaefmfopejbaaaGreatPAK17
import Derived.Lib.SlicesCompact
import Derived.Lib.SlKeysI
import Derived.Maps.OwnSet
namespace Go.Proofs.YtkaefmfopejbaaaGreat
set_option maxRecDepth 100000
set_option maxHeartbeats 16000000
open Go.RowKit

structure Way (x:LK) (back:Bool) (fb fp tb tp:Int):Prop where
 yes:back=true→fb=x.b∧fp=x.q∧tb=x.a∧tp=x.p
 no:back=false→fb=x.a∧fp=x.p∧tb=x.b∧tp=x.q

theorem zb7 (x:LK) (back:Bool) (fb fp tb tp:Int) (w:World) (hw:Way x back fb fp tb tp) :
  Calls Tryz.prog 53 #[.agg #[.int .i64 x.a,.int .i64 x.p,.int .i64 x.b,.int .i64 x.q],.bool back] w fun e w'=>e=.returned (.tuple #[.agg #[.int .i64 fb,.int .i64 fp],.agg #[.int .i64 tb,.int .i64 tp]])∧Below w.heap.size w w':=by
 generalize hw1:w.alloc (Obj.cells #[.int .i64 x.a,.int .i64 x.p,.int .i64 x.b,.int .i64 x.q] 66)=w1;generalize hw2:w1.alloc (Obj.cells #[.int .i64 0,.int .i64 0] 68)=w2;generalize hw3:w2.alloc (Obj.cells #[.int .i64 0,.int .i64 0] 68)=w3;have b01:=zb hw1;have b12:=zb hw2;have b23:=zb hw3;have b13:=zc b12 b23;have k0:=za (zk hw1) b13;have k1:=za (zk hw2) b23;have k2:=zk hw3;have b03:=zc b01 b13;have HZ:Hid (w1.heap.size=w.heap.size+1∧w2.heap.size=w.heap.size+2):=hide ⟨by rw [← hw1]; simp,by rw [← hw2,← hw1]; simp⟩;have HZ3:Hid (w3.heap.size=w.heap.size+3):=hide (by rw [← hw3,← hw2,← hw1]; simp);obtain ⟨x0,x1,x2,x3⟩:=zE k0;go_enter Tryz.func53,Tryz.ntmps53;go_wp2_with fail
 refine (zco x _).mono ?_;rintro e we ⟨rfl,hbe⟩;generalize hwq:we.alloc (Obj.cells #[.int .i64 x.a,.int .i64 x.p,.int .i64 x.b,.int .i64 x.q] 69)=wq;have bq:=zb hwq;have kE:=zk hwq;have bq:=zc hbe bq;have k1:=za k1 bq;have k2:=za k2 bq;have b0:=zc b03 bq;have HZ4:Hid (w.heap.size+3≤we.heap.size):=hide (by have:=hbe.size; have:=HZ3.out; omega);clear x0 x1 x2 x3 hbe k0 hw1 hw2 hw3 b01 b12 b23 b13 b03;cases back
 ·obtain ⟨rfl,rfl,rfl,rfl⟩:=hw.no rfl;clear hw;(go_upto_region 4 with fail);clear hwq;have vv:Below wq.heap.size wq wq.drew:=zq (Below.refl _ _);have bb:=zc b0 vv;obtain ⟨p0,p1⟩:=zm k1;obtain ⟨p2,p3⟩:=zm k2;have p4:=zf k1 0;have p5:=zf k1 1;have p6:=zf k2 0;have p7:=zf k2 1;have k1:=za k1 vv;have k2:=za k2 vv;have kE:=za kE vv;clear b0 bq vv;refine wp_region_held_drew (S:=(fun W=>(zcc W we.heap.size 0 (.int .i64 x.a)∧zcc W we.heap.size 1 (.int .i64 x.p)∧zcc W we.heap.size 2 (.int .i64 x.b)∧zcc W we.heap.size 3 (.int .i64 x.q)))) (by kernel_rfl) (zE kE) (fun hHeld => ?_);refine kK 0 ?_;refine kK 1 ?_;refine kK 2 ?_;refine kK 3 ?_;refine kR 4 fun K hK => ?_
  obtain ⟨xx0,xx1⟩:=zm k1;have ff0:=zf k1 0;have ff1:=zf k1 1;go_simp;refine zN (K:=K _) k1 _ _ (fun wq kQ hgq => ?_);have bb:=bb.grown hgq bb.size (by intro j e; cases e; have:=HZ.out; omega);have kE:=ze kE hgq (by intro j e; cases e; have:=HZ.out; have:=HZ4.out; omega);(try have k2:=ze k2 hgq (by intro j e; cases e; have:=HZ.out; omega));(try have kA:=ze kA hgq (by intro j e; cases e; have:=HZ.out; omega));(try have kB:=ze kB hgq (by intro j e; cases e; have:=HZ.out; omega));have kA:=kQ;clear hgq kQ xx0 xx1 ff0 ff1;refine kO hK (zE kE) fun hHeld => ?_
  clear hK K;refine kR 5 fun K hK => ?_
  obtain ⟨xx0,xx1⟩:=zm k2;have ff0:=zf k2 0;have ff1:=zf k2 1;go_simp;refine zN (K:=K _) k2 _ _ (fun wq kQ hgq => ?_);have bb:=bb.grown hgq bb.size (by intro j e; cases e; have:=HZ.out; omega);have kE:=ze kE hgq (by intro j e; cases e; have:=HZ.out; have:=HZ4.out; omega);(try have k1:=ze k1 hgq (by intro j e; cases e; have:=HZ.out; omega));(try have kA:=ze kA hgq (by intro j e; cases e; have:=HZ.out; omega));(try have kB:=ze kB hgq (by intro j e; cases e; have:=HZ.out; omega));have kB:=kQ;clear hgq kQ xx0 xx1 ff0 ff1;refine kO hK (zE kE) fun hHeld => ?_
  clear hK K;refine wpAnyH_done (by kernel_rfl) ?_ _;have HB:=hide bb;obtain ⟨r0,r1⟩:=zm kA;obtain ⟨t0,t1⟩:=zm kB;clear hHeld kE k1 k2 kA kB bb;go_wp2;exact bodyPost_ret (v:=.tuple #[.agg #[.int .i64 x.a,.int .i64 x.p],.agg #[.int .i64 x.b,.int .i64 x.q]]) (by simp [results,Tryz.results53,go_sem, *]) rfl ⟨rfl,HB.out⟩
 ·obtain ⟨rfl,rfl,rfl,rfl⟩:=hw.yes rfl;clear hw;(go_upto_region 3 with fail);clear hwq;have vv:Below wq.heap.size wq wq.drew:=zq (Below.refl _ _);have bb:=zc b0 vv;obtain ⟨p0,p1⟩:=zm k1;obtain ⟨p2,p3⟩:=zm k2;have p4:=zf k1 0;have p5:=zf k1 1;have p6:=zf k2 0;have p7:=zf k2 1;have k1:=za k1 vv;have k2:=za k2 vv;have kE:=za kE vv;clear b0 bq vv;refine wp_region_held_drew (S:=(fun W=>(zcc W we.heap.size 0 (.int .i64 x.a)∧zcc W we.heap.size 1 (.int .i64 x.p)∧zcc W we.heap.size 2 (.int .i64 x.b)∧zcc W we.heap.size 3 (.int .i64 x.q)))) (by kernel_rfl) (zE kE) (fun hHeld => ?_);refine kK 0 ?_;refine kK 1 ?_;refine kK 2 ?_;refine kK 3 ?_;refine kR 4 fun K hK => ?_
  obtain ⟨xx0,xx1⟩:=zm k1;have ff0:=zf k1 0;have ff1:=zf k1 1;go_simp;refine zN (K:=K _) k1 _ _ (fun wq kQ hgq => ?_);have bb:=bb.grown hgq bb.size (by intro j e; cases e; have:=HZ.out; omega);have kE:=ze kE hgq (by intro j e; cases e; have:=HZ.out; have:=HZ4.out; omega);(try have k2:=ze k2 hgq (by intro j e; cases e; have:=HZ.out; omega));(try have kA:=ze kA hgq (by intro j e; cases e; have:=HZ.out; omega));(try have kB:=ze kB hgq (by intro j e; cases e; have:=HZ.out; omega));have kA:=kQ;clear hgq kQ xx0 xx1 ff0 ff1;refine kO hK (zE kE) fun hHeld => ?_
  clear hK K;refine kR 5 fun K hK => ?_
  obtain ⟨xx0,xx1⟩:=zm k2;have ff0:=zf k2 0;have ff1:=zf k2 1;go_simp;refine zN (K:=K _) k2 _ _ (fun wq kQ hgq => ?_);have bb:=bb.grown hgq bb.size (by intro j e; cases e; have:=HZ.out; omega);have kE:=ze kE hgq (by intro j e; cases e; have:=HZ.out; have:=HZ4.out; omega);(try have k1:=ze k1 hgq (by intro j e; cases e; have:=HZ.out; omega));(try have kA:=ze kA hgq (by intro j e; cases e; have:=HZ.out; omega));(try have kB:=ze kB hgq (by intro j e; cases e; have:=HZ.out; omega));have kB:=kQ;clear hgq kQ xx0 xx1 ff0 ff1;refine kO hK (zE kE) fun hHeld => ?_
  clear hK K;refine wpAnyH_done (by kernel_rfl) ?_ _;have HB:=hide bb;obtain ⟨r0,r1⟩:=zm kA;obtain ⟨t0,t1⟩:=zm kB;clear hHeld kE k1 k2 kA kB bb;go_wp2;exact bodyPost_ret (v:=.tuple #[.agg #[.int .i64 x.b,.int .i64 x.q],.agg #[.int .i64 x.a,.int .i64 x.p]]) (by simp [results,Tryz.results53,go_sem, *]) rfl ⟨rfl,HB.out⟩

theorem zei (N:NV) (k i:Nat) (x:LK) (y:BV) (back:Bool) (fp tb tp:Int) (w:World) (h:zaa w N) (hx:N.ls[k]? = some x) (hy0:N.bs[i]? = some y) (hwy:Way x back (i:Int) fp tb tp) :
  Calls Tryz.prog 50 #[.agg #[.slice N.ba N.bn N.bc,.slice N.la N.ln N.lc,.slice N.sa N.sn N.sc],.int .i64 (k:Int),.bool back] w fun e w'=>e=.returned (.agg #[.int .i64 (k:Int),.bool back,.int .i64 (sayV y.B.id y.B.ports fp).r,.int .i64 (sayV y.B.id y.B.ports fp).c,.int .i64 (sayV y.B.id y.B.ports fp).h,.int .i64 (sayV y.B.id y.B.ports fp).b,.int .i64 (sayV y.B.id y.B.ports fp).p])∧Below w.heap.size w w':=by
 have hk:k < N.ln:=by have:=(List.getElem?_eq_some_iff.1 hx).1; have:=h.l.size; omega
 have hib:i < N.bn:=by have:=(List.getElem?_eq_some_iff.1 hy0).1; have:=h.b.size; omega
 have hle:=Nat.le_trans h.b.le h.b.top;unfold maxLen at hle;generalize hw1:w.alloc (Obj.cells #[.slice N.ba N.bn N.bc,.slice N.la N.ln N.lc,.slice N.sa N.sn N.sc] 28)=w1;generalize hw2:w1.alloc (Obj.cells #[.int .i64 0,.bool false,.int .i64 0,.int .i64 0,.int .i64 0,.int .i64 0,.int .i64 0] 99)=w2;have b01:=zb hw1;have b12:=zb hw2;have b02:=zc b01 b12;have kP:=za (zk hw1) b12;have kJ:=zk hw2;have HZ1:Hid (w1.heap.size=w.heap.size+1):=hide (by rw [← hw1]; simp);have HZ2:Hid (w2.heap.size=w.heap.size+2):=hide (by rw [← hw2,← hw1]; simp);obtain ⟨x',lb,lo,hx',hla,a0,a1,a2,a3⟩:=zao (h.l.below b02) k hk;rw [hx] at hx';cases hx';obtain ⟨y',bb,off,hy',hba,-⟩:=br_at h.b i hib;rw [hy0] at hy';cases hy';have hy:=h.item y (List.mem_of_getElem? hy0);have hG:GRow brF w (some ⟨bb,off,none⟩) N.bn N.bc N.bs:=by rw [← hba]; exact h.b
 have HBC:Hid (∀W,Below w.heap.size w W→zcc W bb (off+i*11) (.int .i64 y.B.id)∧zcc W bb (off+i*11+2) (.slice y.a y.n y.c)):=hide (fun W hW=>by have:=zF hG hW hy0; exact ⟨this.1,this.2.2.1⟩);have HBA:=hide hba;obtain ⟨x0,x1,x2⟩:=zd kP;rw [hla] at x1;have i1:(0:Int)≤(k:Int):=by omega
 have i2:(k:Int) < (N.ln:Int):=by omega
 clear hla hba hx hy0 hG b01 b12;go_enter Tryz.func50,Tryz.ntmps50;go_wp2_with fail
 refine (zb7 x back (i:Int) fp tb tp _ hwy).mono ?_;rintro e w4 ⟨rfl,b24⟩;generalize hz5:w4.alloc (Obj.cells #[.int .i64 0,.int .i64 0] 68)=z5;generalize hz6:z5.alloc (Obj.cells #[.int .i64 0,.int .i64 0] 68)=z6;have b45:=zb hz5;have b56:=zb hz6;have kF:=za (zk hz5) b56;have kG:=zk hz6;have HZ5:Hid (z5.heap.size=w4.heap.size+1):=hide (by rw [← hz5]; simp);obtain ⟨p0,p1⟩:=zm kF;obtain ⟨p2,p3⟩:=zm kG;have p4:=zf kF 0;have p5:=zf kF 1;have p6:=zf kG 0;have p7:=zf kG 1;have ne1:¬w4.heap.size=z5.heap.size:=by have:=HZ5.out; omega
 have ne2:¬z5.heap.size=w4.heap.size:=by have:=HZ5.out; omega
 have b26:=zc b24 (zc b45 b56);have kP:=za kP b26;have kJ:=za kJ b26;have b06:=zc b02 b26;have HZ4:Hid (w.heap.size+2≤w4.heap.size):=hide (by have:=b24.size; have:=HZ2.out; omega);clear x0 x1 x2 a0 a1 a2 a3 b24 b45 b56 b26 b02 hw1 hw2;go_upto_region 2 with fail
 generalize hw6:(((z6.setCell ⟨w4.heap.size,0,none⟩ (.int .i64 (i:Int))).setCell ⟨w4.heap.size,1,none⟩ (.int .i64 fp)).setCell ⟨z5.heap.size,0,none⟩ (.int .i64 tb)).setCell ⟨z5.heap.size,1,none⟩ (.int .i64 tp)=w6;obtain ⟨w5,hw5⟩:∃w5:World,w5=(z6.setCell ⟨w4.heap.size,0,none⟩ (.int .i64 (i:Int))).setCell ⟨w4.heap.size,1,none⟩ (.int .i64 fp):=⟨_,rfl⟩;have kF5:w5.heap[w4.heap.size]? = some (.cells #[.int .i64 (i:Int),.int .i64 fp] 68):=by rw [hw5]; exact zN (K:=fun W=>W.heap[w4.heap.size]? = some (.cells #[.int .i64 (i:Int),.int .i64 fp] 68)) kF _ _ (fun wq kQ _=>kQ)
 have hgA:z6.grownBy w5 (some w4.heap.size):=by rw [hw5]; exact zI (zj 0 _) (zj 1 _)
 have hgB:w5.grownBy w6 (some z5.heap.size):=by rw [← hw6,← hw5]; exact zI (zj 0 _) (zj 1 _)
 have kF:=ze kF5 hgB (by intro j e; cases e; exact ne2);have kP:=ze (ze kP hgA (by intro j e; cases e; have:=HZ4.out; omega)) hgB (by intro j e; cases e; have:=HZ4.out; have:=HZ5.out; omega);have kJ:=ze (ze kJ hgA (by intro j e; cases e; have:=HZ4.out; have:=HZ1.out; omega)) hgB (by intro j e; cases e; have:=HZ4.out; have:=HZ5.out; have:=HZ1.out; omega);have b06:=(b06.grown hgA b06.size (by intro j e; cases e; have:=HZ4.out; omega)).grown hgB (Nat.le_trans b06.size hgA.size) (by intro j e; cases e; have:=HZ4.out; have:=HZ5.out; omega);clear hw6 hw5 hgA hgB kF5 p0 p1 p2 p3 p4 p5 p6 p7 kG hz5 hz6 ne1 ne2;obtain ⟨x0,x1,x2⟩:=zd kP;obtain ⟨e0,e1⟩:=zm kF;go_wp2_with fail
 refine (zbm N i bb off _ hle hib HBA.out).mono ?_;rintro e w7 ⟨rfl,b67⟩;have kF:=za kF b67;have kJ:=za kJ b67;have b0:=zc b06 b67;clear x0 x1 x2 e0 e1 b67 b06 kP hwy;have vv:Below w7.heap.size w7 w7.drew:=zq (Below.refl _ _);have kF:=za kF vv;have kJ:=za kJ vv;have hc:=HBC.out _ (zc b0 vv);go_upto_region 3 with fail
 refine wp_region_held_drew (S:=(fun W=>(zcc W w4.heap.size 0 (.int .i64 (i:Int))∧zcc W w4.heap.size 1 (.int .i64 fp))∧(zcc W bb (off+i*11) (.int .i64 y.B.id)∧zcc W bb (off+i*11+2) (.slice y.a y.n y.c)))) (by kernel_rfl) (⟨zm kF,hc⟩) (fun hHeld => ?_);refine kK 0 ?_;refine kK 1 ?_;refine kK 2 ?_;refine kK 3 ?_;refine kK 4 ?_;refine kK 5 ?_;refine kK 6 ?_;refine kK 7 ?_;refine kK 8 ?_;refine kK 9 ?_;refine kK 10 ?_;refine kK 11 ?_;refine kR 12 fun K hK => ?_
 go_simp;refine (zcg y.B.id y.a y.n y.c y.B.ports fp _ (hy.ports.below (zc b0 vv))).mono ?_;rintro e wz ⟨rfl,hbz⟩;have vv:=zc vv hbz;have kF:=za kF hbz;have kJ:=za kJ hbz;have hc:=HBC.out _ (zc b0 vv);generalize hSV:sayV y.B.id y.B.ports fp=SV at *;go_wp2_with fail
 refine kO hK (⟨zm kF,hc⟩) fun hHeld => ?_
 clear hK K;refine kK 13 ?_;refine kR 14 fun K hK => ?_
 obtain ⟨xx0,xx1,xx2,xx3,xx4,xx5,xx6⟩:=zag kJ;have ff0:=zf kJ 0;have ff1:=zf kJ 1;have ff2:=zf kJ 2;have ff3:=zf kJ 3;have ff4:=zf kJ 4;have ff5:=zf kJ 5;have ff6:=zf kJ 6;go_simp;refine zhK (K:=K _) kJ _ _ _ _ _ _ _ (fun wq kQ hgq => ?_);have bq:=(zc b0 vv).grown hgq (zc b0 vv).size (by intro j e; cases e; have:=HZ1.out; omega);have kF:=ze kF hgq (by intro j e; cases e; have:=HZ1.out; have:=HZ4.out; omega);have hc:=HBC.out _ bq;refine kO hK (⟨zm kF,hc⟩) fun hHeld => ?_
 clear hK K;refine wpAnyH_done (by kernel_rfl) ?_ _;have HB:=hide bq;obtain ⟨r0,r1,r2,r3,r4,r5,r6⟩:=zag kQ;clear hHeld kF kQ hgq bq vv hc kJ xx0 xx1 xx2 xx3 xx4 xx5 xx6 ff0 ff1 ff2 ff3 ff4 ff5 ff6;go_wp2;exact bodyPost_ret (v:=.agg #[.int .i64 (k:Int),.bool back,.int .i64 SV.r,.int .i64 SV.c,.int .i64 SV.h,.int .i64 SV.b,.int .i64 SV.p]) (by simp [results,Tryz.results50,go_sem, *]) rfl ⟨by rw [hSV],HB.out⟩

def across (x:LK) (b:Int):Option Int:=if b=x.a then some x.b else if b=x.b then some x.a else none
def ze4:Option Int→Value
 | some z=>.tuple #[.int .i64 z,.bool true]
 | none=>.tuple #[.int .i64 0,.bool false]

theorem zga (x:LK) (b:Int) (w:World) :
  Calls Tryz.prog 62 #[.agg #[.int .i64 x.a,.int .i64 x.p,.int .i64 x.b,.int .i64 x.q],.int .i64 b] w fun e w'=>e=.returned (ze4 (across x b))∧Below w.heap.size w w':=by
 generalize hw1:w.alloc (Obj.cells #[.int .i64 x.a,.int .i64 x.p,.int .i64 x.b,.int .i64 x.q] 66)=w1;have b01:=zb hw1;have k1:=zk hw1;obtain ⟨c0,c1,c2,c3⟩:=zE k1;have HB:=hide b01;clear b01 k1;by_cases h1:b=x.a
 ·have HE:Hid (across x b=some x.b):=hide (by unfold across; rw [if_pos h1]);subst h1;go_enter Tryz.func62,Tryz.ntmps62;go_wp2;rw [HE.out];exact bodyPost_ret (v:=.tuple #[.int .i64 x.b,.bool true]) (by simp [results,Tryz.results62,go_sem, *]) rfl ⟨rfl,HB.out⟩
 ·by_cases h2:b=x.b
  ·have HE:Hid (across x b=some x.a):=hide (by unfold across; rw [if_neg h1,if_pos h2]);have h1':¬x.a=b:=fun e=>h1 e.symm
   go_enter Tryz.func62,Tryz.ntmps62;go_wp2;rw [HE.out];exact bodyPost_ret (v:=.tuple #[.int .i64 x.a,.bool true]) (by simp [results,Tryz.results62,go_sem, *]) rfl ⟨rfl,HB.out⟩
  ·have HE:Hid (across x b=none):=hide (by unfold across; rw [if_neg h1,if_neg h2]);have h1':¬x.a=b:=fun e=>h1 e.symm
   have h2':¬x.b=b:=fun e=>h2 e.symm
   go_enter Tryz.func62,Tryz.ntmps62;go_wp2;rw [HE.out];exact bodyPost_ret (v:=.tuple #[.int .i64 0,.bool false]) (by simp [results,Tryz.results62,go_sem, *]) rfl ⟨rfl,HB.out⟩

theorem zcY (N:NV) (b:Int) (w:World) (h:zaa w N) :
  Calls Tryz.prog 31 #[.agg #[.slice N.ba N.bn N.bc,.slice N.la N.ln N.lc,.slice N.sa N.sn N.sc],.int .i64 b] w fun e w'=>∃v:Option Addr,e=.returned (.pointer v)∧(v=none↔inB N.bn b=false)∧Below w.heap.size w w':=by
 have hle:=Nat.le_trans h.b.le h.b.top;unfold maxLen at hle;cases hA:inB N.bn b
 ·refine (zfb N b w hle hA).mono ?_;rintro e w' ⟨rfl,hb⟩;exact ⟨none,rfl,by simp,hb⟩
 ·obtain ⟨k,rfl⟩:∃k:Nat,b=(k:Int):=⟨b.toNat,by have:=zaU.1 hA; omega⟩;have hk:k < N.bn:=by have:=zaU.1 hA; omega
  obtain ⟨x,bb,off,hx,hba,-⟩:=br_at h.b k hk;refine (zbm N k bb off w hle hk hba).mono ?_;rintro e w' ⟨rfl,hb⟩;exact ⟨_,rfl,by simp,hb⟩

theorem zjU (N:NV) (x:LK) (w:World) (h:zaa w N) :
  Calls Tryz.prog 65 #[.agg #[.slice N.ba N.bn N.bc,.slice N.la N.ln N.lc,.slice N.sa N.sn N.sc],.agg #[.int .i64 x.a,.int .i64 x.p,.int .i64 x.b,.int .i64 x.q]] w fun e w'=>e=.returned (.bool (inB N.bn x.a && inB N.bn x.b))∧Below w.heap.size w w':=by
 generalize hR:(inB N.bn x.a && inB N.bn x.b)=R;have HR:=hide hR;clear hR;generalize hw1:w.alloc (Obj.cells #[.slice N.ba N.bn N.bc,.slice N.la N.ln N.lc,.slice N.sa N.sn N.sc] 28)=w1;generalize hw2:w1.alloc (Obj.cells #[.int .i64 x.a,.int .i64 x.p,.int .i64 x.b,.int .i64 x.q] 66)=w2;have b01:=zb hw1;have b12:=zb hw2;have b02:=zc b01 b12;have kP:=za (zk hw1) b12;have kL:=zk hw2;obtain ⟨x0,x1,x2⟩:=zd kP;obtain ⟨l0,l1,l2,l3⟩:=zE kL;go_enter Tryz.func65,Tryz.ntmps65;go_wp2_with fail
 refine (zcY N x.a _ (h.below b02)).mono ?_;rintro e w3 ⟨v3,rfl,hv3,hb3⟩;have kP:=za kP hb3;have kL:=za kL hb3;have b03:=zc b02 hb3;clear x0 x1 x2 l0 l1 l2 l3 hb3 b01 b12 b02 hw1 hw2;obtain ⟨x0,x1,x2⟩:=zd kP;obtain ⟨l0,l1,l2,l3⟩:=zE kL;cases v3 with
 | none =>
  have HE:Hid (R=false):=hide (by rw [← HR.out,hv3.1 rfl]; rfl);have HB:=hide b03;clear hv3 b03 kP kL HR;go_wp2;go_ret;exact ⟨by rw [HE.out]; rfl,HB.out⟩
 | some p3 =>
  have h3:inB N.bn x.a=true:=by
   cases hc:inB N.bn x.a
   ·have:=hv3.2 hc
    cases this
   ·rfl
  have HE:Hid (R=inB N.bn x.b):=hide (by rw [← HR.out,h3]; rfl);clear hv3 h3 HR;(go_wp2_with fail);refine (zcY N x.b _ (h.below b03)).mono ?_;rintro e w4 ⟨v4,rfl,hv4,hb4⟩;have HB:=hide (zc b03 hb4);clear b03 hb4 kP kL x0 x1 x2 l0 l1 l2 l3;cases v4 with
  | none =>
   have HE:Hid (R=false):=hide (by rw [HE.out,hv4.1 rfl]);clear hv4;go_wp2;go_ret;exact ⟨by rw [HE.out]; rfl,HB.out⟩
  | some p4 =>
   have HE:Hid (R=true):=hide (by
    rw [HE.out];cases hc:inB N.bn x.b
    ·have:=hv4.2 hc
     cases this
    ·rfl)
   clear hv4;go_wp2;go_ret;exact ⟨by rw [HE.out]; rfl,HB.out⟩

section
open Go.RowKit Go.Lib

def zck (nb:Nat) (ls:List LK) (k:Int):Option LK:=match zcS ls k with
 | some x=>if (inB nb x.a && inB nb x.b)=true then some x else none
 | none=>none
def told (nb:Nat) (ls:List LK) (cs:List Int):List LK:=cs.filterMap (zck nb ls)
def CloT (T:List LK) (S:Int→Prop):Prop:=∀x∈T,(S x.a→S x.b)∧(S x.b→S x.a)
def RchT (T:List LK) (b z:Int):Prop:=∀S:Int→Prop,S b→CloT T S→S z

theorem zcO {nb:Nat} {ls:List LK} {cs:List Int} {x:LK}:x∈told nb ls cs↔∃k∈cs,zcS ls k=some x∧inB nb x.a=true∧inB nb x.b=true:=by
 unfold told;rw [List.mem_filterMap]
 constructor
 ·rintro ⟨k,hk,h⟩;unfold zck at h
  split at h
  ·rename_i y hy
   split at h
   ·rename_i hc
    cases h;simp only [Bool.and_eq_true] at hc;exact ⟨k,hk,hy,hc.1,hc.2⟩
   ·cases h
  ·cases h
 ·rintro ⟨k,hk,h,h1,h2⟩;refine ⟨k,hk, ?_⟩;unfold zck;rw [h];dsimp only;rw [h1,h2]
  rfl

theorem zmk {nb:Nat} {ls:List LK} {l cs:List Int} {b z:Int} (hcs:∀k,k∈cs↔k∈l) (hb:inB nb b=true):Rch nb ls l b z↔RchT (told nb ls cs) b z:=by
 constructor
 ·intro h S h1 h2;refine (h (fun y=>S y∧inB nb y=true) ⟨h1,hb⟩ (fun k hk x hx=>⟨fun ha hi=>⟨?_,hi⟩,fun ha hi=>⟨?_,hi⟩⟩)).1
  ·exact (h2 x (zcO.2 ⟨k,(hcs k).2 hk,hx,ha.2,hi⟩)).1 ha.1
  ·exact (h2 x (zcO.2 ⟨k,(hcs k).2 hk,hx,hi,ha.2⟩)).2 ha.1
 ·intro h S h1 h2;refine h S h1 (fun x hx => ?_);obtain ⟨k,hk,hl,ha,hb⟩:=zcO.1 hx
  have:=h2 k ((hcs k).1 hk) x hl
  exact ⟨fun h=>this.1 h hb,fun h=>this.2 h ha⟩

theorem ze5 {x:LK} {z y:Int} (h:across x z=some y):(z=x.a∧y=x.b)∨(z=x.b∧y=x.a):=by
 unfold across at h
 split at h
 ·rename_i e; cases h; exact .inl ⟨e,rfl⟩
 ·split at h
  ·rename_i e; cases h; exact .inr ⟨e,rfl⟩
  ·cases h

structure RI (nb:Nat) (T:List LK) (b:Int) (S:List Int) (p:Nat):Prop where
 good:GoodL nb S
 here:b∈S
 le:p≤S.length
 rch:∀z∈S,RchT T b z
 done:∀j z,j < p→S[j]? = some z→∀x∈T,∀y,across x z=some y→y∈S

structure RJ (nb:Nat) (T:List LK) (b:Int) (S:List Int) (p:Nat) (z:Int) (i:Nat):Prop where
 ri:RI nb T b S p
 at':S[p]? = some z
 part:∀j x,j < i→T[j]? = some x→∀y,across x z=some y→y∈S

theorem RI.start {nb:Nat} {T:List LK} {b:Int} (hb:inB nb b=true):RI nb T b [b] 0 where
 good:=⟨by simp,fun z hz=>by simp at hz; rw [hz]; exact zaU.1 hb⟩
 here:=by simp
 le:=Nat.zero_le _
 rch:=fun z hz=>by simp at hz; rw [hz]; exact fun S h _=>h
 done:=fun _ _ hj=>absurd hj (Nat.not_lt_zero _)

theorem RI.begin {nb:Nat} {T:List LK} {b:Int} {S:List Int} {p:Nat} {z:Int} (h:RI nb T b S p) (hz:S[p]? = some z):RJ nb T b S p z 0:=⟨h,hz,fun _ _ hj=>absurd hj (Nat.not_lt_zero _)⟩

theorem RJ.stay {nb:Nat} {T:List LK} {b:Int} {S:List Int} {p:Nat} {z:Int} {i:Nat} (h:RJ nb T b S p z i) {x:LK} (hx:T[i]? = some x) (hs:∀y,across x z=some y→y∈S):RJ nb T b S p z (i+1) :=
 ⟨h.ri,h.at',fun j u hj hu y hy=>by
  by_cases e:j=i
  ·subst e;rw [hx] at hu;cases hu;exact hs y hy
  ·exact h.part j u (by omega) hu y hy⟩

theorem RJ.more {nb:Nat} {T:List LK} {b:Int} {S:List Int} {p:Nat} {z:Int} {i:Nat} (h:RJ nb T b S p z i) (hT:∀x∈T,inB nb x.a=true∧inB nb x.b=true) {x:LK} (hx:T[i]? = some x) {y:Int} (hy:across x z=some y) (hn:y∉S):RJ nb T b (S++[y]) p z (i+1):=by
 have hxT:=List.mem_of_getElem? hx;have hzS:z∈S:=List.mem_of_getElem? h.at';have hp:p < S.length:=(List.getElem?_eq_some_iff.1 h.at').1;have old:∀{j:Nat} {u:Int},j < S.length→(S++[y])[j]? = some u→S[j]? = some u:=fun hj hu=>by rw [List.getElem?_append_left hj] at hu; exact hu
 have hyB:inB nb y=true:=by
  rcases ze5 hy with ⟨-,rfl⟩ | ⟨-,rfl⟩
  ·exact (hT x hxT).2
  ·exact (hT x hxT).1
 refine ⟨⟨⟨?_,fun u hu => ?_⟩,List.mem_append.2 (.inl h.ri.here),by rw [List.length_append]; omega,fun u hu => ?_,fun j u hj hu v hv q hq => ?_⟩,by rw [List.getElem?_append_left hp]; exact h.at',fun j u hj hu v hv => ?_⟩
 ·rw [List.nodup_append];exact ⟨h.ri.good.1,by simp,fun u hu v hv=>by simp at hv; rw [hv]; exact fun e=>hn (e▸hu)⟩
 ·rcases List.mem_append.1 hu with h1 | h1
  ·exact h.ri.good.2 u h1
  ·simp at h1; rw [h1]; exact zaU.1 hyB
 ·rcases List.mem_append.1 hu with h1 | h1
  ·exact h.ri.rch u h1
  ·simp at h1
   rw [h1];intro Q hQ hc;have hz:=h.ri.rch z hzS Q hQ hc;rcases ze5 hy with ⟨rfl,rfl⟩ | ⟨rfl,rfl⟩
   ·exact (hc x hxT).1 hz
   ·exact (hc x hxT).2 hz
 ·exact List.mem_append.2 (.inl (h.ri.done j u hj (old (by have:=h.ri.le; omega) hu) v hv q hq))
 ·by_cases e:j=i
  ·subst e;rw [hx] at hu;cases hu;rw [hy] at hv;cases hv
   simp
  ·exact List.mem_append.2 (.inl (h.part j u (by omega) hu v hv))

theorem RJ.next {nb:Nat} {T:List LK} {b:Int} {S:List Int} {p:Nat} {z:Int} (h:RJ nb T b S p z T.length):RI nb T b S (p+1) where
 good:=h.ri.good
 here:=h.ri.here
 le:=(List.getElem?_eq_some_iff.1 h.at').1
 rch:=h.ri.rch
 done:=fun j u hj hu x hx y hy=>by
  by_cases e:j=p
  ·subst e;rw [h.at'] at hu;cases hu;obtain ⟨k,hk,rfl⟩:=List.mem_iff_getElem.1 hx;exact h.part k _ hk (List.getElem?_eq_getElem hk) y hy
  ·exact h.ri.done j u (by omega) hu x hx y hy

theorem RI.all {nb:Nat} {T:List LK} {b:Int} {S:List Int} (h:RI nb T b S S.length) {z:Int}:z∈S↔RchT T b z:=by
 refine ⟨h.rch z,fun hr=>hr _ h.here (fun x hx=>⟨fun ha => ?_,fun hb => ?_⟩)⟩
 ·obtain ⟨j,hj,e⟩:=List.mem_iff_getElem.1 ha;exact h.done j x.a hj (by rw [List.getElem?_eq_getElem hj,e]) x hx x.b (by unfold across; rw [if_pos rfl])
 ·by_cases e:x.b=x.a
  ·rw [← e]; exact hb
  ·obtain ⟨j,hj,e'⟩:=List.mem_iff_getElem.1 hb;exact h.done j x.b hj (by rw [List.getElem?_eq_getElem hj,e']) x hx x.a (by unfold across; rw [if_neg e,if_pos rfl])

theorem zft (S:List Int):∀k,(zb9 S k).Pairwise (fun a b=>a < b)
 | 0=>List.Pairwise.nil
 | k+1=>by
  unfold zb9
  split
  ·rw [List.pairwise_append];exact ⟨zft S k,by simp,fun a ha c hc=>by simp at hc; rw [hc]; exact (zdj.1 ha).2.2⟩
  ·exact zft S k

theorem zgU {nb:Nat} {ls:List LK} {l cs S:List Int} {b:Int} (hcs:∀k,k∈cs↔k∈l) (hb:inB nb b=true) (h:RI nb (told nb ls cs) b S S.length):S.mergeSort leI=joined nb ls b l:=by
 have hj:joined nb ls b l=zb9 (itTo nb ls l b nb) nb:=by unfold joined; rw [if_pos hb]
 have hp:=zft (itTo nb ls l b nb) nb;have hperm:S.Perm (joined nb ls b l):=by
  rw [hj];refine (List.perm_ext_iff_of_nodup h.good.1 (hp.imp (fun hlt e=>by omega))).2 (fun z => ?_);rw [h.all,← zmk hcs hb,← zhD hb,zdj];exact ⟨fun hz=>⟨hz,(zix hb nb).2 z hz⟩,fun hz=>hz.1⟩
 rw [mergeSort_of_perm_i hperm];have tr:∀a b c:Int,leI a b=true→leI b c=true→leI a c=true:=fun a b c h1 h2=>by simp only [leI,decide_eq_true_eq] at *; omega
 have tot:∀a b:Int,(leI a b || leI b a)=true:=fun a b=>by simp only [leI,Bool.or_eq_true,decide_eq_true_eq]; omega
 refine List.Perm.eq_of_pairwise (le:=fun a b=>leI a b=true) (fun a c _ _ h1 h2 => ?_) (List.pairwise_mergeSort tr tot _) ?_ (List.mergeSort_perm _ leI)
 ·simp only [leI,decide_eq_true_eq] at h1 h2;omega
 ·rw [hj];exact hp.imp (fun hlt=>by simp only [leI,decide_eq_true_eq]; omega)

theorem zhe {d:Array Int}:∀m,m≤d.size→∀j,j < m→d[j]! ∈ compactUpTo d m
 | 0,_,j,hj=>absurd hj (Nat.not_lt_zero _)
 | m+1,hm,j,hj=>by
  rw [compactUpTo_succ];by_cases e:j=m
  ·subst e;by_cases hk:keeps d j=true
   ·rw [if_pos hk]; simp
   ·have hj0:¬(j=0∨d[j]! ≠ d[j - 1]!):=by simpa [keeps] using hk
    have h0:j≠0:=fun h=>hj0 (.inl h)
    have h1:d[j]! = d[j - 1]! := Classical.byContradiction fun h=>hj0 (.inr h)
    rw [h1];exact List.mem_append.2 (.inl (zhe j (by omega) (j - 1) (by omega)))
  ·exact List.mem_append.2 (.inl (zhe m (by omega) j (by omega)))

theorem zij {zs:List Int} {z:Int}:z∈compact zs↔z∈zs:=by
 constructor
 ·intro h;unfold compact compactUpTo at h;obtain ⟨j,hj,rfl⟩:=List.mem_map.1 h;have hj:=List.mem_range.1 (List.mem_filter.1 hj).1
  simp [hj]
 ·intro h;obtain ⟨j,hj,rfl⟩:=List.mem_iff_getElem.1 h
  have:=zhe (d:=zs.toArray) zs.length (by simp) j hj
  unfold compact
  simpa [hj] using this
theorem zh7 {d:Array Int} (hd:∀i j,i≤j→j < d.size→d[i]! ≤ d[j]!):∀m,m≤d.size→(compactUpTo d m).Pairwise (fun a b=>a < b)∧∀z∈compactUpTo d m,∃j,j < m∧z=d[j]!
 | 0,_=>by simp [compactUpTo]
 | m+1,hm=>by
  obtain ⟨h1,h2⟩:=zh7 hd m (by omega);rw [compactUpTo_succ];have h3:∀z∈compactUpTo d m,∃j,j < m+1∧z=d[j]! := fun z hz=>by
   obtain ⟨j,hj,e⟩:=h2 z hz;exact ⟨j,by omega,e⟩
  by_cases hk:keeps d m=true
  ·rw [if_pos hk];refine ⟨List.pairwise_append.2 ⟨h1,by simp,fun a ha b hb => ?_⟩,fun z hz => ?_⟩
   ·obtain ⟨j,hj,rfl⟩:=h2 a ha;simp only [List.mem_singleton] at hb;subst hb;have hk2:m=0∨d[m]! ≠ d[m - 1]! := by simpa [keeps] using hk
    have a1:=hd j (m - 1) (by omega) (by omega);have a2:=hd (m - 1) m (by omega) (by omega);rcases hk2 with e | e
    ·omega
    ·omega
   ·rcases List.mem_append.1 hz with h | h
    ·exact h3 z h
    ·simp only [List.mem_singleton] at h;exact ⟨m,by omega,h⟩
  ·rw [if_neg hk,List.append_nil];exact ⟨h1,h3⟩
theorem zgI {zs:List Int} (h:zs.Pairwise (fun a b=>a≤b)):(compact zs).Nodup:=by
 have hp:=List.pairwise_iff_getElem.1 h
 have:=(zh7 (d:=zs.toArray) (fun i j hij hj=>by
  have hj2:j < zs.length:=by simpa using hj
  have hi2:i < zs.length:=by omega
  rcases Nat.lt_or_ge i j with hl | hl
  ·simpa [hi2,hj2] using hp i j hi2 hj2 hl
  ·have e:i=j:=by omega
   subst e;exact Int.le_refl _) zs.length (by simp)).1
 exact this.imp (fun hab e=>by omega)
theorem zff (zs:List Int):(compact zs).length≤zs.length:=by
 unfold compact compactUpTo;rw [List.length_map];exact Nat.le_trans (List.length_filter_le _ _) (by simp)

/-! The map of what is reached. -/
open Go.Maps in
def setI (S:List Int):DataW Unit:=setOf (.agg []) (S.map (Lit.int .i64))
open Go.Maps in
theorem zkY (z:Int):WideAt.IsKeyLit (.int .i64 z):=by first | exact trivial | (simp [WideAt.IsKeyLit])
open Go.Maps in
theorem zd4 (S:List Int) (z:Int):has (setI S) (.int .i64 z)=S.contains z:=by
 unfold setI;rw [has_setOf _ _ _ (fun x hx=>by obtain ⟨y,_,rfl⟩:=List.mem_map.1 hx; exact zkY y)];rw [List.any_map,Bool.eq_iff_iff,List.any_eq_true,List.contains_iff_mem]
 constructor
 ·rintro ⟨y,hy,h⟩;by_cases e:y=z
  ·rw [← e]; exact hy
  ·have:=sameKey_ne (a:=Lit.int .i64 y) (b:=Lit.int .i64 z) (fun e'=>e (by simpa using e'))
   rw [Function.comp] at h;rw [this] at h;cases h
 ·intro h;exact ⟨z,h,WideAt.sameKey_self (zkY z)⟩
open Go.Maps in
theorem zlo (S:List Int) (z:Int):setI (S++[z])=(setI S).put (.int .i64 z) (.agg []):=by
 unfold setI;rw [List.map_append];exact setOf_snoc _ _ _

end

theorem zkT {w:World} {ao:Option Addr} {n c:Nat} {l:List Int} (h:GRow intF w ao n c l) (i:Nat) (hi:i < n):∃(z:Int) (b off:Nat),l[i]? = some z∧ao=some ⟨b,off,none⟩∧w.cell? ⟨b,off+i,none⟩=some (.int .i64 z):=by
 obtain ⟨z,b,off,hz,ha,hc⟩:=h.at i hi;exact ⟨z,b,off,hz,ha,by have:=hc 0 _ rfl; simpa [intF] using this⟩

section
open Go.RowKit Go.Lib

theorem zlt {nb:Nat} {ls:List LK} {cs:List Int} {k:Nat} {z:Int} (h:cs[k]? = some z) (h0:zck nb ls z=none):told nb ls (cs.take (k+1))=told nb ls (cs.take k):=by
 unfold told;rw [List.take_add_one,h,List.filterMap_append]
 simp [h0]
theorem zmt {nb:Nat} {ls:List LK} {cs:List Int} {k:Nat} {z:Int} {x:LK} (h:cs[k]? = some z) (h0:zck nb ls z=some x):told nb ls (cs.take (k+1))=told nb ls (cs.take k)++[x]:=by
 unfold told;rw [List.take_add_one,h,List.filterMap_append]
 simp [h0]
theorem zmY {ls:List LK} {ln:Nat} {z:Int} (h:inB ln z=false) (hs:ls.length=ln):zcS ls z=none:=by
 unfold zcS
 split
 ·rw [List.getElem?_eq_none];have h1:¬inB ln z=true:=by rw [h]; simp
  rw [zaU] at h1;omega
 ·rfl
theorem zjD (nb:Nat) (ls:List LK) (cs:List Int):(told nb ls cs).length≤cs.length:=List.length_filterMap_le _ _

theorem zik {w:World} {base n:Nat} {v:Value} {zs:List Int} (hn:zs.length=n) (h:w.ownsRow base 3 1 v n (zs.map encZ)) :
  Calls Tryz.prog 63 #[v] w fun e w'=>∃ao cap,e=.returned (.slice ao (compact zs).length cap)∧GRow intF w' ao (compact zs).length cap (compact zs)∧(∀W0,Below base W0 w→Below base W0 w'):=by
 subst hn;obtain ⟨-,⟨rfl,h0⟩ | ⟨g,cap,cur,rfl,hb,hg,r1,r2,r3,r4⟩⟩:=h
 ·have hz:zs=[]:=List.eq_nil_of_length_eq_zero h0;subst hz;refine (Tryz.slices_Compact_int_empty none 0 w).mono ?_;rintro e w' ⟨rfl,rfl⟩;exact ⟨none,0,rfl,zdh intF _,fun _ hW=>hW⟩
 ·have hH:Go.Sort.Holds (Value.int .i64) w g 0 zs.toArray:=holds_of_block_i hg (by simpa using r4);refine (Tryz.slices_Compact_int g 0 cap zs w hH (by unfold maxLen at r2; omega) r1).mono ?_;rintro e w' ⟨rfl,q,rfl⟩;have hcl:=zff zs;have hH2:=Go.Sort.holds_putRow (Value.int .i64) (Go.Sort.ahead w q) g 0 zs.toArray (compact zs++List.replicate (zs.length - (compact zs).length) 0).toArray (Go.Sort.holds_ahead _ _ _ _ _ _ hH) (by simp; omega);have hgr:w.grownBy (Go.Sort.putRow (Value.int .i64) (Go.Sort.ahead w q) g 0 (compact zs++List.replicate (zs.length - (compact zs).length) 0).toArray) (some g):=⟨rfl,rfl,rfl,by simp [Go.Sort.putRow,Go.Sort.mapBlock,Go.Sort.ahead],fun k hk hne=>by
   have:g≠k:=fun e=>hne (by rw [e])
   simp [Go.Sort.putRow,Go.Sort.mapBlock,Go.Sort.ahead,Array.getElem?_modify,this]⟩
  refine ⟨some ⟨g,0,none⟩,cap,rfl,⟨rfl,by omega,r2,(by intro h; cases h),.inr ⟨g,0,rfl,fun i x hx j v hv => ?_⟩⟩,fun W0 hW=>hW.grown hgr (Nat.le_of_lt (Nat.lt_of_le_of_lt hb (Array.getElem?_eq_some_iff.1 hg).1)) (fun k e=>by cases e; exact hb)⟩;have hi:i < (compact zs).length:=(List.getElem?_eq_some_iff.1 hx).1;obtain ⟨hc,-⟩:=hH2 i (by simp; omega);have hj:j=0:=by
   have:=(List.getElem?_eq_some_iff.1 hv).1
   simp [intF] at this
   omega
  subst hj;have hv:v=.int .i64 x:=by simpa [intF] using hv.symm
  subst hv;have e1:((compact zs++List.replicate (zs.length - (compact zs).length) 0).toArray)[i]! = x:=by
   have hx':(compact zs)[i]=x:=by rw [List.getElem?_eq_getElem hi] at hx; simpa using hx
   simp [hi,hx',List.getElem?_append_left hi]
  rw [e1] at hc
  simpa [intF] using hc

theorem zeb (N:NV) (la:Option Addr) (n c:Nat) (l:List Int) (w:World) (h:zaa w N) (hl:GRow intF w la n c l) (hn:n≤1048576) :
  Calls Tryz.prog 35 #[.agg #[.slice N.ba N.bn N.bc,.slice N.la N.ln N.lc,.slice N.sa N.sn N.sc],.slice la n c] w fun e w'=>∃(cs:List Int) (ao:Option Addr) (cap:Nat),(∀k,k∈cs↔k∈l)∧cs.Nodup∧cs.length≤n∧e=.returned (.slice ao (told N.bn N.ls cs).length cap)∧w'.ownsRow w.heap.size 66 4 (.slice ao (told N.bn N.ls cs).length cap) (told N.bn N.ls cs).length (linkF.all (told N.bn N.ls cs))∧Below w.heap.size w w':=by
 have HLL:Hid (N.ln≤9223372036854775807):=hide (by have:=Nat.le_trans h.l.le h.l.top; unfold maxLen at this; omega);have HSL:=hide h.l.size;have HSN:=hide hl.size;generalize hw1:w.alloc (Obj.cells #[.slice N.ba N.bn N.bc,.slice N.la N.ln N.lc,.slice N.sa N.sn N.sc] 28)=w1;generalize hw2:w1.alloc (Obj.cells #[.slice la n c] 35)=w2;have b01:=zb hw1;have b12:=zb hw2;have b02:=zc b01 b12;have k1:=za (zk hw1) b12;have k2:=zk hw2;have hc2:w2.cell? ⟨w1.heap.size,0,none⟩=some (.slice la n c):=by simp [World.cell?,k2]
 have hl2:=hl.below b02;have hI:zi1 w2 (.slice la n c) l:=by
  have hsz:=hl2.size;rcases hl2.cell with h0 | ⟨b,off,rfl,hcell⟩
  ·have hz:l=[]:=List.eq_nil_of_length_eq_zero (by omega);subst hz;subst h0;exact .inl ⟨la,c,rfl,rfl⟩
  ·refine .inr ⟨b,off,c,by rw [hsz],fun j hj => ?_⟩
   have:=hcell j l[j] (List.getElem?_eq_getElem hj) 0 _ rfl
   have hcl:w2.cell? ⟨b,off+j,none⟩=some (.int .i64 l[j]):=by simpa [intF] using this
   exact ⟨zp hcl,by rw [hcl,List.getElem?_eq_getElem hj]; rfl⟩
 have hB1:w1.heap.size < w2.heap.size:=(Array.getElem?_eq_some_iff.1 k2).1;have hn16:l.length≤16777216:=by have:=hl.size; omega
 go_enter Tryz.func35,Tryz.ntmps35;go_wp2_with fail
 refine (zkp la n c _).mono ?_;rintro e w2' ⟨rfl,rfl⟩;rw [hw2];go_wp2_with fail
 refine (zf3 (.slice la n c) l w1.heap.size w2 hn16 hB1 hc2 hI).mono ?_;rintro e w3 ⟨v3,rfl,ow3,-,hb3⟩;clear hw1 hw2 b01 b12 k2 hc2 hI hl2 hB1 hn16;go_wp2_with fail
 refine (zik (by rw [List.length_mergeSort]) ow3).mono ?_;rintro e w5 ⟨ca,cc,rfl,hC,hbb⟩;have b0:=zc b02 (hbb _ hb3);have k5:=za k1 (hbb _ hb3);have HK:Hid (w.heap.size < w5.heap.size):=hide (Array.getElem?_eq_some_iff.1 k5).1;have HCM:Hid (∀k,k∈compact (l.mergeSort (fun x y=>decide (x≤y)))↔k∈l):=hide (fun k=>zij.trans List.mem_mergeSort);have HCO:Hid ((compact (l.mergeSort (fun x y=>decide (x≤y)))).Nodup):=hide (zgI ((List.pairwise_mergeSort (le:=fun x y:Int=>decide (x≤y)) (fun a b c h1 h2=>by simp only [decide_eq_true_eq] at *; omega) (fun a b=>by simp only [Bool.or_eq_true,decide_eq_true_eq]; omega) l).imp (fun h=>by simpa using h)));have HCN:Hid ((compact (l.mergeSort (fun x y=>decide (x≤y)))).length≤n):=hide (by have:=zff (l.mergeSort (fun x y=>decide (x≤y))); rw [List.length_mergeSort] at this; have:=HSN.out; omega);clear hbb hb3 ow3 k1 b02;generalize compact (l.mergeSort (fun x y=>decide (x≤y)))=cs at hC HCM HCN HCO;have HCL:Hid (cs.length≤1048576):=hide (by have:=HCN.out; omega);go_wp2_with fail
 go_loopw [5,7,13] (fun p u i wr=>∃(k:Nat) (ao:Option Addr) (cap:Nat),k≤cs.length∧i=.int .i64 k∧p=.slice ao (told N.bn N.ls (cs.take k)).length cap∧wr.ownsRow w5.heap.size 66 4 (.slice ao (told N.bn N.ls (cs.take k)).length cap) (told N.bn N.ls (cs.take k)).length (linkF.all (told N.bn N.ls (cs.take k)))∧Below w5.heap.size w5 wr) (fun _ _ i _=>cs.length - (intOf i).toNat)
 case atStart=>exact ⟨0,none,0,Nat.zero_le _,rfl,rfl,World.ownsRow_nil _ _ _ _,Below.refl _ _⟩
 case round =>
  obtain ⟨k,ao,cap,hk,rfl,rfl,ow,hb⟩:=hrel;have hcl:=HCL.out;have kP:=za k5 hb;obtain ⟨x0,x1,x2⟩:=zd kP;by_cases hlt:k < cs.length
  ·have i1:(0:Int)≤(k:Int):=by omega
   have i2:(k:Int) < (cs.length:Int):=by omega
   obtain ⟨z,b,off,hz,rfl,c0⟩:=zkT (hC.below hb) k hlt;have HZ2:=hide hz;clear hz;have vv:Below wr.heap.size wr wr.drew:=zq (Below.refl _ _);have hww:IntKind.i64.wrap ((N.ln:Int) - 1)=(N.ln:Int) - 1:=by rw [IntKind.wrap_i64]; have:=HLL.out; omega
   cases hB:inB N.ln z
   ·have HBB:Hid ((decide (0≤z) && decide (z≤(N.ln:Int) - 1))=false):=hide hB;have HTN:Hid (told N.bn N.ls (cs.take (k+1))=told N.bn N.ls (cs.take k)):=hide (zlt HZ2.out (by unfold zck; rw [zmY hB HSL.out]));clear hB;(go_upto_region 5 with fail);refine wp_region_held_drew (S:=(fun W=>(zcc W w.heap.size 0 (.slice N.ba N.bn N.bc)∧zcc W w.heap.size 1 (.slice N.la N.ln N.lc)∧zcc W w.heap.size 2 (.slice N.sa N.sn N.sc)))) (by kernel_rfl) ((zd (za kP vv))) (fun hHeld => ?_);refine kK 0 ?_;refine kK 1 ?_;refine kK 2 ?_;refine kK 3 ?_;refine kK 4 ?_;refine kR 5 fun K hK => ?_
    go_simp;clear hHeld;refine (zP z 0 ((N.ln:Int) - 1) _).mono ?_;rintro e wz ⟨rfl,ez⟩;obtain rfl:=ez.symm;rw [HBB.out];(go_wp2_with fail);refine kO hK ((zd (za kP vv))) fun hHeld => ?_
    clear hK K;refine kK 6 ?_;refine kN 7 ?_;refine kN 8 ?_;refine kN 9 ?_;refine kN 10 ?_;refine kN 11 ?_;refine kN 12 ?_;refine kN 13 ?_;refine kK 14 ?_;refine wpAnyH_done (by kernel_rfl) ?_ _;have hb:=zc hb vv;have ow:=zh ow vv;clear hHeld vv;generalize hwd:wr.drew=wd at *;have HOW:=hide ow;have HB:=hide hb;clear ow hb kP x0 x1 x2;go_wp2
    go_roundw
    case rel=>exact ⟨k+1,ao,cap,by omega,by go_num,by rw [HTN.out],by rw [HTN.out]; exact HOW.out,HB.out⟩
    case measure=>simp [intOf]; omega
   ·obtain ⟨m,rfl⟩:∃m:Nat,z=(m:Int):=⟨z.toNat,by have:=zaU.1 hB; omega⟩;have hm:m < N.ln:=by have:=zaU.1 hB; omega
    obtain ⟨x,lb,lo,hx,hla,-⟩:=zao (h.l.below (zc b0 hb)) m hm;have HBB:Hid ((decide (0≤(m:Int)) && decide ((m:Int)≤(N.ln:Int) - 1))=true):=hide hB;have HLK:Hid (zcS N.ls (m:Int)=some x):=hide (by unfold zcS; rw [if_pos (by omega),Int.toNat_natCast,hx]);have HX:=hide hx;have HLA:=hide hla;have HSX:Hid (∀W,Below wr.heap.size wr W→(zcc W w.heap.size 0 (.slice N.ba N.bn N.bc)∧zcc W w.heap.size 1 (.slice (some ⟨lb,lo,none⟩) N.ln N.lc)∧zcc W w.heap.size 2 (.slice N.sa N.sn N.sc))∧(zcc W lb (lo+m*4) (.int .i64 x.a)∧zcc W lb (lo+m*4+1) (.int .i64 x.p)∧zcc W lb (lo+m*4+2) (.int .i64 x.b)∧zcc W lb (lo+m*4+3) (.int .i64 x.q))):=hide (fun W hW=>by
     have kW:=za kP hW;obtain ⟨u0,u1,u2⟩:=zd kW;rw [HLA.out] at u1;obtain ⟨x',lb',lo',hx',hla',a0,a1,a2,a3⟩:=zao (h.l.below (zc (zc b0 hb) hW)) m hm;rw [HX.out] at hx';cases hx';rw [HLA.out] at hla';cases hla';exact ⟨⟨u0,u1,u2⟩,a0,a1,a2,a3⟩)
    have i3:(0:Int)≤(m:Int):=by omega
    have i4:(m:Int) < (N.ln:Int):=by omega
    clear hB hx hla x0 x1 x2;(go_upto_region 5 with fail);refine wp_region_held_drew (S:=(fun W=>(zcc W w.heap.size 0 (.slice N.ba N.bn N.bc)∧zcc W w.heap.size 1 (.slice (some ⟨lb,lo,none⟩) N.ln N.lc)∧zcc W w.heap.size 2 (.slice N.sa N.sn N.sc))∧(zcc W lb (lo+m*4) (.int .i64 x.a)∧zcc W lb (lo+m*4+1) (.int .i64 x.p)∧zcc W lb (lo+m*4+2) (.int .i64 x.b)∧zcc W lb (lo+m*4+3) (.int .i64 x.q)))) (by kernel_rfl) ((by first | exact HSS.out | exact HSX.out _ vv)) (fun hHeld => ?_);refine kK 0 ?_;refine kK 1 ?_;refine kK 2 ?_;refine kK 3 ?_;refine kK 4 ?_;refine kR 5 fun K hK => ?_
    go_simp;clear hHeld;refine (zP (m:Int) 0 ((N.ln:Int) - 1) _).mono ?_;rintro e wz ⟨rfl,ez⟩;obtain rfl:=ez.symm;rw [HBB.out];(go_wp2_with fail);refine kO hK ((by first | exact HSS.out | exact HSX.out _ vv)) fun hHeld => ?_
    clear hK K;refine kK 6 ?_;refine kK 7 ?_;refine kK 8 ?_;refine kK 9 ?_;refine kK 10 ?_;refine kK 11 ?_;refine kK 12 ?_;refine kR 13 fun K hK => ?_
    go_simp;clear hHeld;have hbd:=zc hb vv;rw [← HLA.out];refine (zjU N x _ (h.below (zc b0 hbd))).mono ?_;rintro e w6 ⟨rfl,hb6⟩;have hb:=zc hbd hb6;have ow:=zh (zh ow vv) hb6;have kP:=za (za kP vv) hb6;have HSS:=hide (HSX.out w6 (zc vv hb6));clear hbd hb6 vv;obtain ⟨x0,x1,x2⟩:=zd kP;(go_wp2_with fail);refine kO hK ((by first | exact HSS.out | exact HSX.out _ vv)) fun hHeld => ?_
    clear hK K;refine kK 14 ?_;refine wpAnyH_done (by kernel_rfl) ?_ _;clear hHeld;generalize hQ:(inB N.bn x.a && inB N.bn x.b)=Q;have HQ:=hide hQ;clear hQ;generalize hwd:w6=wd at *;cases Q
    ·have HTN:Hid (told N.bn N.ls (cs.take (k+1))=told N.bn N.ls (cs.take k)):=hide (zlt HZ2.out (by unfold zck; rw [HLK.out]; dsimp only; rw [HQ.out]; rfl));have HOW:=hide ow;have HB:=hide hb;clear ow hb kP x0 x1 x2;go_wp2
     go_roundw
     case rel=>exact ⟨k+1,ao,cap,by omega,by go_num,by rw [HTN.out],by rw [HTN.out]; exact HOW.out,HB.out⟩
     case measure=>simp [intOf]; omega
    ·have HTN:Hid (told N.bn N.ls (cs.take (k+1))=told N.bn N.ls (cs.take k)++[x]):=hide (zmt HZ2.out (by unfold zck; rw [HLK.out]; dsimp only; rw [HQ.out]; rfl));have HTL:Hid ((told N.bn N.ls (cs.take (k+1))).length=(told N.bn N.ls (cs.take k)).length+1):=hide (by rw [HTN.out,List.length_append]; rfl);have HLQ:=hide (Nat.le_trans (zjD N.bn N.ls (cs.take k)) (by rw [List.length_take]; exact Nat.min_le_left _ _));obtain ⟨x',lb',lo',hx',hla',a0,a1,a2,a3⟩:=zao (h.l.below (zc b0 hb)) m hm;rw [HX.out] at hx';cases hx';rw [HLA.out] at hla';cases hla';generalize hwa:wd.alloc (Obj.cells #[.int .i64 x.a,.int .i64 x.p,.int .i64 x.b,.int .i64 x.q] 66)=wa;have bra:=zb hwa;have ka:=zk hwa;have gone:GRow linkF wa (some ⟨wd.heap.size,0,none⟩) 1 1 [x]:=zC (F:=linkF) (zc7 linkF (x:=x) (base:=0) ka rfl (Nat.zero_le _));have hI2:=zh ow bra;have HBA:=hide (zc hb bra);rw [HLA.out] at x1;clear ow hb kP;go_wp2_with (at_builtin; refine zK (F:=linkF) _ rfl _ _ 25 66 rfl w5.heap.size Tryz.underlying25 zaQ rfl (by decide) _ (told N.bn N.ls (cs.take k)).length (told N.bn N.ls (cs.take k)) rfl hI2 (some ⟨wd.heap.size,0,none⟩) 1 1 [x] rfl gone (by have:=HLQ.out; omega) HBA.out.size ?_)
     intro a7 c7 w7 how hr hgr hb7;rw [← HTN.out] at how;have HOW:=hide how;have HB:=hide (HBA.out.trans hb7);clear how hr hgr hb7 hI2 gone ka hwa bra x0 x1 x2 a0 a1 a2 a3;go_wp2
     go_roundw
     case rel=>exact ⟨k+1,a7,c7,by omega,by go_num,by rw [HTL.out],by rw [HTL.out]; exact HOW.out,HB.out⟩
     case measure=>simp [intOf]; omega
  ·have hkn:k=cs.length:=by omega
   subst hkn;have HO:=hide ow;have HB:=hide hb;clear ow hb kP x0 x1 x2;go_wp2;go_ret;refine ⟨cs,ao,cap,HCM.out,HCO.out,HCN.out,by first | rfl | (rw [List.take_length]; rfl), ?_,zc b0 HB.out⟩
   have:=HO.out
   rw [List.take_length] at this;exact zH this (Nat.le_of_lt HK.out)

end

def upTo (bs:List BR) (ls:List LK):Nat→List Int
 | 0=>[]
 | k+1=>if zT bs ls (k:Int)=true then upTo bs ls k++[(k:Int)] else upTo bs ls k

theorem ziX {bs:List BR} {ls:List LK} {k:Nat} (h:zT bs ls (k:Int)=false):upTo bs ls (k+1)=upTo bs ls k:=by
 rw [upTo,if_neg (by rw [h]; decide)]
theorem zhf {bs:List BR} {ls:List LK} {k:Nat} (h:zT bs ls (k:Int)=true):upTo bs ls (k+1)=upTo bs ls k++[(k:Int)]:=by
 rw [upTo,if_pos h]
theorem ze0 (bs:List BR) (ls:List LK):∀k,(upTo bs ls k).length≤k
 | 0=>Nat.le_refl _
 | k+1=>by
  have:=ze0 bs ls k
  cases h:zT bs ls (k:Int)
  ·rw [ziX h]; omega
  ·rw [zhf h,List.length_append]; simp; omega
theorem zng (bs:List BR) (ls:List LK):∀k,∀z∈upTo bs ls k,0≤z∧z < (k:Int)∧zT bs ls z=true
 | 0=>fun z hz=>by simp [upTo] at hz
 | k+1=>fun z hz=>by
  have ih:=zng bs ls k;cases h:zT bs ls (k:Int)
  ·rw [ziX h] at hz
   have:=ih z hz
   exact ⟨this.1,by omega,this.2.2⟩
  ·rw [zhf h,List.mem_append] at hz;rcases hz with hz | hz
   ·have:=ih z hz
    exact ⟨this.1,by omega,this.2.2⟩
   ·simp at hz
    subst hz;exact ⟨by omega,by omega,h⟩
theorem zlw {bs:List BR} {ls:List LK} {k:Int}:∀{n:Nat},k∈upTo bs ls n↔∃κ:Nat,k=(κ:Int)∧κ < n∧zT bs ls (κ:Int)=true
 | 0=>by simp [upTo]
 | n+1=>by
  rw [upTo];have ih:=@zlw bs ls k n
  split
  ·next hl =>
   rw [List.mem_append,List.mem_singleton,ih]
   constructor
   ·rintro (⟨κ,h1,h2,h3⟩ | rfl)
    ·exact ⟨κ,h1,by omega,h3⟩
    ·exact ⟨n,rfl,by omega,hl⟩
   ·rintro ⟨κ,h1,h2,h3⟩;by_cases e:κ=n
    ·subst e; exact .inr h1
    ·exact .inl ⟨κ,h1,by omega,h3⟩
  ·next hl =>
   rw [ih]
   constructor
   ·rintro ⟨κ,h1,h2,h3⟩;exact ⟨κ,h1,by omega,h3⟩
   ·rintro ⟨κ,h1,h2,h3⟩;have e:κ≠n:=by rintro rfl; exact hl h3
    exact ⟨κ,h1,by omega,h3⟩

theorem zcR (N:NV) (w:World) (h:zaa w N) (h20:N.ln≤1048576) :
  Calls Tryz.prog 12 #[.agg #[.slice N.ba N.bn N.bc,.slice N.la N.ln N.lc,.slice N.sa N.sn N.sc]] w fun e w'=>∃ao cap,e=.returned (.slice ao (upTo N.brs N.ls N.ln).length cap)∧w'.ownsRow w.heap.size 3 1 (.slice ao (upTo N.brs N.ls N.ln).length cap) (upTo N.brs N.ls N.ln).length (intF.all (upTo N.brs N.ls N.ln))∧Below w.heap.size w w':=by
 generalize hw1:w.alloc (Obj.cells #[.slice N.ba N.bn N.bc,.slice N.la N.ln N.lc,.slice N.sa N.sn N.sc] 28)=w1;have b01:=zb hw1;have k1:=zk hw1;have HZ:Hid (w1.heap.size=w.heap.size+1):=hide (by rw [← hw1]; simp);obtain ⟨x0,x1,x2⟩:=zd k1;go_enter Tryz.func12,Tryz.ntmps12;go_wp2_with fail
 clear hw1 x0 x1 x2
 go_loopw [3,4,8] (fun p u i wr=>∃(k:Nat) (ao:Option Addr) (cap:Nat),k≤N.ln∧i=.int .i64 k∧p=.slice ao (upTo N.brs N.ls k).length cap∧wr.ownsRow w.heap.size 3 1 (.slice ao (upTo N.brs N.ls k).length cap) (upTo N.brs N.ls k).length (intF.all (upTo N.brs N.ls k))∧wr.heap[w.heap.size]? = some (.cells #[.slice N.ba N.bn N.bc,.slice N.la N.ln N.lc,.slice N.sa N.sn N.sc] 28)∧Below w.heap.size w wr) (fun _ _ i _=>N.ln - (intOf i).toNat)
 case atStart=>exact ⟨0,none,0,Nat.zero_le _,rfl,rfl,World.ownsRow_nil _ _ _ _,k1,b01⟩
 case round =>
  obtain ⟨k,ao,cap,hk,rfl,rfl,ow,kP,hb⟩:=hrel;clear k1 b01;obtain ⟨x0,x1,x2⟩:=zd kP;by_cases hlt:k < N.ln
  ·have i1:(0:Int)≤(k:Int):=by omega
   have i2:(k:Int) < (N.ln:Int):=by omega
   have HLQ:=hide (ze0 N.brs N.ls k);(go_wp2_with fail);clear x0 x1 x2;refine (za9 N (k:Int) _ (h.below hb)).mono ?_;rintro e w3 ⟨rfl,hbc⟩;have kP:=za kP hbc;have hb:=zc hb hbc;have ow:=zh ow hbc;clear hbc;obtain ⟨x0,x1,x2⟩:=zd kP;cases hU:zT N.brs N.ls (k:Int)
   ·have HF:=hide (ziX hU);clear hU;have HO:=hide ow;have HP:=hide kP;have HB:=hide hb;clear ow kP hb;go_wp2
    go_roundw
    case rel=>exact ⟨k+1,ao,cap,by omega,by go_num,by rw [HF.out],by rw [HF.out]; exact HO.out,HP.out,HB.out⟩
    case measure=>simp [intOf]; omega
   ·have HF:=hide (zhf hU);clear hU;generalize hwa:w3.alloc (Obj.cells #[Value.int .i64 k] 3)=wa;have bra:=zb hwa;have ka:=zk hwa;have gone:GRow intF wa (some ⟨w3.heap.size,0,none⟩) 1 1 [(k:Int)]:=zC (F:=intF) (zc7 intF (x:=(k:Int)) (base:=0) ka rfl (Nat.zero_le _));have hI2:=zh ow bra;have HBA:=hide (zc hb bra);have KPA:=hide (za kP bra);clear ow hb kP;generalize hq:(upTo N.brs N.ls k).length=q at *;go_wp2_with (at_builtin; refine zK (F:=intF) _ rfl _ _ 35 3 rfl w.heap.size Tryz.underlying35 Tryz.infoI64 rfl (by decide) _ q (upTo N.brs N.ls k) rfl hI2 (some ⟨w3.heap.size,0,none⟩) 1 1 [(k:Int)] rfl gone (by have:=HLQ.out; omega) HBA.out.size ?_)
    intro a7 c7 w7 how hr hgr hb7;have HB7:=hide (HBA.out.trans hb7);have KP7:=hide (ze KPA.out hgr (fun b e=>zA hI2 KPA.out (by decide) b e));have HQ1:Hid ((upTo N.brs N.ls (k+1)).length=q+1):=hide (by rw [HF.out,List.length_append,hq]; rfl);rw [← HF.out] at how;have HO:=hide how;clear how hr hgr hb7 hI2 gone ka hq;go_wp2
    go_roundw
    case rel=>exact ⟨k+1,a7,c7,by omega,by go_num,by rw [HQ1.out],by rw [HQ1.out]; exact HO.out,KP7.out,HB7.out⟩
    case measure=>simp [intOf]; omega
  ·have hkn:k=N.ln:=by omega
   subst hkn;have HO:=hide ow;have HB:=hide hb;clear ow hb;go_wp2;go_ret;exact ⟨ao,cap,rfl,HO.out,HB.out⟩

end Go.Proofs.YtkaefmfopejbaaaGreat
