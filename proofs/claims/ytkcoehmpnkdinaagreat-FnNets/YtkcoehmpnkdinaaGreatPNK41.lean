/-
  Packed: DrawNt9 DrawNt10 NetNewU NetNewI.
-/
import Derived.Test.YtkcoehmpnkdinaaGreatPNK40
namespace Go.Proofs.YtkcoehmpnkdinaaGreat
set_option maxRecDepth 100000
set_option maxHeartbeats 16000000
open Go.RowKit

theorem zfQ (a0:Option Addr) (l0 c0:Nat) (z0:List Int) (w:World) (h0:Row w a0 l0 c0 z0) (hs:l0≤1048576) :
  Calls Tryz.prog 7 #[.slice a0 l0 c0] w fun e w'=>∃(N:NV),e=.returned (.agg #[.slice N.ba N.bn N.bc,.slice N.la N.ln N.lc,.slice N.sa N.sn N.sc])∧NOwn w' w.heap.size N∧zdu N∧Below w.heap.size w w':=by
 generalize hw1:w.alloc (Obj.cells #[.slice none 0 0,.slice none 0 0,.slice none 0 0] 31)=w1;have b1:=zb hw1;have k1:=zk hw1;have HZ:Hid (w1.heap.size=w.heap.size+1):=hide (by rw [← hw1]; simp);go_enter Tryz.func7,Tryz.ntmps7;go_wp2_with fail
 clear hw1;refine (zf4 a0 l0 c0 z0 _ (h0.below b1) hs).mono ?_;rintro e w2 ⟨rfl,hc,hb2⟩;have b2:=zc b1 hb2;have k2:=za k1 hb2;have HCN:Hid (w1.heap.size≠w.heap.size):=hide (by have:=HZ.out; omega);generalize hCC:w1.heap.size=C at *;go_wp2_with fail
 refine (zin a0 l0 c0 10 _ hs (by omega) (by omega)).mono ?_;rintro e w3 ⟨x,rfl,hx0,hx1,e3⟩;obtain rfl:=e3.symm;obtain ⟨xm,rfl⟩:∃xm:Nat,x=(xm:Int):=⟨x.toNat,by omega⟩;have HXM:Hid (xm≤900):=hide (by omega);go_wp2_with fail
 clear hx0 hx1;refine (zdY C a0 l0 c0 z0 xm _ hc (HXM.out)).mono ?_;rintro e w4 ⟨N,rfl,oN,hF,wt⟩;have HF:=hide hF;have HLT:Hid (C < w2.heap.size):=hide hc.lt;have k4:=ze k2 wt.grown (fun j e=>by cases e; exact HCN.out);have HB4:Hid (Below w.heap.size w w4):=hide (b2.grown wt.grown b2.size (fun k e=>by cases e; have:=HZ.out; omega));have cur4:=wt.cur;clear hF wt hc k2;obtain ⟨r0,r1,r2⟩:=zd k4;have f0:=zi k4 0;have f1:=zi k4 1;have f2:=zi k4 2;have kQ:=zaQ (K:=fun V=>V.heap[w.heap.size]? = some (.cells #[.slice N.ba N.bn N.bc,.slice N.la N.ln N.lc,.slice N.sa N.sn N.sc] 31)) k4 (.slice N.ba N.bn N.bc) (.slice N.la N.ln N.lc) (.slice N.sa N.sn N.sc) (fun _ k _=>k);have gQ:=zaQ (K:=fun V=>w4.grownBy V (some w.heap.size)) k4 (.slice N.ba N.bn N.bc) (.slice N.la N.ln N.lc) (.slice N.sa N.sn N.sc) (fun _ _ k=>k);have HOQ:=hide ((oN.out k4).lt (show w.heap.size≤w2.heap.size+1 by have:=HLT.out; have:=HZ.out; omega));have HBQ:=hide (HB4.out.grown gQ HB4.out.size (fun k e=>by cases e; exact Nat.le_refl _));obtain ⟨q0,q1,q2⟩:=zd kQ;have p0:(w4.setCell ⟨w.heap.size,0,none⟩ (.slice N.ba N.bn N.bc)).cell? ⟨w.heap.size,0,none⟩=some (.slice N.ba N.bn N.bc):=World.cell?_setCell_same' _ _ _ (by rw [r0]; rfl);have p1:((w4.setCell ⟨w.heap.size,0,none⟩ (.slice N.ba N.bn N.bc)).setCell ⟨w.heap.size,1,none⟩ (.slice N.la N.ln N.lc)).cell? ⟨w.heap.size,1,none⟩=some (.slice N.la N.ln N.lc):=by
  have k1:=zu (j:=1) (zu (j:=0) k4 (.slice N.ba N.bn N.bc)) (.slice N.la N.ln N.lc);exact (zd (c0:=.slice N.ba N.bn N.bc) (c1:=.slice N.la N.ln N.lc) (c2:=.slice none 0 0) (by simpa using k1)).2.1
 clear oN kQ gQ k4;go_wp2;exact bodyPost_ret (v:=.agg #[.slice N.ba N.bn N.bc,.slice N.la N.ln N.lc,.slice N.sa N.sn N.sc]) (by simp [results,Tryz.results7,go_sem, *]) rfl ⟨N,rfl,HOQ.out,HF.out,HBQ.out⟩

theorem zfb (a0:Option Addr) (l0 c0:Nat) (z0:List Int) (w:World) (h0:Row w a0 l0 c0 z0) (hs:l0≤1048576) :
  Calls Tryz.prog 8 #[.slice a0 l0 c0] w fun e w'=>∃(N:NV) (b:Int) (p:Int),e=.returned (.tuple #[.agg #[.slice N.ba N.bn N.bc,.slice N.la N.ln N.lc,.slice N.sa N.sn N.sc],.int .i64 b,.int .i64 p])∧NOwn w' w.heap.size N∧zdu N∧Below w.heap.size w w':=by
 generalize hw1:w.alloc (Obj.cells #[.slice none 0 0,.slice none 0 0,.slice none 0 0] 31)=w1;have b1:=zb hw1;have k1:=zk hw1;have HZ:Hid (w1.heap.size=w.heap.size+1):=hide (by rw [← hw1]; simp);go_enter Tryz.func8,Tryz.ntmps8;go_wp2_with fail
 clear hw1;refine (zf4 a0 l0 c0 z0 _ (h0.below b1) hs).mono ?_;rintro e w2 ⟨rfl,hc,hb2⟩;have b2:=zc b1 hb2;have k2:=za k1 hb2;have HCN:Hid (w1.heap.size≠w.heap.size):=hide (by have:=HZ.out; omega);generalize hCC:w1.heap.size=C at *;go_wp2_with fail
 refine (zdY C a0 l0 c0 z0 2 _ hc (by omega)).mono ?_;rintro e w4 ⟨N,rfl,oN,hF,wt⟩;have HF:=hide hF;have HLT:Hid (C < w2.heap.size):=hide hc.lt;have k4:=ze k2 wt.grown (fun j e=>by cases e; exact HCN.out);have HB4:Hid (Below w.heap.size w w4):=hide (b2.grown wt.grown b2.size (fun k e=>by cases e; have:=HZ.out; omega));have cur4:=wt.cur;clear hF wt hc k2;go_wp2_with fail
 refine (zan C a0 l0 c0 z0 [0,1,2,3,-1] _ _ w4 cur4 rfl rfl (by simp) (by simp)).mono ?_;rintro e w5 ⟨b,-,rfl,wt⟩;have k5:=ze k4 wt.grown (fun j e=>by cases e; exact HCN.out);have oN:=oN.goes wt.grown (by have:=HLT.out; omega);have HB5:Hid (Below w.heap.size w w5):=hide (HB4.out.grown wt.grown HB4.out.size (fun k e=>by cases e; have:=HZ.out; omega));have cur5:=wt.cur;clear wt cur4 k4;go_wp2_with fail
 refine (zy C a0 l0 c0 z0 4 _ cur5 (by omega)).mono ?_;rintro e w6 ⟨p,rfl,-,-,-,wt⟩;have k6:=ze k5 wt.grown (fun j e=>by cases e; exact HCN.out);have oN:=oN.goes wt.grown (by have:=HLT.out; omega);have HB6:Hid (Below w.heap.size w w6):=hide (HB5.out.grown wt.grown HB5.out.size (fun k e=>by cases e; have:=HZ.out; omega));clear wt cur5 k5;obtain ⟨r0,r1,r2⟩:=zd k6;have f0:=zi k6 0;have f1:=zi k6 1;have f2:=zi k6 2;have kQ:=zaQ (K:=fun V=>V.heap[w.heap.size]? = some (.cells #[.slice N.ba N.bn N.bc,.slice N.la N.ln N.lc,.slice N.sa N.sn N.sc] 31)) k6 (.slice N.ba N.bn N.bc) (.slice N.la N.ln N.lc) (.slice N.sa N.sn N.sc) (fun _ k _=>k);have gQ:=zaQ (K:=fun V=>w6.grownBy V (some w.heap.size)) k6 (.slice N.ba N.bn N.bc) (.slice N.la N.ln N.lc) (.slice N.sa N.sn N.sc) (fun _ _ k=>k);have HOQ:=hide ((oN.out k6).lt (show w.heap.size≤w2.heap.size+1 by have:=HLT.out; have:=HZ.out; omega));have HBQ:=hide (HB6.out.grown gQ HB6.out.size (fun k e=>by cases e; exact Nat.le_refl _));obtain ⟨q0,q1,q2⟩:=zd kQ;have p0:(w6.setCell ⟨w.heap.size,0,none⟩ (.slice N.ba N.bn N.bc)).cell? ⟨w.heap.size,0,none⟩=some (.slice N.ba N.bn N.bc):=World.cell?_setCell_same' _ _ _ (by rw [r0]; rfl);have p1:((w6.setCell ⟨w.heap.size,0,none⟩ (.slice N.ba N.bn N.bc)).setCell ⟨w.heap.size,1,none⟩ (.slice N.la N.ln N.lc)).cell? ⟨w.heap.size,1,none⟩=some (.slice N.la N.ln N.lc):=by
  have k1:=zu (j:=1) (zu (j:=0) k6 (.slice N.ba N.bn N.bc)) (.slice N.la N.ln N.lc);exact (zd (c0:=.slice N.ba N.bn N.bc) (c1:=.slice N.la N.ln N.lc) (c2:=.slice none 0 0) (by simpa using k1)).2.1
 clear oN kQ gQ k6;go_wp2;exact bodyPost_ret (v:=.tuple #[.agg #[.slice N.ba N.bn N.bc,.slice N.la N.ln N.lc,.slice N.sa N.sn N.sc],.int .i64 b,.int .i64 p]) (by simp [results,Tryz.results8,go_sem, *]) rfl ⟨N,b,p,rfl,HOQ.out,HF.out,HBQ.out⟩

theorem zfc (a0:Option Addr) (l0 c0:Nat) (z0:List Int) (w:World) (h0:Row w a0 l0 c0 z0) (hs:l0≤1048576) :
  Calls Tryz.prog 11 #[.slice a0 l0 c0] w fun e w'=>∃(N:NV) (k:Int),e=.returned (.tuple #[.agg #[.slice N.ba N.bn N.bc,.slice N.la N.ln N.lc,.slice N.sa N.sn N.sc],.int .i64 k])∧NOwn w' w.heap.size N∧zdu N∧Below w.heap.size w w':=by
 generalize hw1:w.alloc (Obj.cells #[.slice none 0 0,.slice none 0 0,.slice none 0 0] 31)=w1;have b1:=zb hw1;have k1:=zk hw1;have HZ:Hid (w1.heap.size=w.heap.size+1):=hide (by rw [← hw1]; simp);go_enter Tryz.func11,Tryz.ntmps11;go_wp2_with fail
 clear hw1;refine (zf4 a0 l0 c0 z0 _ (h0.below b1) hs).mono ?_;rintro e w2 ⟨rfl,hc,hb2⟩;have b2:=zc b1 hb2;have k2:=za k1 hb2;have HCN:Hid (w1.heap.size≠w.heap.size):=hide (by have:=HZ.out; omega);generalize hCC:w1.heap.size=C at *;go_wp2_with fail
 refine (zin a0 l0 c0 8 _ hs (by omega) (by omega)).mono ?_;rintro e w3 ⟨x,rfl,hx0,hx1,e3⟩;obtain rfl:=e3.symm;obtain ⟨xm,rfl⟩:∃xm:Nat,x=(xm:Int):=⟨x.toNat,by omega⟩;have HXM:Hid (xm≤900):=hide (by omega);go_wp2_with fail
 clear hx0 hx1;refine (zdY C a0 l0 c0 z0 xm _ hc (HXM.out)).mono ?_;rintro e w4 ⟨N,rfl,oN,hF,wt⟩;have HF:=hide hF;have HLT:Hid (C < w2.heap.size):=hide hc.lt;have k4:=ze k2 wt.grown (fun j e=>by cases e; exact HCN.out);have HB4:Hid (Below w.heap.size w w4):=hide (b2.grown wt.grown b2.size (fun k e=>by cases e; have:=HZ.out; omega));have cur4:=wt.cur;clear hF wt hc k2;go_wp2_with fail
 refine (zan C a0 l0 c0 z0 [0,1,2,3,-1,9] _ _ w4 cur4 rfl rfl (by simp) (by simp)).mono ?_;rintro e w5 ⟨k,-,rfl,wt⟩;have k5:=ze k4 wt.grown (fun j e=>by cases e; exact HCN.out);have oN:=oN.goes wt.grown (by have:=HLT.out; omega);have HB5:Hid (Below w.heap.size w w5):=hide (HB4.out.grown wt.grown HB4.out.size (fun k e=>by cases e; have:=HZ.out; omega));have cur5:=wt.cur;clear wt cur4 k4;obtain ⟨r0,r1,r2⟩:=zd k5;have f0:=zi k5 0;have f1:=zi k5 1;have f2:=zi k5 2;have kQ:=zaQ (K:=fun V=>V.heap[w.heap.size]? = some (.cells #[.slice N.ba N.bn N.bc,.slice N.la N.ln N.lc,.slice N.sa N.sn N.sc] 31)) k5 (.slice N.ba N.bn N.bc) (.slice N.la N.ln N.lc) (.slice N.sa N.sn N.sc) (fun _ k _=>k);have gQ:=zaQ (K:=fun V=>w5.grownBy V (some w.heap.size)) k5 (.slice N.ba N.bn N.bc) (.slice N.la N.ln N.lc) (.slice N.sa N.sn N.sc) (fun _ _ k=>k);have HOQ:=hide ((oN.out k5).lt (show w.heap.size≤w2.heap.size+1 by have:=HLT.out; have:=HZ.out; omega));have HBQ:=hide (HB5.out.grown gQ HB5.out.size (fun k e=>by cases e; exact Nat.le_refl _));obtain ⟨q0,q1,q2⟩:=zd kQ;have p0:(w5.setCell ⟨w.heap.size,0,none⟩ (.slice N.ba N.bn N.bc)).cell? ⟨w.heap.size,0,none⟩=some (.slice N.ba N.bn N.bc):=World.cell?_setCell_same' _ _ _ (by rw [r0]; rfl);have p1:((w5.setCell ⟨w.heap.size,0,none⟩ (.slice N.ba N.bn N.bc)).setCell ⟨w.heap.size,1,none⟩ (.slice N.la N.ln N.lc)).cell? ⟨w.heap.size,1,none⟩=some (.slice N.la N.ln N.lc):=by
  have k1:=zu (j:=1) (zu (j:=0) k5 (.slice N.ba N.bn N.bc)) (.slice N.la N.ln N.lc);exact (zd (c0:=.slice N.ba N.bn N.bc) (c1:=.slice N.la N.ln N.lc) (c2:=.slice none 0 0) (by simpa using k1)).2.1
 clear oN kQ gQ k5;go_wp2;exact bodyPost_ret (v:=.tuple #[.agg #[.slice N.ba N.bn N.bc,.slice N.la N.ln N.lc,.slice N.sa N.sn N.sc],.int .i64 k]) (by simp [results,Tryz.results11,go_sem, *]) rfl ⟨N,k,rfl,HOQ.out,HF.out,HBQ.out⟩

theorem zkU {w:World} {g:Nat} {x y:Int} (h:w.heap[g]? = some (.cells #[.int .i64 x,.int .i64 y] 3)) (hx:I64s [x,y]):IRow w (some ⟨g,0,none⟩) 2 2 [x,y] where
 size:=rfl
 le:=Nat.le_refl _
 top:=by decide
 nil:=by intro e; cases e
 byte:=hx
 cell:=.inr ⟨g,0,rfl,fun i hi=>by
  rcases (show i=0∨i=1 by omega) with rfl | rfl <;> simp [World.cell?,h]⟩

theorem zfd (a0:Option Addr) (l0 c0:Nat) (z0:List Int) (w:World) (h0:Row w a0 l0 c0 z0) (hs:l0≤1048576) :
  Calls Tryz.prog 5 #[.slice a0 l0 c0] w fun e w'=>∃(ia:Option Addr) (im ic:Nat) (ids:List Int) (ports:Int) (la:Option Addr) (ln lc:Nat) (ls:List LK),e=.returned (.tuple #[.slice ia im ic,.int .i64 ports,.slice la ln lc])∧IRow w' ia im ic ids∧im≤1048576∧GRow linkF w' la ln lc ls∧ln≤1048576∧Below w.heap.size w w':=by
 go_enter Tryz.func5,Tryz.ntmps5;go_wp2_with fail
 refine (zf4 a0 l0 c0 z0 _ h0 hs).mono ?_;rintro e w1 ⟨rfl,hc,bw⟩;have hlt:=hc.lt;have wn:=Went.start hc (Below.refl _ _);generalize hCC:w.heap.size=C at *;clear hc;go_wp2_with fail
 refine (zy C a0 l0 c0 z0 6 _ wn.cur (by omega)).mono ?_;rintro e w2 ⟨kx,rfl,kx0,kx1,-,wt⟩;have kx1:=kx1 (by omega);obtain ⟨nn,hnn⟩:∃nn:Nat,1+kx=(nn:Int):=⟨(1+kx).toNat,by omega⟩;have HN6:Hid (1≤nn∧nn≤6):=hide (by omega);have wn:=wn.trans wt;clear wt kx0 kx1;go_wp2_with fail
 try rw [hnn]
 clear hnn;refine (zy C a0 l0 c0 z0 4 _ wn.cur (by omega)).mono ?_;rintro e w3 ⟨px,rfl,px0,px1,-,wt⟩;have px1:=px1 (by omega);obtain ⟨pp,hpp⟩:∃pp:Nat,2+px=(pp:Int):=⟨(2+px).toNat,by omega⟩;have HP6:Hid (1≤pp∧pp≤6):=hide (by omega);have wn:=wn.trans wt;clear wt px0 px1;go_wp2_with fail
 try rw [hpp]
 clear hpp;refine (zfv C a0 l0 c0 z0 nn _ wn.cur (by have:=HN6.out; omega)).mono ?_;rintro e w4 ⟨s,ia,ic,-,-,rfl,oI,wt⟩;have HC3:Hid (C < w3.heap.size):=hide wn.cur.lt;have WN34:Hid (w3.heap.size≤w4.heap.size):=hide wt.grown.size;have wn:=wn.trans wt;clear wt;go_wp2_with fail
 refine (zd9 C a0 l0 c0 z0 nn pp _ wn.cur HN6.out.1 (by have:=HN6.out; omega) HP6.out.1 (by have:=HP6.out; omega)).mono ?_;rintro e w5 ⟨la,lc,ls,rfl,hLI,oL,wt⟩;have HL9:=hide hLI.len;have HC4:Hid (C < w4.heap.size):=hide wn.cur.lt;have oI:=zw oI wt.grown (fun b hb=>by cases hb; exact HC3.out);have WN45:Hid (w4.heap.size≤w5.heap.size):=hide wt.grown.size;have wn:=wn.trans wt;have HI64:=hide (zk4 s nn);clear wt hLI;go_wp2_with fail
 refine (zy C a0 l0 c0 z0 10 _ wn.cur (by omega)).mono ?_;rintro e w6 ⟨d,rfl,-,-,-,wt⟩;have oI:=zw oI wt.grown (fun b hb=>by cases hb; exact HC3.out);have oL:=zw oL wt.grown (fun b hb=>by cases hb; exact HC4.out);have WN46:Hid (w4.heap.size≤w6.heap.size):=hide (Nat.le_trans WN45.out wt.grown.size);have WN36:Hid (w3.heap.size≤w6.heap.size):=hide (Nat.le_trans WN34.out WN46.out);have wn:=wn.trans wt;clear wt;have WNC6:Hid (C≤w6.heap.size):=hide (Nat.le_of_lt wn.cur.lt);by_cases hd0:d=0
 ·subst hd0;obtain ⟨g,rfl,hg0,hg1⟩:=zdC (F:=intF) oI (by have:=HN6.out; omega);obtain ⟨i0,rest,hid⟩:∃i0 rest,idsTo s nn=i0::rest:=by
   cases h:idsTo s nn with
   | nil=>have:=zbE s nn; rw [h] at this; simp at this; have:=HN6.out; omega
   | cons a b=>exact ⟨a,b,rfl⟩
  rw [hid] at oI HI64;have i1:(0:Int) < (nn:Int):=by have:=HN6.out; omega
  have HG:Hid (C < g):=hide (by have:=HC3.out; omega);(go_wp2_with fail);refine (zan C a0 l0 c0 z0 [0,7,99,100] _ _ w6 wn.cur rfl rfl (by simp) (by simp)).mono ?_;rintro e w7 ⟨x,hx,rfl,wt⟩;have hx:0≤x∧x≤100:=by simp at hx; omega
  have oI:=zw oI wt.grown (fun b hb=>by cases hb; exact HC3.out);have oL:=zw oL wt.grown (fun b hb=>by cases hb; exact HC4.out);have wn:=wn.trans wt;have g0:=zag (F:=intF) oI (i:=0) (x:=i0) rfl (j:=0) (v:=.int .i64 i0) rfl;simp only [Nat.zero_mul,Nat.add_zero] at g0;have f0:=zf7 oI 0;have oS:=zK (F:=intF) (pre:=[]) (x':=x) oI 0 (.int .i64 x) (by decide) rfl;simp only [List.length_nil,Nat.zero_mul,Nat.add_zero,List.nil_append] at oS;have oLS:=zC oL oI (by decide) (show w7.grownBy (w7.setCell ⟨g,0,none⟩ (.int .i64 x)) (some g) from zm _ _);have HI2:Hid (I64s (x::rest)):=hide (fun z hz=>by
   rcases List.mem_cons.1 hz with rfl | hz
   ·omega
   ·exact HI64.out z (List.mem_cons_of_mem _ hz))
  have HIR:=hide (zcp (by rw [← zaF]; exact oS) HI2.out);have HLR:=hide (zD (F:=linkF) oLS);have HBR:=hide (zj (bw.trans (zaL wn.grown (Nat.le_refl _) (Nat.le_of_lt hlt))) (g:=g) (by have:=HG.out; omega) 0 (.int .i64 x));clear oI oL oS oLS wt hid hx;go_wp2;exact bodyPost_ret (v:=.tuple #[.slice (some ⟨g,0,none⟩) nn ic,.int .i64 (pp:Int),.slice la ls.length lc]) (by simp [results,Tryz.results5,go_sem, *]) rfl ⟨_,_,_,_,_,_,_,_,_,rfl,HIR.out,by have:=HN6.out; omega,HLR.out,by have:=HL9.out; omega,by rw [hCC]; exact HBR.out⟩
 by_cases hd1:d=1
 ·subst hd1;(go_wp2_with fail);refine (zan C a0 l0 c0 z0 [0,1,7] _ _ w6 wn.cur rfl rfl (by simp) (by simp)).mono ?_;rintro e w7 ⟨x,-,rfl,wt⟩;have oI:=zw oI wt.grown (fun b hb=>by cases hb; exact HC3.out);have oL:=zw oL wt.grown (fun b hb=>by cases hb; exact HC4.out);have wn:=wn.trans wt;clear wt;have HIR:=hide (zcp (by rw [← zaF]; exact oI) HI64.out);have HLR:=hide (zD (F:=linkF) oL);have HBR:=hide (bw.trans (zaL wn.grown (Nat.le_refl _) (Nat.le_of_lt hlt)));clear oI oL;go_wp2;exact bodyPost_ret (v:=.tuple #[.slice ia (nn) ic,.int .i64 x,.slice la (ls.length) lc]) (by simp [results,Tryz.results5,go_sem, *]) rfl ⟨ia,nn,ic,idsTo s nn,x,la,ls.length,lc,ls,rfl,HIR.out,by have:=HN6.out; omega,HLR.out,by have:=HL9.out; omega,by rw [hCC]; exact HBR.out⟩
 by_cases hd2:d=2
 ·subst hd2;generalize hwa:w6.alloc (Obj.cells #[.int .i64 0,.int .i64 0,.int .i64 0,.int .i64 1] 44)=wa;have ba:=zb hwa;have ka:=zk hwa;have gone:GRow linkF wa (some ⟨w6.heap.size,0,none⟩) 1 1 [⟨0,0,0,1⟩]:=zD (F:=linkF) (zdq linkF (x:=⟨0,0,0,1⟩) (base:=0) ka rfl (Nat.zero_le _));have oIa:=zl oI ba;have oLa:=zl oL ba;have hbA:w4.heap.size≤wa.heap.size:=Nat.le_trans (WN46.out) ba.size;have bw6:=bw.trans (zaL wn.grown (Nat.le_refl _) (Nat.le_of_lt hlt));clear oI oL;go_wp2_with (at_builtin; refine zE (F:=linkF) _ rfl _ _ 25 44 rfl w4.heap.size Tryz.underlying25 zc3 rfl (by decide) _ ls.length ls rfl oLa (some ⟨w6.heap.size,0,none⟩) 1 1 [⟨0,0,0,1⟩] rfl gone (by have:=HL9.out; omega) hbA ?_)
  intro a7 c7 w7 oL hr hgr hb7;have oI:=zC oIa oLa (by decide) hgr;have bwA:=(bw6.trans (ba.mono (WNC6.out))).trans (hb7.mono (Nat.le_of_lt HC4.out));clear hgr hb7 gone ka hwa ba oIa oLa;have HIR:=hide (zcp (by rw [← zaF]; exact oI) HI64.out);have HLR:=hide hr;have HBR:=hide (bwA);clear oI oL;go_wp2;exact bodyPost_ret (v:=.tuple #[.slice ia (nn) ic,.int .i64 (pp:Int),.slice a7 (ls.length+1) c7]) (by simp [results,Tryz.results5,go_sem, *]) rfl ⟨ia,nn,ic,idsTo s nn,(pp:Int),a7,ls.length+1,c7,ls++[⟨0,0,0,1⟩],rfl,HIR.out,by have:=HN6.out; omega,HLR.out,by have:=HL9.out; omega,by rw [hCC]; exact HBR.out⟩
 by_cases hd3:d=3
 ·subst hd3;generalize hwa:w6.alloc (Obj.cells #[.int .i64 50,.int .i64 51] 3)=wa;have ba:=zb hwa;have ka:=zk hwa;have gone:GRow intF wa (some ⟨w6.heap.size,0,none⟩) 2 2 [50,51]:=(zkU ka (by intro z hz; simp at hz; omega)).flat;have oIa:=zl oI ba;have oLa:=zl oL ba;have hbA:w3.heap.size≤wa.heap.size:=Nat.le_trans (WN36.out) ba.size;have bw6:=bw.trans (zaL wn.grown (Nat.le_refl _) (Nat.le_of_lt hlt));clear oI oL;go_wp2_with (at_builtin; refine zE (F:=intF) _ rfl _ _ 24 3 rfl w3.heap.size Tryz.underlying24 Tryz.infoI64 rfl (by decide) _ nn (idsTo s nn) rfl oIa (some ⟨w6.heap.size,0,none⟩) 2 2 [50,51] rfl gone (by have:=HN6.out; omega) hbA ?_)
  intro a7 c7 w7 oI hr hgr hb7;have oL:=zC oLa oIa (by decide) hgr;have bwA:=(bw6.trans (ba.mono (WNC6.out))).trans (hb7.mono (Nat.le_of_lt HC3.out));have HI2:Hid (I64s (idsTo s nn++[50,51])):=hide (fun z hz=>by
   rcases List.mem_append.1 hz with hz | hz
   ·exact HI64.out z hz
   ·simp at hz; omega)
  clear hr hgr hb7 gone ka hwa ba oIa oLa;have HIR:=hide (zcp (by rw [← zaF]; exact oI) HI2.out);have HLR:=hide (zD (F:=linkF) oL);have HBR:=hide (bwA);clear oI oL;go_wp2;exact bodyPost_ret (v:=.tuple #[.slice a7 (nn+2) c7,.int .i64 (pp:Int),.slice la (ls.length) lc]) (by simp [results,Tryz.results5,go_sem, *]) rfl ⟨a7,nn+2,c7,idsTo s nn++[50,51],(pp:Int),la,ls.length,lc,ls,rfl,HIR.out,by have:=HN6.out; omega,HLR.out,by have:=HL9.out; omega,by rw [hCC]; exact HBR.out⟩
 have HIR:=hide (zcp (by rw [← zaF]; exact oI) HI64.out);have HLR:=hide (zD (F:=linkF) oL);have HBR:=hide (bw.trans (zaL wn.grown (Nat.le_refl _) (Nat.le_of_lt hlt)));clear oI oL;go_wp2;exact bodyPost_ret (v:=.tuple #[.slice ia (nn) ic,.int .i64 (pp:Int),.slice la (ls.length) lc]) (by simp [results,Tryz.results5,go_sem, *]) rfl ⟨ia,nn,ic,idsTo s nn,(pp:Int),la,ls.length,lc,ls,rfl,HIR.out,by have:=HN6.out; omega,HLR.out,by have:=HL9.out; omega,by rw [hCC]; exact HBR.out⟩

theorem zkd (w:World) (base g n:Nat) (h:w.ownsRow base 61 11 (.slice (some ⟨g,0,none⟩) n n) n (brF.all (List.replicate n BV.zero))):BOs w base (some ⟨g,0,none⟩) n n (List.replicate n BV.zero):=by
 refine ⟨h,fun x hx => ?_, ?_⟩
 ·rw [List.eq_of_mem_replicate hx]; exact zi7 _ _
 ·have:(List.replicate n BV.zero).flatMap BV.blks=[]:=by
   rw [List.flatMap_eq_nil_iff];intro x hx;rw [List.eq_of_mem_replicate hx]
   rfl
  rw [this];exact List.nodup_nil

theorem ziV {w wr:World} {X:Nat} {la:Option Addr} {ln lc:Nat} {l:List LK} {g bn bc j:Nat} {pre post:List BV} {x:BV} (st:NnSt w wr X la ln lc l (some ⟨g,0,none⟩) bn bc (pre++x::post)) (hj:pre.length=j) (hf:x.B.f=[]) (hsm:x.B.ports.length≤6∧x.B.v.rows.length≤6∧x.B.v.own.length≤6) (hR:∀r∈x.B.v.rows,r.Rng) :
  Calls Tryz.prog 27 #[.pointer (some ⟨g,j*11,none⟩)] wr fun e w'=>∃y:BV,e=.returned (.tuple #[])∧y.B=raised x.B∧NnSt w w' X la ln lc l (some ⟨g,0,none⟩) bn bc (pre++y::post):=by
 have HAT0:Hid (∀z:BV,(pre++z::post)[j]? = some z):=hide (fun z=>by rw [List.getElem?_append_right (by omega),hj,Nat.sub_self]; rfl);have hx:=st.b.item x (by simp);have hn:x.n=x.B.ports.length:=hx.row.ports.size.symm;obtain ⟨⟨ca0,ca1,ca2,ca3,ca4,ca5,ca6,ca7,ca8,ca9,ca10⟩,-⟩:=zaf st.b.row (HAT0.out x);have hx6:x.n≤6:=by omega
 have HN:=hide hn;have HF:=hide hf;have HSM:=hide hsm;have HRR:=hide hR;have HJ:=hide hj;clear hn hf hsm hR hj hx;go_enter Tryz.func27,Tryz.ntmps27;go_wp2_with fail
 clear ca0 ca1 ca2 ca3 ca4 ca5 ca6 ca7 ca8 ca9 ca10
 go_loopw [8] (fun i wq=>∃(p:Nat) (y:BV),p≤x.n∧i=.int .i64 p∧y.B=zaR x.B p∧NnSt w wq X la ln lc l (some ⟨g,0,none⟩) bn bc (pre++y::post)) (fun i _=>x.n - (intOf i).toNat)
 case atStart=>exact ⟨0,x,Nat.zero_le _,rfl,rfl,st⟩
 case round =>
  clear st;obtain ⟨p,y,hp,rfl,hy,st⟩:=hrel;by_cases hlt:p < x.n
  ·have hyo:=st.b.item y (by simp);have HLS:Hid (y.n≤1048576∧y.fn≤1048576∧y.rn≤1048576∧y.on≤1048576):=hide (by
    have e1:=hyo.row.ports.size;have e2:=hyo.row.f.size;have e3:=hyo.row.v.rows.size;have e4:=hyo.row.v.own.size;obtain ⟨l3,l4,l5⟩:=za1 x.B p;rw [hy] at e1 e2 e3 e4;rw [l5] at e3 e4
    have:=HF.out
    have:=HSM.out
    rw [HF.out] at l4
    simp at l4
    simp [l4] at e2
    omega)
   have hRf:∀z∈y.B.f,z.Rng:=fun z hz=>by
    have l4:=(za1 x.B p).2.1;rw [HF.out] at l4
    simp at l4
    rw [hy,l4] at hz;cases hz
   have hRv:∀r∈y.B.v.rows,r.Rng:=fun r hr=>by
    rw [hy,(za1 x.B p).2.2] at hr;exact HRR.out r hr
   have HYB:Hid (linkB y.B (p:Int) true=zaR x.B (p+1)):=hide (by rw [hy]; rfl);have hrow0:=hyo.row;obtain ⟨⟨ca0,ca1,ca2,ca3,ca4,ca5,ca6,ca7,ca8,ca9,ca10⟩,-⟩:=zaf st.b.row (HAT0.out y);have i3:(p:Int) < (x.n:Int):=by omega
   clear hy;(go_wp2_with fail);refine (zfU y.a y.n y.c y.fa y.fn y.fc y.ra y.rn y.rc y.oa y.on y.oc y.B (p:Int) true _ hrow0 HLS.out.1 HLS.out.2.1 HLS.out.2.2.1 HLS.out.2.2.2 hRf hRv).mono ?_;rintro e wz ⟨a2,n2,c2,fa2,fn2,fc2,ra2,rn2,rc2,oa2,on2,oc2,rfl,ow2,hbz⟩;have hrow:=(st.b.below hbz).row;obtain ⟨⟨t0,t1,t2,t3,t4,t5,t6,t7,t8,t9,t10⟩,f0,f1,f2,f3,f4,f5,f6,f7,f8,f9,f10⟩:=zaf hrow (HAT0.out y);have stN:Hid (∀wq,wz.grownBy wq (some g)→wq.ownsRow (w.heap.size+1) 61 11 (.slice (some ⟨g,0,none⟩) bn bc) bn (brF.all (pre++(⟨a2,n2,c2,fa2,fn2,fc2,ra2,rn2,rc2,oa2,on2,oc2,(linkB y.B (p:Int) true)⟩:BV)::post))→NnSt w wq X la ln lc l (some ⟨g,0,none⟩) bn bc (pre++(⟨a2,n2,c2,fa2,fn2,fc2,ra2,rn2,rc2,oa2,on2,oc2,(linkB y.B (p:Int) true)⟩:BV)::post)):=hide (fun wq hg hr=>st.put hbz ow2 hg hr);have HPUT:=hide (zaU (K:=fun W=>NnSt w W X la ln lc l (some ⟨g,0,none⟩) bn bc (pre++(⟨a2,n2,c2,fa2,fn2,fc2,ra2,rn2,rc2,oa2,on2,oc2,(linkB y.B (p:Int) true)⟩:BV)::post)) (⟨a2,n2,c2,fa2,fn2,fc2,ra2,rn2,rc2,oa2,on2,oc2,(linkB y.B (p:Int) true)⟩:BV) HJ.out hrow (fun wq hq hgq=>stN.out wq hgq hq));clear ca0 ca1 ca2 ca3 ca4 ca5 ca6 ca7 ca8 ca9 ca10 hrow ow2 hbz stN hrow0 hRf hRv hyo st;go_wp2
   go_roundw
   case rel=>exact ⟨p+1,_,by omega,by go_num,HYB.out,HPUT.out⟩
   case measure=>simp [intOf]; omega
  ·have hpx:p=x.n:=by omega
   have HY:Hid (y.B=raised x.B):=hide (by rw [hy,hpx,HN.out]; rfl);have HST:=hide st;clear hy st;go_wp2
   go_end0
   exact ⟨y,rfl,HY.out,HST.out⟩

theorem zkc {w:World} {base n:Nat} {v:Value} (h:w.ownsRow base 61 11 v n (madeCells (Value.cells (.agg #[.int .i64 0,.string ⟨#[]⟩,.slice none 0 0,.slice none 0 0,.slice none 0 0,.slice none 0 0,.int .i64 0,.int .i64 0,.int .i64 0,.int .i64 0,.int .i64 0])) (n*11)).toList):w.ownsRow base 61 11 v n (brF.all (List.replicate n BV.zero)):=by rw [← zeB]; exact h

theorem zit {w w':World} (h:w.grownBy w' none):Below w.heap.size w w':=⟨h.os,h.tape,h.output,h.size,fun k hk=>h.block k hk (by intro e; cases e)⟩

theorem zkH:∀m∈([1,2,3,4,5,6]:List Nat),((zbr (m:Int)).rows.all fun r=>decide (0≤r.i∧r.i≤1000∧0≤r.m∧r.m≤1000∧0≤r.b∧r.b≤1000))=true:=by decide

theorem zhA (id ports:Int):(∀r∈(zn id ports).v.rows,r.Rng)∧(zn id ports).f=[]:=by
 unfold zn
 split
 ·next h =>
  simp only [Bool.and_eq_true,decide_eq_true_eq] at h;obtain ⟨m,rfl⟩:∃m:Nat,ports=(m:Int):=⟨ports.toNat,by omega⟩;rw [Int.toNat_natCast];refine ⟨fun r hr => ?_,rfl⟩
  have:=zkH m (by
   have:m=1∨m=2∨m=3∨m=4∨m=5∨m=6:=by omega
   simpa using this)
  have:=List.all_eq_true.1 this r hr
  simp only [decide_eq_true_eq] at this;unfold VR.Rng I64;omega
 ·exact ⟨(by intro r hr; cases hr),rfl⟩

theorem zi5 {ids:List Int} {ports:Int} {k:Nat} {id:Int} (h:ids[k]? = some id):upBs (ids.take (k+1)) ports=upBs (ids.take k) ports++[raised (zn id ports)]:=by
 unfold upBs;rw [List.take_add_one,h,List.map_append]
 rfl

theorem zeH (ia:Option Addr) (im ic:Nat) (ids:List Int) (ports:Int) (la0:Option Addr) (ln lc0:Nat) (l:List LK) (w:World) (hI:IRow w ia im ic ids) (hL:GRow linkF w la0 ln lc0 l) (hs:ln≤1048576) (hm:im≤1048576) :
  Calls Tryz.prog 6 #[.slice ia im ic,.int .i64 ports,.slice la0 ln lc0] w fun e w'=>zgn ids ports l w e w':=by
 have hIs:=hI.size;have hLs:=hL.size;obtain ⟨i0,hi,hz0,hz1,hz2⟩:=zbw zjc;have HB2:Hid (i0.bytes*im≤281474976710656):=hide (by rw [hz2]; omega);have HB3:Hid (im≤maxLen):=hide (by unfold maxLen; omega);have HLN:Hid (ln≤16777216):=hide (by omega);generalize hw1:w.alloc (Obj.cells #[.slice none 0 0,.slice none 0 0,.slice none 0 0] 31)=w1;have b01:=zb hw1;have kJ:=zk hw1;have HZ:Hid (w.heap.size+1≤w1.heap.size):=hide (zcB kJ);have HLS:=hide hLs;have HIS:=hide hIs;clear hLs hIs hz2;cases hA:(decide (1≤(im:Int)) && decide ((im:Int)≤6))
 ·have HNO:Hid (¬NetOk (newBs ids ports) l []):=hide (fun hp=>by have h1:=hp.1.2.2.1; have h2:=hp.1.2.2.2; have:=HIS.out; simp [newBs] at h1 h2; simp at hA; omega);obtain ⟨r0,r1,r2⟩:=zd kJ;have f0:=zi kJ 0;have f1:=zi kJ 1;have f2:=zi kJ 2;have HB:=hide (zj (zj (zj b01 (Nat.le_refl _) 0 (.slice none 0 0)) (Nat.le_refl _) 1 (.slice none 0 0)) (Nat.le_refl _) 2 (.slice none 0 0));go_enter Tryz.func6,Tryz.ntmps6;(go_wp2_with fail);refine (zF (im:Int) 1 6 _).mono ?_;rintro e w2 ⟨rfl,ew⟩;obtain rfl:=ew.symm;rw [hA];clear hA;go_wp2
  all_goals first | (exfalso; rename_i hf; first | (rw [f0] at hf; cases hf) | (rw [f1] at hf; cases hf) | (rw [f2] at hf; cases hf)) | skip
  exact bodyPost_ret (v:=.agg #[.slice none 0 0,.slice none 0 0,.slice none 0 0]) (by simp [results,Tryz.results6,go_sem, *]) rfl (zel HNO.out HB.out)
 by_cases l9:(ln:Int) > 9
 ·have HNO:Hid (¬NetOk (newBs ids ports) l []):=hide (fun hp=>by have h1:=hp.2.1.1; have:=HLS.out; omega);obtain ⟨r0,r1,r2⟩:=zd kJ;have f0:=zi kJ 0;have f1:=zi kJ 1;have f2:=zi kJ 2;have HB:=hide (zj (zj (zj b01 (Nat.le_refl _) 0 (.slice none 0 0)) (Nat.le_refl _) 1 (.slice none 0 0)) (Nat.le_refl _) 2 (.slice none 0 0));go_enter Tryz.func6,Tryz.ntmps6;(go_wp2_with fail);refine (zF (im:Int) 1 6 _).mono ?_;rintro e w2 ⟨rfl,ew⟩;obtain rfl:=ew.symm;rw [hA];clear hA;go_wp2
  all_goals first | (exfalso; rename_i hf; first | (rw [f0] at hf; cases hf) | (rw [f1] at hf; cases hf) | (rw [f2] at hf; cases hf)) | skip
  exact bodyPost_ret (v:=.agg #[.slice none 0 0,.slice none 0 0,.slice none 0 0]) (by simp [results,Tryz.results6,go_sem, *]) rfl (zel HNO.out HB.out)
 have him:1≤im∧im≤6:=by simp at hA; omega
 go_enter Tryz.func6,Tryz.ntmps6;go_wp2_with fail
 refine (zF (im:Int) 1 6 _).mono ?_;rintro e w2 ⟨rfl,ew⟩;obtain rfl:=ew.symm;rw [hA];clear hA;go_upto_region 3 with fail
 go_cut [7] from 21 to 26 (fun s wx=>∃(X g:Nat) (la:Option Addr) (lc:Nat),s=.pointer (some ⟨X,0,none⟩)∧NnSt w wx X la ln lc l (some ⟨g,0,none⟩) im im (List.replicate im BV.zero))
 case first =>
  have vv:Below w1.heap.size w1 w1.drew:=zr (Below.refl _ _);have kJ:=za kJ vv;refine wp_region_held_drew (S:=(fun _=>True)) (by kernel_rfl) (trivial) (fun hHeld => ?_)
  repeat' first
  |
   with_reducible refine kLa ?_
   first
   |
    refine kLf 0 ?_;refine kK 0 ?_
   |
    refine kLf 1 ?_;refine kK 1 ?_
   |
    refine kLf 3 ?_;refine kK 3 ?_
   |
    refine kLf 5 ?_;refine kK 5 ?_
   |
    refine kLp [2,4,6] ?_
   |
    refine kLp [4,6] ?_
   |
    refine kLp [6] ?_
   |
    refine kLp [7] ?_
   |
    refine kLp [4] ?_
   |
    refine kLp [2,6] ?_
   |
    refine kLp [2] ?_
   |
    refine kLp [2,4] ?_
   |
    refine wpAnyH_done (by kernel_rfl) ?_ _;clear hHeld;(go_wp2_with fail)
    go_meet
    exact ⟨_,_,_,_,rfl,stN⟩
  |
   exact AllReadyH.nil
  |
   refine kLc 2 (fun K hK => ?_) ?_;refine zfm rfl _ _ 28 rfl (w.heap.size+1) 61 i0 (.agg #[.int .i64 0,.string ⟨#[]⟩,.slice none 0 0,.slice none 0 0,.slice none 0 0,.slice none 0 0,.int .i64 0,.int .i64 0,.int .i64 0,.int .i64 0,.int .i64 0]) 11 Tryz.underlying28 hi hz0 hz1 .i64 .i64 _ _ im rfl rfl rfl rfl HB2.out HB3.out (Nat.le_trans HZ.out vv.size) ?_;intro wm oB hgm;have hbm:=zit hgm;have oB:=zkc oB;(try have oL:=zl oL hbm);(try have kX:=za kX hbm);have kJ:=za kJ hbm;have vv:=zc vv hbm;refine kO hK (trivial) fun hHeld => ?_
   clear hK K
  |
   refine kLc 4 (fun K hK => ?_) ?_;go_simp;refine (ziz la0 ln lc0 l _ (hL.below (zc b01 vv)) HLN.out).mono ?_;rintro e wz ⟨la,lc,rfl,oL,hbz⟩;have oL:=zL oL (Nat.le_trans HZ.out vv.size);(try have oB:=zl oB hbz);(try have kX:=za kX hbz);have kJ:=za kJ hbz;have vv:=zc vv hbz;(go_wp2_with fail);refine kO hK (trivial) fun hHeld => ?_
   clear hK K
  |
   refine kLc 6 (fun K hK => ?_) ?_;go_simp
   first
   | refine zaj (K:=K _) (fun wx kX hbx => ?_)
   | refine zab (K:=K _) (fun wx kX hbx => ?_)
   have gX:=vv.size;(try have oB:=zl oB hbx);(try have oL:=zl oL hbx);have kJ:=za kJ hbx;have vv:=zc vv hbx;refine kO hK (trivial) fun hHeld => ?_
   clear hK K
  |
   refine kLc 7 (fun K hK => ?_) ?_;obtain ⟨xx0,xx1,xx2⟩:=zd kX;have ff0:=zi kX 0;have ff1:=zi kX 1;have ff2:=zi kX 2;go_simp;refine zaQ (K:=K _) kX _ _ _ (fun wq kQ hgq => ?_);have oB2:=zB oB hgq (zN oB kX (by decide));have oL2:=zB oL hgq (zN oL kX (by decide));have kR2:=ze kJ hgq (by intro i e; cases e; have:=HZ.out; omega);have bv:=zc b01 vv;have bq:=bv.grown hgq bv.size (by intro i e; cases e; have:=HZ.out; omega);have stN:NnSt w wq _ la ln lc l _ im im (List.replicate im BV.zero):=⟨kQ,kR2,zkd _ _ _ _ oB2,oL2,bq,by have:=HZ.out; omega⟩;refine kO hK (trivial) fun hHeld => ?_
   clear hK K
 case rest =>
  obtain ⟨X,g,la,lc,rfl,st0⟩:=hcut;obtain ⟨w4,hw4⟩:∃y,y=wc:=⟨_,rfl⟩;subst hw4;clear hw1 b01 kJ hi hz0 hz1;(go_wp2_with fail)
  go_loopw [29] (fun i wr=>∃(k:Nat) (cs:List BV),k≤im∧i=.int .i64 k∧NnSt w wr X la ln lc l (some ⟨g,0,none⟩) im im cs∧(cs.take k).map BV.B=upBs (ids.take k) ports) (fun i _=>im - (intOf i).toNat)
  case atStart=>exact ⟨0,_,Nat.zero_le _,rfl,st0,by simp [upBs]⟩
  case round =>
   clear st0;obtain ⟨k,cs,hk,rfl,st,hC⟩:=hrel;have hcl:cs.length=im:=st.b.grow.size;obtain ⟨x0,x1,x2⟩:=zd st.box;by_cases hlt:k < im
   ·obtain ⟨id,ib,io,hid,rfl,ci⟩:=zfZ (hI.below st.below) k hlt;obtain ⟨x,hx⟩:∃x,cs[k]? = some x:=⟨_,List.getElem?_eq_getElem (by omega)⟩;have hsp:cs=cs.take k++x::cs.drop (k+1):=by
     obtain ⟨h,rfl⟩:=List.getElem?_eq_some_iff.1 hx;rw [← List.drop_eq_getElem_cons h,List.take_append_drop]
    have HJ:Hid ((cs.take k).length=k):=hide (by rw [List.length_take]; omega);have HC:=hide hC;have HID:=hide hid;rw [hsp] at st;generalize hpr:cs.take k=pre at *;generalize hpo:cs.drop (k+1)=post at *;have HAT:Hid (∀z:BV,(pre++z::post)[k]? = some z):=hide (fun z=>by rw [List.getElem?_append_right (by have:=HJ.out; omega),HJ.out,Nat.sub_self]; rfl);have i1:(0:Int)≤(k:Int):=by omega
    have i2:(k:Int) < (im:Int):=by omega
    have hle:im≤9223372036854775807:=by omega
    clear hid hC hx hsp hcl hpr hpo;(go_wp2_with fail);refine (zd6 ⟨some ⟨g,0,none⟩,im,im,pre++x::post,la,ln,lc,l,none,0,0,[]⟩ k g 0 _ hle hlt rfl).mono ?_;rintro e w5 ⟨rfl,hb5⟩;have st:=st.later hb5;rw [Nat.zero_add];clear hb5 x0 x1 x2 ci;(go_wp2_with fail);refine (zho id ports _).mono ?_;rintro e wz ⟨a2,n2,c2,fa2,fn2,fc2,ra2,rn2,rc2,oa2,on2,oc2,rfl,ow2,hbz⟩;have hrow:=(st.b.below hbz).row;obtain ⟨⟨t0,t1,t2,t3,t4,t5,t6,t7,t8,t9,t10⟩,f0,f1,f2,f3,f4,f5,f6,f7,f8,f9,f10⟩:=zaf hrow (HAT.out x);have HPUT:=hide (fun (wq:World) (hq:wq.ownsRow (w.heap.size+1) 61 11 (.slice (some ⟨g,0,none⟩) im im) im (brF.all (pre++(⟨a2,n2,c2,fa2,fn2,fc2,ra2,rn2,rc2,oa2,on2,oc2,(zn id ports)⟩:BV)::post))) (hgq:wz.grownBy wq (some g))=>st.put (y:=(⟨a2,n2,c2,fa2,fn2,fc2,ra2,rn2,rc2,oa2,on2,oc2,(zn id ports)⟩:BV)) hbz ow2 hgq hq);have HQ:=hide (zaU (K:=fun W=>NnSt w W X la ln lc l (some ⟨g,0,none⟩) im im (pre++(⟨a2,n2,c2,fa2,fn2,fc2,ra2,rn2,rc2,oa2,on2,oc2,(zn id ports)⟩:BV)::post)) (⟨a2,n2,c2,fa2,fn2,fc2,ra2,rn2,rc2,oa2,on2,oc2,(zn id ports)⟩:BV) HJ.out hrow HPUT.out);clear hrow ow2 hbz st HPUT;(go_wp2_with fail);have hnp:=zbT id ports;have hnr:=zhA id ports;refine (ziV HQ.out HJ.out hnr.2 ⟨hnp.2.1,hnp.2.2.1,hnp.2.2.2⟩ hnr.1).mono ?_;rintro e w8 ⟨y,rfl,hyB,st⟩;have HST:=hide st;have HCN:Hid (((pre++y::post).take (k+1)).map BV.B=upBs (ids.take (k+1)) ports):=hide (by
     have e1:(pre++y::post).take (k+1)=pre++[y]:=by
      rw [List.take_append,List.take_of_length_le (by have:=HJ.out; omega),HJ.out,show k+1 - k=1 by omega]
      rfl
     rw [e1,List.map_append,HC.out,zi5 HID.out,List.map_singleton,hyB])
    clear hnp hnr hyB st HQ t0 t1 t2 t3 t4 t5 t6 t7 t8 t9 t10 f0 f1 f2 f3 f4 f5 f6 f7 f8 f9 f10;go_wp2
    go_roundw
    case rel=>exact ⟨k+1,_,by omega,by go_num,HST.out,HCN.out⟩
    case measure=>simp [intOf]; omega
   ·have hkn:k=im:=by omega
    rw [List.take_of_length_le (by omega),List.take_of_length_le (by have:=HIS.out; omega)] at hC;have hin:∀x∈cs,∃id,x.B=raised (zn id ports):=fun x hx=>by
     have hm:x.B∈cs.map BV.B:=List.mem_map_of_mem hx;rw [hC] at hm;obtain ⟨i,hi⟩:=List.getElem?_of_mem hm;obtain ⟨id,-,he⟩:=zd2 hi;exact ⟨id,he⟩
    have hN:zas wr ⟨some ⟨g,0,none⟩,im,im,cs,la,ln,lc,l,none,0,0,[]⟩:=⟨st.b.grow,fun x hx=>(st.b.item x hx).row,zD (F:=linkF) st.l,zc2 _ _⟩;have hfn:∀x∈cs,x.fn≤16777216:=fun x hx=>by
     obtain ⟨id,he⟩:=hin x hx;have e2:=(st.b.item x hx).row.f.size;have l4:=(za1 (zn id ports) (zn id ports).ports.length).2.1;rw [(zhA id ports).2] at l4;rw [he] at e2;unfold raised at e2
     simp at l4
     rw [l4] at e2
     simp at e2
     omega
    have hRv:∀x∈cs,∀r∈x.B.v.rows,r.Rng:=fun x hx r hr=>by
     obtain ⟨id,he⟩:=hin x hx;rw [he] at hr;unfold raised at hr;rw [(za1 (zn id ports) _).2.2] at hr;exact (zhA id ports).1 r hr
    have HC:=hide hC;clear hC hcl hin;(go_wp2_with fail);refine (zbN ⟨some ⟨g,0,none⟩,im,im,cs,la,ln,lc,l,none,0,0,[]⟩ _ hN hfn hRv).mono ?_;rintro e w6 ⟨q,rfl,hq,hb6⟩;have HQ:Hid (q=true↔NetOk (newBs ids ports) l []):=hide (by rw [zhz,← HC.out]; exact hq);have st:=st.later hb6;clear x0 x1 x2 hN hfn hRv hb6 hq;obtain ⟨r0,r1,r2⟩:=zd st.res;have f0:=zi st.res 0;have f1:=zi st.res 1;have f2:=zi st.res 2;have ne1:¬w.heap.size=X:=by have:=st.lt; omega
    have ne2:¬X=w.heap.size:=by have:=st.lt; omega
    cases q
    ·have HNO:Hid (¬NetOk (newBs ids ports) l []):=hide (fun h=>by have:=HQ.out.2 h; cases this);have HB:=hide (zj (zj (zj st.below (Nat.le_refl _) 0 (.slice none 0 0)) (Nat.le_refl _) 1 (.slice none 0 0)) (Nat.le_refl _) 2 (.slice none 0 0));clear HQ st;go_wp2
     all_goals first | (exfalso; rename_i hf; first | (rw [f0] at hf; cases hf) | (rw [f1] at hf; cases hf) | (rw [f2] at hf; cases hf)) | skip
     exact bodyPost_ret (v:=.agg #[.slice none 0 0,.slice none 0 0,.slice none 0 0]) (by simp [results,Tryz.results6,go_sem, *]) rfl (zel HNO.out HB.out)
    ·have HYES:Hid (NetOk (newBs ids ports) l []):=hide (HQ.out.1 rfl);obtain ⟨x0,x1,x2⟩:=zd st.box;have HO:=hide st.out.1;have HB:=hide st.out.2;clear HQ st;go_wp2
     all_goals first | (exfalso; rename_i hf; first | (rw [f0] at hf; cases hf) | (rw [f1] at hf; cases hf) | (rw [f2] at hf; cases hf)) | skip
     exact bodyPost_ret (v:=.agg #[.slice (some ⟨g,0,none⟩) im im,.slice la ln lc,.slice none 0 0]) (by simp [results,Tryz.results6,go_sem, *]) rfl (show zgn ids ports l w _ _ from ⟨⟨some ⟨g,0,none⟩,im,im,cs,la,ln,lc,l,none,0,0,[]⟩,rfl,HO.out,⟨fun _=>⟨HC.out,rfl⟩,fun h=>absurd HYES.out h⟩,HB.out⟩)

end Go.Proofs.YtkcoehmpnkdinaaGreat
