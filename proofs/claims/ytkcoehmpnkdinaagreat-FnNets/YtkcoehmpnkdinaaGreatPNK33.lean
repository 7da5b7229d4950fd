/-
  Packed: DrawBr2 NetOkI NetOkK.
-/
import Derived.Test.YtkcoehmpnkdinaaGreatPNBrOkI
import Derived.Test.YtkcoehmpnkdinaaGreatPNDrawBr
import Derived.Test.YtkcoehmpnkdinaaGreatPNDrawVtab2
namespace Go.Proofs.YtkcoehmpnkdinaaGreat
set_option maxRecDepth 100000
set_option maxHeartbeats 16000000
open Go.RowKit

structure FewB (B:BR):Prop where
 pl:B.ports.length≤6
 fl:B.f.length≤100
 fr:∀x∈B.f,x.Rng
 v:∃pp,Fine B.v pp 13∧pp≤6
 nm:B.name.size≤30

theorem DIn.few {B:BR} {m:Nat} (h:DIn B m) (hm:m≤4):FewB B :=
 ⟨by rw [h.len]; omega,Nat.le_trans (zgO h.f) (by decide),zjN h.f,⟨m,h.v.toFine.mono (by decide),by omega⟩,Nat.le_trans h.name (by decide)⟩

theorem ziL (C:Nat) (a0:Option Addr) (l0 c0:Nat) (z0:List Int) (w:World) (hc:Cur w C a0 l0 c0 z0) :
  Calls Tryz.prog 51 #[.pointer (some ⟨C,0,none⟩)] w fun e w'=>∃(a:Option Addr) (n c:Nat) (fa:Option Addr) (fn fc:Nat) (ra:Option Addr) (rn rc:Nat) (oa:Option Addr) (on oc:Nat) (B:BR),e=.returned (.agg #[.int .i64 B.id,.string B.name,.slice a n c,.slice fa fn fc,.slice ra rn rc,.slice oa on oc,.int .i64 B.ticks,.int .i64 B.parse,.int .i64 B.word,.int .i64 B.drops,.int .i64 B.vers])∧BrOwn w' w.heap.size a n c fa fn fc ra rn rc oa on oc B∧FewB B∧Went w w' C a0 l0 c0 z0:=by
 have hlt:=hc.lt;generalize hw1:w.alloc (Obj.cells #[.int .i64 0,.string ⟨#[]⟩,.slice none 0 0,.slice none 0 0,.slice none 0 0,.slice none 0 0,.int .i64 0,.int .i64 0,.int .i64 0,.int .i64 0,.int .i64 0] 61)=w1;have b1:=zb hw1;have kJ:=zk hw1;have wn1:=Went.start hc b1;have HS1:=hide b1.size;clear b1;go_enter Tryz.func51,Tryz.ntmps51;go_wp2_with fail
 clear hw1;refine (zhv C a0 l0 c0 z0 _ wn1.cur).mono ?_;rintro e w2 ⟨m,a,c,fa,fn,fc,ra,rn,rc,oa,on,oc,B,rfl,o2,hD,-,h4,wt⟩;have HD:=hide (hD.few h4);have o2:=o2.lt (base':=w.heap.size) HS1.out;have kJ:=ze kJ wt.grown (by intro k e; cases e; omega);have wn2:=wn1.trans wt;have hX:w.heap.size < w2.heap.size:=(Array.getElem?_eq_some_iff.1 kJ).1;obtain ⟨n,hnr⟩:∃y,y=m:=⟨_,rfl⟩;subst hnr;clear wt wn1 hD h4;go_upto_region 2 with fail
 generalize hw5:w2.alloc (Obj.cells #[.int .i64 B.id,.string B.name,.slice a n c,.slice fa fn fc,.slice ra rn rc,.slice oa on oc,.int .i64 B.ticks,.int .i64 B.parse,.int .i64 B.word,.int .i64 B.drops,.int .i64 B.vers] 61)=w5;have b5:=zb hw5;have st:DbSt w w5 C a0 l0 c0 z0 w2.heap.size a n c fa fn fc ra rn rc oa on oc B:=⟨by rw [← hw5]; exact zt _ _,o2.below b5,za kJ b5,wn2.made b5,hlt,hX⟩;generalize hXX:w2.heap.size=X at st;clear hw5 b5 kJ wn2 o2 hX;go_wp2_with fail
 refine (zy C a0 l0 c0 z0 16 _ st.went.cur (by omega)).mono ?_;rintro e w3 ⟨y,rfl,hy0,hy1,-,wt⟩;have hy1:=hy1 (by omega);have st:=st.draw wt;have SZ3:=hide st.size;clear wt;by_cases y0z:y=0
 ·subst y0z;(go_wp2_with fail);refine (zan C a0 l0 c0 z0 [0,99,100] _ _ w3 st.went.cur rfl rfl (by simp) (by simp)).mono ?_;rintro e w4 ⟨q,-,rfl,wt⟩;have st:=st.draw wt;have hD:FewB { B with id:=q }:=⟨HD.out.pl,HD.out.fl,HD.out.fr,HD.out.v,HD.out.nm⟩;have st2:=st.put (B':={ B with id:=q }) ⟨st.own.ports,st.own.f,st.own.v⟩ 0 (.int .i64 q) rfl;obtain ⟨x0,x1,x2,x3,x4,x5,x6,x7,x8,x9,x10⟩:=zp st.box;have g0:=zi st.box 0;clear wt HD st;generalize hB2:({ B with id:=q }:BR)=B2 at st2 hD;clear hB2;have HD:=hide hD;clear hD;have st:=st2;clear st2;obtain ⟨B,hBr⟩:∃y,y=B2:=⟨_,rfl⟩;subst hBr;(go_upto_region 15 with fail);clear x0 x1 x2 x3 x4 x5 x6 x7 x8 x9 x10 g0;generalize hw9:(w4.setCell ⟨X,0,none⟩ (.int .i64 q))=w9 at *;clear hw9;obtain ⟨x0,x1,x2,x3,x4,x5,x6,x7,x8,x9,x10⟩:=zp st.box;obtain ⟨y0,y1,y2,y3,y4,y5,y6,y7,y8,y9,y10⟩:=zp st.res;have fr:=zi st.res;have f0:=fr 0;have f1:=fr 1;have f2:=fr 2;have f3:=fr 3;have f4:=fr 4;have f5:=fr 5;have f6:=fr 6;have f7:=fr 7;have f8:=fr 8;have f9:=fr 9;have f10:=fr 10;have ne1:¬X=w.heap.size:=by have:=st.hX; omega
  have ne2:¬w.heap.size=X:=by have:=st.hX; omega
  have HO:=hide (st.own.boxed11 st.res (.int .i64 B.id) (.string B.name) (.slice a n c) (.slice fa fn fc) (.slice ra rn rc) (.slice oa on oc) (.int .i64 B.ticks) (.int .i64 B.parse) (.int .i64 B.word) (.int .i64 B.drops) (.int .i64 B.vers));have HW:=hide (st.went.madeAt (zQ (Below.refl w.heap.size w9) (Nat.le_refl w.heap.size) (.int .i64 B.id) (.string B.name) (.slice a n c) (.slice fa fn fc) (.slice ra rn rc) (.slice oa on oc) (.int .i64 B.ticks) (.int .i64 B.parse) (.int .i64 B.word) (.int .i64 B.drops) (.int .i64 B.vers)) hlt (Nat.le_refl _));clear st fr;go_wp2;exact bodyPost_ret (v:=.agg #[.int .i64 B.id,.string B.name,.slice a n c,.slice fa fn fc,.slice ra rn rc,.slice oa on oc,.int .i64 B.ticks,.int .i64 B.parse,.int .i64 B.word,.int .i64 B.drops,.int .i64 B.vers]) (by simp [results,Tryz.results51,go_sem, *]) rfl ⟨a,n,c,fa,fn,fc,ra,rn,rc,oa,on,oc,B,rfl,HO.out,HD.out,HW.out⟩
 by_cases y1z:y=1
 ·subst y1z;(go_wp2_with fail);refine (zfB 11 C a0 l0 c0 z0 _ _ _ w3 st.went.cur rfl ?h1a ?h2a ?h3a ?h4a).mono ?_
  case h1a=>rfl
  case h2a=>kernel_rfl
  case h3a=>decide
  case h4a=>decide
  rintro e w4 ⟨S,hS,rfl,wt⟩;have st:=st.draw wt;have hD:FewB { B with name:=S }:=⟨HD.out.pl,HD.out.fl,HD.out.fr,HD.out.v,(by show S.size≤30; omega)⟩;have st2:=st.put (B':={ B with name:=S }) ⟨st.own.ports,st.own.f,st.own.v⟩ 1 (.string S) rfl;obtain ⟨x0,x1,x2,x3,x4,x5,x6,x7,x8,x9,x10⟩:=zp st.box;have g1:=zi st.box 1;clear wt HD st;generalize hB2:({ B with name:=S }:BR)=B2 at st2 hD;clear hB2;have HD:=hide hD;clear hD;have st:=st2;clear st2;obtain ⟨B,hBr⟩:∃y,y=B2:=⟨_,rfl⟩;subst hBr;(go_upto_region 15 with fail);clear x0 x1 x2 x3 x4 x5 x6 x7 x8 x9 x10 g1;generalize hw9:(w4.setCell ⟨X,1,none⟩ (.string S))=w9 at *;clear hw9;obtain ⟨x0,x1,x2,x3,x4,x5,x6,x7,x8,x9,x10⟩:=zp st.box;obtain ⟨y0,y1,y2,y3,y4,y5,y6,y7,y8,y9,y10⟩:=zp st.res;have fr:=zi st.res;have f0:=fr 0;have f1:=fr 1;have f2:=fr 2;have f3:=fr 3;have f4:=fr 4;have f5:=fr 5;have f6:=fr 6;have f7:=fr 7;have f8:=fr 8;have f9:=fr 9;have f10:=fr 10;have ne1:¬X=w.heap.size:=by have:=st.hX; omega
  have ne2:¬w.heap.size=X:=by have:=st.hX; omega
  have HO:=hide (st.own.boxed11 st.res (.int .i64 B.id) (.string B.name) (.slice a n c) (.slice fa fn fc) (.slice ra rn rc) (.slice oa on oc) (.int .i64 B.ticks) (.int .i64 B.parse) (.int .i64 B.word) (.int .i64 B.drops) (.int .i64 B.vers));have HW:=hide (st.went.madeAt (zQ (Below.refl w.heap.size w9) (Nat.le_refl w.heap.size) (.int .i64 B.id) (.string B.name) (.slice a n c) (.slice fa fn fc) (.slice ra rn rc) (.slice oa on oc) (.int .i64 B.ticks) (.int .i64 B.parse) (.int .i64 B.word) (.int .i64 B.drops) (.int .i64 B.vers)) hlt (Nat.le_refl _));clear st fr;go_wp2;exact bodyPost_ret (v:=.agg #[.int .i64 B.id,.string B.name,.slice a n c,.slice fa fn fc,.slice ra rn rc,.slice oa on oc,.int .i64 B.ticks,.int .i64 B.parse,.int .i64 B.word,.int .i64 B.drops,.int .i64 B.vers]) (by simp [results,Tryz.results51,go_sem, *]) rfl ⟨a,n,c,fa,fn,fc,ra,rn,rc,oa,on,oc,B,rfl,HO.out,HD.out,HW.out⟩
 by_cases y2z:y=2
 ·subst y2z;(go_wp2_with fail);refine (ziK C a0 l0 c0 z0 _ st.went.cur).mono ?_;rintro e w4 ⟨a7,c7,m7,l7,rfl,h71,h74,hl7,o7,wt⟩;have st:=st.draw wt;have hD:FewB { B with ports:=l7 }:=⟨(by show l7.length≤6; omega),HD.out.fl,HD.out.fr,HD.out.v,HD.out.nm⟩;have o7:=zL o7 (base':=w.heap.size) SZ3.out;have st2:=st.put (B':={ B with ports:=l7 }) (st.own.putPorts (Below.refl _ _) o7) 2 (.slice a7 m7 c7) rfl;obtain ⟨x0,x1,x2,x3,x4,x5,x6,x7,x8,x9,x10⟩:=zp st.box;have g2:=zi st.box 2;clear wt HD st;generalize hB2:({ B with ports:=l7 }:BR)=B2 at st2 hD;clear hB2;have HD:=hide hD;clear hD;have st:=st2;clear st2;obtain ⟨a,har⟩:∃y,y=a7:=⟨_,rfl⟩;subst har;obtain ⟨n,hnr⟩:∃y,y=m7:=⟨_,rfl⟩;subst hnr;obtain ⟨c,hcr⟩:∃y,y=c7:=⟨_,rfl⟩;subst hcr;obtain ⟨B,hBr⟩:∃y,y=B2:=⟨_,rfl⟩;subst hBr;(go_upto_region 15 with fail);clear x0 x1 x2 x3 x4 x5 x6 x7 x8 x9 x10 g2;generalize hw9:(w4.setCell ⟨X,2,none⟩ (.slice a n c))=w9 at *;clear hw9;obtain ⟨x0,x1,x2,x3,x4,x5,x6,x7,x8,x9,x10⟩:=zp st.box;obtain ⟨y0,y1,y2,y3,y4,y5,y6,y7,y8,y9,y10⟩:=zp st.res;have fr:=zi st.res;have f0:=fr 0;have f1:=fr 1;have f2:=fr 2;have f3:=fr 3;have f4:=fr 4;have f5:=fr 5;have f6:=fr 6;have f7:=fr 7;have f8:=fr 8;have f9:=fr 9;have f10:=fr 10;have ne1:¬X=w.heap.size:=by have:=st.hX; omega
  have ne2:¬w.heap.size=X:=by have:=st.hX; omega
  have HO:=hide (st.own.boxed11 st.res (.int .i64 B.id) (.string B.name) (.slice a n c) (.slice fa fn fc) (.slice ra rn rc) (.slice oa on oc) (.int .i64 B.ticks) (.int .i64 B.parse) (.int .i64 B.word) (.int .i64 B.drops) (.int .i64 B.vers));have HW:=hide (st.went.madeAt (zQ (Below.refl w.heap.size w9) (Nat.le_refl w.heap.size) (.int .i64 B.id) (.string B.name) (.slice a n c) (.slice fa fn fc) (.slice ra rn rc) (.slice oa on oc) (.int .i64 B.ticks) (.int .i64 B.parse) (.int .i64 B.word) (.int .i64 B.drops) (.int .i64 B.vers)) hlt (Nat.le_refl _));clear st fr;go_wp2;exact bodyPost_ret (v:=.agg #[.int .i64 B.id,.string B.name,.slice a n c,.slice fa fn fc,.slice ra rn rc,.slice oa on oc,.int .i64 B.ticks,.int .i64 B.parse,.int .i64 B.word,.int .i64 B.drops,.int .i64 B.vers]) (by simp [results,Tryz.results51,go_sem, *]) rfl ⟨a,n,c,fa,fn,fc,ra,rn,rc,oa,on,oc,B,rfl,HO.out,HD.out,HW.out⟩
 by_cases y3z:y=3
 ·subst y3z;(go_wp2_with fail);refine (zjy C a0 l0 c0 z0 _ st.went.cur).mono ?_;rintro e w4 ⟨fa7,fn7,fc7,l7,rfl,hl7,hlen7,hR7,o7,wt⟩;have st:=st.draw wt;have hD:FewB { B with f:=l7 }:=⟨HD.out.pl,(by show l7.length≤100; omega),hR7,HD.out.v,HD.out.nm⟩;have o7:=zL o7 (base':=w.heap.size) SZ3.out;have st2:=st.put (B':={ B with f:=l7 }) (st.own.putF (Below.refl _ _) o7) 3 (.slice fa7 fn7 fc7) rfl;obtain ⟨x0,x1,x2,x3,x4,x5,x6,x7,x8,x9,x10⟩:=zp st.box;have g3:=zi st.box 3;clear wt HD st;generalize hB2:({ B with f:=l7 }:BR)=B2 at st2 hD;clear hB2;have HD:=hide hD;clear hD;have st:=st2;clear st2;obtain ⟨fa,hfar⟩:∃y,y=fa7:=⟨_,rfl⟩;subst hfar;obtain ⟨fn,hfnr⟩:∃y,y=fn7:=⟨_,rfl⟩;subst hfnr;obtain ⟨fc,hfcr⟩:∃y,y=fc7:=⟨_,rfl⟩;subst hfcr;obtain ⟨B,hBr⟩:∃y,y=B2:=⟨_,rfl⟩;subst hBr;(go_upto_region 15 with fail);clear x0 x1 x2 x3 x4 x5 x6 x7 x8 x9 x10 g3;generalize hw9:(w4.setCell ⟨X,3,none⟩ (.slice fa fn fc))=w9 at *;clear hw9;obtain ⟨x0,x1,x2,x3,x4,x5,x6,x7,x8,x9,x10⟩:=zp st.box;obtain ⟨y0,y1,y2,y3,y4,y5,y6,y7,y8,y9,y10⟩:=zp st.res;have fr:=zi st.res;have f0:=fr 0;have f1:=fr 1;have f2:=fr 2;have f3:=fr 3;have f4:=fr 4;have f5:=fr 5;have f6:=fr 6;have f7:=fr 7;have f8:=fr 8;have f9:=fr 9;have f10:=fr 10;have ne1:¬X=w.heap.size:=by have:=st.hX; omega
  have ne2:¬w.heap.size=X:=by have:=st.hX; omega
  have HO:=hide (st.own.boxed11 st.res (.int .i64 B.id) (.string B.name) (.slice a n c) (.slice fa fn fc) (.slice ra rn rc) (.slice oa on oc) (.int .i64 B.ticks) (.int .i64 B.parse) (.int .i64 B.word) (.int .i64 B.drops) (.int .i64 B.vers));have HW:=hide (st.went.madeAt (zQ (Below.refl w.heap.size w9) (Nat.le_refl w.heap.size) (.int .i64 B.id) (.string B.name) (.slice a n c) (.slice fa fn fc) (.slice ra rn rc) (.slice oa on oc) (.int .i64 B.ticks) (.int .i64 B.parse) (.int .i64 B.word) (.int .i64 B.drops) (.int .i64 B.vers)) hlt (Nat.le_refl _));clear st fr;go_wp2;exact bodyPost_ret (v:=.agg #[.int .i64 B.id,.string B.name,.slice a n c,.slice fa fn fc,.slice ra rn rc,.slice oa on oc,.int .i64 B.ticks,.int .i64 B.parse,.int .i64 B.word,.int .i64 B.drops,.int .i64 B.vers]) (by simp [results,Tryz.results51,go_sem, *]) rfl ⟨a,n,c,fa,fn,fc,ra,rn,rc,oa,on,oc,B,rfl,HO.out,HD.out,HW.out⟩
 by_cases y4z:y=4
 ·subst y4z;(go_wp2_with fail);refine (zjz C a0 l0 c0 z0 _ st.went.cur).mono ?_;rintro e w4 ⟨ra7,rn7,rc7,oa7,on7,oc7,v7,ports7,pp7,rfl,o7,hF7,hp1,hp4,-,wt⟩;have st:=st.draw wt;have hD:FewB { B with v:=v7 }:=⟨HD.out.pl,HD.out.fl,HD.out.fr,⟨pp7,hF7,by omega⟩,HD.out.nm⟩;have o7:=o7.lt (base':=w.heap.size) SZ3.out;have st2:=st.putV o7;obtain ⟨x0,x1,x2,x3,x4,x5,x6,x7,x8,x9,x10⟩:=zp st.box;have g4:=zi st.box 4;have g5:=zi st.box 5;clear wt HD st;generalize hB2:({ B with v:=v7 }:BR)=B2 at st2 hD;clear hB2;have HD:=hide hD;clear hD;have st:=st2;clear st2;obtain ⟨ra,hrar⟩:∃y,y=ra7:=⟨_,rfl⟩;subst hrar;obtain ⟨rn,hrnr⟩:∃y,y=rn7:=⟨_,rfl⟩;subst hrnr;obtain ⟨rc,hrcr⟩:∃y,y=rc7:=⟨_,rfl⟩;subst hrcr;obtain ⟨oa,hoar⟩:∃y,y=oa7:=⟨_,rfl⟩;subst hoar;obtain ⟨on,honr⟩:∃y,y=on7:=⟨_,rfl⟩;subst honr;obtain ⟨oc,hocr⟩:∃y,y=oc7:=⟨_,rfl⟩;subst hocr;obtain ⟨B,hBr⟩:∃y,y=B2:=⟨_,rfl⟩;subst hBr;(go_upto_region 15 with fail);clear x0 x1 x2 x3 x4 x5 x6 x7 x8 x9 x10 g4 g5;generalize hw9:((w4.setCell ⟨X,4,none⟩ (.slice ra rn rc)).setCell ⟨X,5,none⟩ (.slice oa on oc))=w9 at *;clear hw9;obtain ⟨x0,x1,x2,x3,x4,x5,x6,x7,x8,x9,x10⟩:=zp st.box;obtain ⟨y0,y1,y2,y3,y4,y5,y6,y7,y8,y9,y10⟩:=zp st.res;have fr:=zi st.res;have f0:=fr 0;have f1:=fr 1;have f2:=fr 2;have f3:=fr 3;have f4:=fr 4;have f5:=fr 5;have f6:=fr 6;have f7:=fr 7;have f8:=fr 8;have f9:=fr 9;have f10:=fr 10;have ne1:¬X=w.heap.size:=by have:=st.hX; omega
  have ne2:¬w.heap.size=X:=by have:=st.hX; omega
  have HO:=hide (st.own.boxed11 st.res (.int .i64 B.id) (.string B.name) (.slice a n c) (.slice fa fn fc) (.slice ra rn rc) (.slice oa on oc) (.int .i64 B.ticks) (.int .i64 B.parse) (.int .i64 B.word) (.int .i64 B.drops) (.int .i64 B.vers));have HW:=hide (st.went.madeAt (zQ (Below.refl w.heap.size w9) (Nat.le_refl w.heap.size) (.int .i64 B.id) (.string B.name) (.slice a n c) (.slice fa fn fc) (.slice ra rn rc) (.slice oa on oc) (.int .i64 B.ticks) (.int .i64 B.parse) (.int .i64 B.word) (.int .i64 B.drops) (.int .i64 B.vers)) hlt (Nat.le_refl _));clear st fr;go_wp2;exact bodyPost_ret (v:=.agg #[.int .i64 B.id,.string B.name,.slice a n c,.slice fa fn fc,.slice ra rn rc,.slice oa on oc,.int .i64 B.ticks,.int .i64 B.parse,.int .i64 B.word,.int .i64 B.drops,.int .i64 B.vers]) (by simp [results,Tryz.results51,go_sem, *]) rfl ⟨a,n,c,fa,fn,fc,ra,rn,rc,oa,on,oc,B,rfl,HO.out,HD.out,HW.out⟩
 by_cases y5z:y=5
 ·subst y5z;(go_wp2_with fail);refine (zan C a0 l0 c0 z0 [-1,1000000,1000001] _ _ w3 st.went.cur rfl rfl (by simp) (by simp)).mono ?_;rintro e w4 ⟨q,-,rfl,wt⟩;have st:=st.draw wt;have hD:FewB { B with drops:=q }:=⟨HD.out.pl,HD.out.fl,HD.out.fr,HD.out.v,HD.out.nm⟩;have st2:=st.put (B':={ B with drops:=q }) ⟨st.own.ports,st.own.f,st.own.v⟩ 9 (.int .i64 q) rfl;obtain ⟨x0,x1,x2,x3,x4,x5,x6,x7,x8,x9,x10⟩:=zp st.box;have g9:=zi st.box 9;clear wt HD st;generalize hB2:({ B with drops:=q }:BR)=B2 at st2 hD;clear hB2;have HD:=hide hD;clear hD;have st:=st2;clear st2;obtain ⟨B,hBr⟩:∃y,y=B2:=⟨_,rfl⟩;subst hBr;(go_upto_region 15 with fail);clear x0 x1 x2 x3 x4 x5 x6 x7 x8 x9 x10 g9;generalize hw9:(w4.setCell ⟨X,9,none⟩ (.int .i64 q))=w9 at *;clear hw9;obtain ⟨x0,x1,x2,x3,x4,x5,x6,x7,x8,x9,x10⟩:=zp st.box;obtain ⟨y0,y1,y2,y3,y4,y5,y6,y7,y8,y9,y10⟩:=zp st.res;have fr:=zi st.res;have f0:=fr 0;have f1:=fr 1;have f2:=fr 2;have f3:=fr 3;have f4:=fr 4;have f5:=fr 5;have f6:=fr 6;have f7:=fr 7;have f8:=fr 8;have f9:=fr 9;have f10:=fr 10;have ne1:¬X=w.heap.size:=by have:=st.hX; omega
  have ne2:¬w.heap.size=X:=by have:=st.hX; omega
  have HO:=hide (st.own.boxed11 st.res (.int .i64 B.id) (.string B.name) (.slice a n c) (.slice fa fn fc) (.slice ra rn rc) (.slice oa on oc) (.int .i64 B.ticks) (.int .i64 B.parse) (.int .i64 B.word) (.int .i64 B.drops) (.int .i64 B.vers));have HW:=hide (st.went.madeAt (zQ (Below.refl w.heap.size w9) (Nat.le_refl w.heap.size) (.int .i64 B.id) (.string B.name) (.slice a n c) (.slice fa fn fc) (.slice ra rn rc) (.slice oa on oc) (.int .i64 B.ticks) (.int .i64 B.parse) (.int .i64 B.word) (.int .i64 B.drops) (.int .i64 B.vers)) hlt (Nat.le_refl _));clear st fr;go_wp2;exact bodyPost_ret (v:=.agg #[.int .i64 B.id,.string B.name,.slice a n c,.slice fa fn fc,.slice ra rn rc,.slice oa on oc,.int .i64 B.ticks,.int .i64 B.parse,.int .i64 B.word,.int .i64 B.drops,.int .i64 B.vers]) (by simp [results,Tryz.results51,go_sem, *]) rfl ⟨a,n,c,fa,fn,fc,ra,rn,rc,oa,on,oc,B,rfl,HO.out,HD.out,HW.out⟩
 go_upto_region 15 with fail
 obtain ⟨x0,x1,x2,x3,x4,x5,x6,x7,x8,x9,x10⟩:=zp st.box;obtain ⟨y0,y1,y2,y3,y4,y5,y6,y7,y8,y9,y10⟩:=zp st.res;have fr:=zi st.res;have f0:=fr 0;have f1:=fr 1;have f2:=fr 2;have f3:=fr 3;have f4:=fr 4;have f5:=fr 5;have f6:=fr 6;have f7:=fr 7;have f8:=fr 8;have f9:=fr 9;have f10:=fr 10;have ne1:¬X=w.heap.size:=by have:=st.hX; omega
 have ne2:¬w.heap.size=X:=by have:=st.hX; omega
 have HO:=hide (st.own.boxed11 st.res (.int .i64 B.id) (.string B.name) (.slice a n c) (.slice fa fn fc) (.slice ra rn rc) (.slice oa on oc) (.int .i64 B.ticks) (.int .i64 B.parse) (.int .i64 B.word) (.int .i64 B.drops) (.int .i64 B.vers));have HW:=hide (st.went.madeAt (zQ (Below.refl w.heap.size w3) (Nat.le_refl w.heap.size) (.int .i64 B.id) (.string B.name) (.slice a n c) (.slice fa fn fc) (.slice ra rn rc) (.slice oa on oc) (.int .i64 B.ticks) (.int .i64 B.parse) (.int .i64 B.word) (.int .i64 B.drops) (.int .i64 B.vers)) hlt (Nat.le_refl _));clear st fr;go_wp2;exact bodyPost_ret (v:=.agg #[.int .i64 B.id,.string B.name,.slice a n c,.slice fa fn fc,.slice ra rn rc,.slice oa on oc,.int .i64 B.ticks,.int .i64 B.parse,.int .i64 B.word,.int .i64 B.drops,.int .i64 B.vers]) (by simp [results,Tryz.results51,go_sem, *]) rfl ⟨a,n,c,fa,fn,fc,ra,rn,rc,oa,on,oc,B,rfl,HO.out,HD.out,HW.out⟩

theorem ziW (x:BV) (id:Int) (g:Nat) (w:World) (c:w.cell? ⟨g,0,none⟩=some (.int .i64 id)) :
  Calls Tryz.prog 62 #[.agg #[.int .i64 x.B.id,.string x.B.name,.slice x.a x.n x.c,.slice x.fa x.fn x.fc,.slice x.ra x.rn x.rc,.slice x.oa x.on x.oc,.int .i64 x.B.ticks,.int .i64 x.B.parse,.int .i64 x.B.word,.int .i64 x.B.drops,.int .i64 x.B.vers],.pointer (some ⟨g,0,none⟩)] w fun e w'=>e=.returned (.bool (decide (x.B.id=id)))∧Below w.heap.size w w':=by
 generalize hw1:w.alloc (Obj.cells #[.int .i64 x.B.id,.string x.B.name,.slice x.a x.n x.c,.slice x.fa x.fn x.fc,.slice x.ra x.rn x.rc,.slice x.oa x.on x.oc,.int .i64 x.B.ticks,.int .i64 x.B.parse,.int .i64 x.B.word,.int .i64 x.B.drops,.int .i64 x.B.vers] 61)=w1;have b1:=zb hw1;have k1:=zk hw1;obtain ⟨c0,c1,c2,c3,c4,c5,c6,c7,c8,c9,c10⟩:=zp k1;have cg:=(b1.cell (zo c)).trans c;clear c;by_cases he:x.B.id=id
 ·have HE:=hide he;clear he;go_enter Tryz.func62,Tryz.ntmps62;go_wp2;go_ret;exact ⟨zH (by rw [HE.out]; simp),b1⟩
 ·have HE:=hide he;clear he;go_enter Tryz.func62,Tryz.ntmps62;go_wp2;go_ret;exact ⟨zH (by have:=HE.out; simp [this]),b1⟩

theorem zhm (a:Option Addr) (n c:Nat) (l:List BV) (id:Int) (g:Nat) (w:World) (h:GRow brF w a n c l) (cg:w.cell? ⟨g,0,none⟩=some (.int .i64 id)) :
  Calls Tryz.prog 94 #[.slice a n c,.func (.func 62) #[] #[.pointer (some ⟨g,0,none⟩)]] w fun e w'=>∃k:Int,e=.returned (.int .i64 k)∧(0≤k↔∃y∈l,y.B.id=id)∧Below w.heap.size w w':=by
 have hle:=h.le;have htop:=h.top;unfold maxLen at htop;have hsz:=h.size;go_enter Tryz.func94,Tryz.ntmps94;go_wp2
 go_loopw [8] (fun i wr=>∃k:Nat,k≤n∧i=.int .i64 k∧(∀y∈l.take k,¬y.B.id=id)∧Below w.heap.size w wr) (fun i _=>n - (intOf i).toNat)
 case atStart=>exact ⟨0,Nat.zero_le _,rfl,by intro y hy; simp at hy,Below.refl _ _⟩
 case round =>
  obtain ⟨k,hk,rfl,hno,hb⟩:=hrel;by_cases hlt:k < n
  ·obtain ⟨x,b,off,hx,rfl,ca0,ca1,ca2,ca3,ca4,ca5,ca6,ca7,ca8,ca9,ca10⟩:=br_at (h.below hb) k hlt;have HX:=hide hx;have HN:=hide hno;have HB:=hide hb;clear hno hb hx;(go_wp2_with fail);refine (ziW x id g _ ((HB.out.cell (zo cg)).trans cg)).mono ?_;rintro r w1 ⟨rfl,hb1⟩;have HB1:=hide (zc HB.out hb1);clear hb1 ca0 ca1 ca2 ca3 ca4 ca5 ca6 ca7 ca8 ca9 ca10;by_cases t1:x.B.id=id
   ·have HF:Hid (∃y∈l,y.B.id=id):=hide ⟨x,List.mem_of_getElem? HX.out,t1⟩;rw [decide_eq_true t1];clear t1;go_wp2;go_ret;exact ⟨(k:Int),rfl,⟨fun _=>HF.out,fun _=>by omega⟩,HB1.out⟩
   ·have HO:=hide (zbK (P:=fun y:BV=>¬y.B.id=id) HX.out HN.out t1);rw [decide_eq_false t1];clear t1;go_wp2
    go_roundw
    case rel=>exact ⟨k+1,by omega,by go_num,HO.out,HB1.out⟩
    case measure=>simp [intOf]; omega
  ·have hkn:k=n:=by omega
   rw [List.take_of_length_le (by omega)] at hno;have HN:=hide hno;clear hno;subst hkn;go_wp2;go_ret;exact ⟨-1,rfl,⟨fun e=>by omega,fun ⟨y,hy,e⟩=>absurd e (HN.out y hy)⟩,hb⟩

theorem zff (a:Option Addr) (n c:Nat) (l:List BV) (id:Int) (g:Nat) (w:World) (h:GRow brF w a n c l) (cg:w.cell? ⟨g,0,none⟩=some (.int .i64 id)) :
  Calls Tryz.prog 64 #[.slice a n c,.func (.func 62) #[] #[.pointer (some ⟨g,0,none⟩)]] w fun e w'=>Says (∃y∈l,y.B.id=id) w e w':=by
 go_enter Tryz.func64,Tryz.ntmps64;go_wp2_with fail
 refine (zhm a n c l id g _ h cg).mono ?_;rintro e w1 ⟨k,rfl,hk,hb⟩;have HK:=hide hk;clear hk;go_wp2;go_ret;exact ⟨decide (0≤k),zH (by simp),by rw [← HK.out]; simp,hb⟩

theorem zeE (a:Option Addr) (n c:Nat) (l:List BV) (w:World) (h:GRow brF w a n c l) (hr:∀x∈l,x.Reads w) (hm:∀x∈l,x.fn≤16777216) (hR:∀x∈l,∀r∈x.B.v.rows,r.Rng) :
  Calls Tryz.prog 34 #[.slice a n c] w fun e w'=>Says (zaD (l.map BV.B)) w e w':=by
 have hle:=h.le;have htop:=h.top;unfold maxLen at htop;have hsz:=h.size;have hlen:(l.map BV.B).length=n:=by simp [hsz]
 have hat:∀{i:Nat} {x:BV},l[i]? = some x→(l.map BV.B)[i]? = some x.B:=fun hx=>by rw [List.getElem?_map,hx]; rfl
 generalize hbs:l.map BV.B=bs at *;cases hA:(decide (1≤(n:Int)) && decide ((n:Int)≤6))
 ·have HNO:Hid ((false=true)↔zaD bs):=hide (zaC fun hp=>by have h1:=hp.2.2.1; have h2:=hp.2.2.2; simp at hA; omega);go_enter Tryz.func34,Tryz.ntmps34;(go_wp2_with fail);refine (zF (n:Int) 1 6 _).mono ?_;rintro e w2 ⟨rfl,ew⟩;obtain rfl:=ew.symm;rw [hA];clear hA;go_wp2;go_ret;exact ⟨false,rfl,HNO.out,Below.refl _ _⟩
 have hn6:1≤n∧n≤6:=by simp at hA; omega
 go_enter Tryz.func34,Tryz.ntmps34;go_wp2_with fail
 refine (zF (n:Int) 1 6 _).mono ?_;rintro e w2 ⟨rfl,ew⟩;obtain rfl:=ew.symm;rw [hA];clear hA;go_wp2_with fail
 go_loopw [12] (fun i wr=>∃k:Nat,k≤n∧i=.int .i64 k∧(∀y∈bs.take k,zz y=true)∧(∀(i j:Nat) (x y:BR),i < j→j < k→bs[i]? = some x→bs[j]? = some y→x.id≠y.id)∧Below w.heap.size w wr) (fun i _=>n - (intOf i).toNat)
 case atStart=>exact ⟨0,Nat.zero_le _,rfl,by intro y hy; simp at hy,by intro i j x y _ hj; omega,Below.refl _ _⟩
 case round =>
  obtain ⟨k,hk,rfl,hok,hid,hb⟩:=hrel;by_cases hlt:k < n
  ·obtain ⟨x,b,off,hx,rfl,ca0,ca1,ca2,ca3,ca4,ca5,ca6,ca7,ca8,ca9,ca10⟩:=br_at (h.below hb) k hlt;have hmem:=List.mem_of_getElem? hx;have HBX:=hide (hat hx);have HOK:=hide hok;have HID:=hide hid;generalize hwa:wr.alloc (Obj.cells #[.int .i64 x.B.id,.string x.B.name,.slice x.a x.n x.c,.slice x.fa x.fn x.fc,.slice x.ra x.rn x.rc,.slice x.oa x.on x.oc,.int .i64 x.B.ticks,.int .i64 x.B.parse,.int .i64 x.B.word,.int .i64 x.B.drops,.int .i64 x.B.vers] 61)=wa;have ba:=zb hwa;have ka:=zk hwa;have b0a:=zc hb ba;obtain ⟨c0,c1,c2,c3,c4,c5,c6,c7,c8,c9,c10⟩:=zp ka;have i1:(0:Int)≤(k:Int):=by omega
   have i2:(k:Int) < (n:Int):=by omega
   have hrx:=hr x hmem;clear hok hid hx;(go_wp2_with fail);refine (zcC x.a x.n x.c x.fa x.fn x.fc x.ra x.rn x.rc x.oa x.on x.oc x.B _ (hrx.below b0a) (hm x hmem) (hR x hmem)).mono ?_;rintro e w3 ⟨rfl,hb3⟩;have k3:=za ka hb3;have b03:=zc b0a hb3;generalize hRR:wr.heap.size=G at *;clear c0 c1 c2 c3 c4 c5 c6 c7 c8 c9 c10 ca0 ca1 ca2 ca3 ca4 ca5 ca6 ca7 ca8 ca9 ca10 ka ba hb3 b0a hwa;cases hB:zz x.B
   ·have HNO:Hid ((false=true)↔zaD bs):=hide (zaC fun hp=>by have:=hp.1 x.B (List.mem_of_getElem? HBX.out); rw [hB] at this; cases this);go_wp2;go_ret;exact ⟨false,rfl,HNO.out,b03⟩
   ·have HOK':=hide (zbK HBX.out HOK.out hB);have hkc:(k:Int)≤(c:Int):=by omega
    obtain ⟨c0,c1,c2,c3,c4,c5,c6,c7,c8,c9,c10⟩:=zp k3;(go_wp2_with fail);refine (zff (some ⟨b,off,none⟩) k c (l.take k) x.B.id G _ ((GRow.take h (by omega)).below b03) c0).mono ?_;rintro e w4 ⟨q,rfl,hq,hb4⟩;have HB4:=hide (zc b03 hb4);have HQ:=hide hq;clear hq hb4 c0 c1 c2 c3 c4 c5 c6 c7 c8 c9 c10 k3;cases q
    ·have HID':Hid (∀(i j:Nat) (u v:BR),i < j→j < k+1→bs[i]? = some u→bs[j]? = some v→u.id≠v.id):=hide (fun i j u v hij hj hu hv=>by
      by_cases hjm:j=k
      ·subst hjm;rw [HBX.out] at hv;cases hv;intro he
       have:∃y∈l.take j,y.B.id=x.B.id:=by
        rw [← hbs,List.getElem?_map] at hu;cases hy:l[i]? with
        | none=>rw [hy] at hu; cases hu
        | some y =>
         rw [hy] at hu;cases hu;exact ⟨y,List.mem_of_getElem? (by rw [List.getElem?_take_of_lt hij]; exact hy),he⟩
       have:=HQ.out.2 this
       cases this
      ·exact HID.out i j u v hij (by omega) hu hv)
     go_wp2
     go_roundw
     case rel=>exact ⟨k+1,by omega,by go_num,HOK'.out,HID'.out,HB4.out⟩
     case measure=>simp [intOf]; omega
    ·have HNO:Hid ((false=true)↔zaD bs):=hide (zaC fun hp=>by
      obtain ⟨y,hy,he⟩:=HQ.out.1 rfl;obtain ⟨i,hi⟩:=List.getElem?_of_mem hy;have hik:i < k:=by have:=(List.getElem?_eq_some_iff.1 hi).1; rw [List.length_take] at this; omega
      rw [List.getElem?_take_of_lt hik] at hi;exact hp.2.1 i k _ _ hik (hat hi) HBX.out he)
     go_wp2;go_ret;exact ⟨false,rfl,HNO.out,HB4.out⟩
  ·have hkn:k=n:=by omega
   rw [List.take_of_length_le (by omega)] at hok;have HP:Hid (zaD bs):=hide ⟨hok,fun i j x y hij hx hy=>hid i j x y hij (by have:=(List.getElem?_eq_some_iff.1 hy).1; omega) hx hy,by omega,by omega⟩;clear hok hid;subst hkn;go_wp2;go_ret;exact ⟨true,rfl,zd3 HP.out,hb⟩

theorem zeI (N:NV) (w:World) (h:zas w N) :
  Calls Tryz.prog 36 #[.agg #[.slice N.ba N.bn N.bc,.slice N.la N.ln N.lc,.slice N.sa N.sn N.sc]] w fun e w'=>Says (Quiet N.brs N.ls) w e w':=by
 obtain ⟨ba,bn,bc,bs,la,ln,lc,ls,sa,sn,sc,ss⟩:=N;have hG:=h.b;have hle:=Nat.le_trans hG.le hG.top;unfold maxLen at hle;have hsz:=hG.size;have hat:∀{i:Nat} {x:BV},bs[i]? = some x→(bs.map BV.B)[i]? = some x.B:=fun hx=>by rw [List.getElem?_map,hx]; rfl
 have hlen:(bs.map BV.B).length=bn:=by simp; exact hsz
 have hitem:∀x∈bs,x.Reads w:=h.item;have HH:=hide h;clear h;generalize hbR:NV.brs ⟨ba,bn,bc,bs,la,ln,lc,ls,sa,sn,sc,ss⟩=bR;have hbR':bs.map BV.B=bR:=hbR;rw [hbR'] at hat hlen;clear hbR hbR';dsimp only at hG hle hsz ⊢;generalize hw1:w.alloc (Obj.cells #[.slice ba bn bc,.slice la ln lc,.slice sa sn sc] 31)=w1;have b01:=zb hw1;have k1:=zk hw1;obtain ⟨x0,x1,x2⟩:=zd k1;go_enter Tryz.func36,Tryz.ntmps36;go_wp2_with fail
 clear hw1 x0 x1 x2
 go_loopw [13] (fun i wr=>∃k:Nat,k≤bn∧i=.int .i64 k∧(∀(i:Nat) (B:BR),i < k→bR[i]? = some B→zen ls i B)∧wr.heap[w.heap.size]? = some (.cells #[.slice ba bn bc,.slice la ln lc,.slice sa sn sc] 31)∧Below w.heap.size w wr) (fun i _=>bn - (intOf i).toNat)
 case atStart=>exact ⟨0,Nat.zero_le _,rfl,by intro i B hi; omega,k1,b01⟩
 case round =>
  obtain ⟨k,hk,rfl,hqt,hbox,hb⟩:=hrel;clear k1 b01;by_cases hlt:k < bn
  ·obtain ⟨x,bb,off,hx,rfl,ca0,ca1,ca2,ca3,ca4,ca5,ca6,ca7,ca8,ca9,ca10⟩:=br_at (hG.below hb) k hlt;have hrow:=hitem x (List.mem_of_getElem? hx);have hpl:=Nat.le_trans hrow.ports.le hrow.ports.top;unfold maxLen at hpl;have hps:=hrow.ports.size;have i1:(0:Int)≤(k:Int):=by omega
   have i2:(k:Int) < (bn:Int):=by omega
   have HBX:=hide (hat hx);have HQT:=hide hqt;generalize hwa:wr.alloc (Obj.cells #[.int .i64 x.B.id,.string x.B.name,.slice x.a x.n x.c,.slice x.fa x.fn x.fc,.slice x.ra x.rn x.rc,.slice x.oa x.on x.oc,.int .i64 x.B.ticks,.int .i64 x.B.parse,.int .i64 x.B.word,.int .i64 x.B.drops,.int .i64 x.B.vers] 61)=wa;have ba9:=zb hwa;have ka:=zk hwa;have kNe:=za hbox ba9;have b0a:=zc hb ba9;obtain ⟨c0,c1,c2,c3,c4,c5,c6,c7,c8,c9,c10⟩:=zp ka;clear hx hqt hbox;(go_wp2_with fail);clear c0 c1 c2 c3 c4 c5 c6 c7 c8 c9 c10 ca0 ca1 ca2 ca3 ca4 ca5 ca6 ca7 ca8 ca9 ca10 ka ba9 hwa hb
   go_loopw [21] (fun i wr=>∃p:Nat,p≤x.n∧i=.int .i64 p∧(∀(i:Nat) (y:PT),i < p→x.B.ports[i]? = some y→y.has=true→usedL ls (k:Int) (i:Int)≠0)∧wr.heap[w.heap.size]? = some (.cells #[.slice (some ⟨bb,off,none⟩) bn bc,.slice la ln lc,.slice sa sn sc] 31)∧Below w.heap.size w wr) (fun i _=>x.n - (intOf i).toNat)
   case atStart=>exact ⟨0,Nat.zero_le _,rfl,by intro i y hi; omega,kNe,b0a⟩
   case round =>
    obtain ⟨p,hp,rfl,hq,hbox5,hb5⟩:=hrel;clear kNe b0a;by_cases hpn:p < x.n
    ·obtain ⟨y,pb,po,hy,hpa,d0,d1,d2,d3,d4,d5,d6,d7⟩:=pt_at (hrow.ports.below hb5) p hpn;obtain ⟨xa,xn,xc,xfa,xfn,xfc,xra,xrn,xrc,xoa,xon,xoc,xB⟩:=x;dsimp only at hpa hpn hp hrow hpl hps HBX hq hy ⊢;subst hpa;have i3:(0:Int)≤(p:Int):=by omega
     have i4:(p:Int) < (xn:Int):=by omega
     have HQ:=hide hq;have HY:=hide hy;generalize hwb:wr.alloc (Obj.cells #[.bool y.up,.int .i64 y.k,.bool y.has,.int .i64 y.v.r,.int .i64 y.v.c,.int .i64 y.v.h,.int .i64 y.v.b,.int .i64 y.v.p] 79)=wb;have bb9:=zb hwb;have kp:=zk hwb;have kNe:=za hbox5 bb9;have b0b:=zc hb5 bb9;obtain ⟨x0,x1,x2⟩:=zd kNe;clear hq hy hbox5;(go_wp2_with fail);refine (zca ⟨some ⟨bb,off,none⟩,bn,bc,bs,la,ln,lc,ls,sa,sn,sc,ss⟩ (k:Int) (p:Int) _ (HH.out.below b0b)).mono ?_;rintro e w6 ⟨rfl,hb6⟩;have kNe:=za kNe hb6;have kp:=za kp hb6;have b06:=zc b0b hb6;generalize hRR:wr.heap.size=G at *;clear x0 x1 x2 d0 d1 d2 d3 d4 d5 d6 d7 hwb bb9 b0b hb6 hb5;obtain ⟨o0,o1,o2,o3,o4,o5,o6,o7⟩:=zcJ kp;dsimp only;have hBU:=zet ls (k:Int) (p:Int);have HKN:=hide kNe;cases hh:y.has
     ·rw [hh] at o2;have HNX:Hid (∀(i:Nat) (z:PT),i < p+1→xB.ports[i]? = some z→z.has=true→usedL ls (k:Int) (i:Int)≠0):=hide (fun i z hi hz hzh=>by
       by_cases hip:i=p
       ·subst hip; rw [HY.out] at hz; cases hz; rw [hh] at hzh; cases hzh
       ·exact HQ.out i z (by omega) hz hzh)
      obtain ⟨t1,t2,t3,hT⟩:∃(x y:Int) (z:Bool),zdm (zaM ls (k:Int) (p:Int))=.tuple #[.int .i64 x,.int .i64 y,.bool z]:=by
       cases zaM ls (k:Int) (p:Int) with
       | none=>exact ⟨_,_,_,rfl⟩
       | some q=>exact ⟨_,_,_,rfl⟩
      rw [hT];clear hT hBU kNe;go_wp2
      go_roundw
      case rel=>exact ⟨p+1,by omega,by go_num,HNX.out,HKN.out,b06⟩
      case measure=>simp [intOf]; omega
     ·rw [hh] at o2;cases hBS:zaM ls (k:Int) (p:Int) with
      | none =>
       have hu:=hBU.1 hBS;have HNO:Hid ((false=true)↔Quiet bR ls):=hide (zaC fun hp=>hp k _ HBX.out p y HY.out hh hu);clear hBU hu kNe hBS;unfold zdm;dsimp only;go_wp2;go_ret;exact ⟨false,rfl,HNO.out,b06⟩
      | some q =>
       have hu:¬usedL ls (k:Int) (p:Int)=0:=fun e=>by rw [hBU.2 e] at hBS; cases hBS
       have HNX:Hid (∀(i:Nat) (z:PT),i < p+1→xB.ports[i]? = some z→z.has=true→usedL ls (k:Int) (i:Int)≠0):=hide (fun i z hi hz hzh=>by
        by_cases hip:i=p
        ·subst hip; exact hu
        ·exact HQ.out i z (by omega) hz hzh)
       clear hBU hu kNe hBS;obtain ⟨qa,qb⟩:=q;unfold zdm;dsimp only;go_wp2
       go_roundw
       case rel=>exact ⟨p+1,by omega,by go_num,HNX.out,HKN.out,b06⟩
       case measure=>simp [intOf]; omega
    ·have hpx:p=x.n:=by omega
     have HQT':Hid (∀(i:Nat) (B:BR),i < k+1→bR[i]? = some B→zen ls i B):=hide (fun i B hi hB=>by
      by_cases him:i=k
      ·subst him;rw [HBX.out] at hB;cases hB;intro q y hy hyh;exact hq q y (by have:=(List.getElem?_eq_some_iff.1 hy).1; omega) hy hyh
      ·exact HQT.out i B (by omega) hB)
     have HBOX5:=hide hbox5;have HB5:=hide hb5;clear hq hbox5 hb5;go_wp2
     go_roundw
     case rel=>exact ⟨k+1,by omega,by go_num,HQT'.out,HBOX5.out,HB5.out⟩
     case measure=>simp [intOf]; omega
  ·have hkn:k=bn:=by omega
   have HP:Hid (Quiet bR ls):=hide (fun i B hB=>hqt i B (by have:=(List.getElem?_eq_some_iff.1 hB).1; omega) hB);clear hqt;subst hkn;go_wp2;go_ret;exact ⟨true,rfl,zd3 HP.out,hb⟩

theorem zgD (N:NV) (w:World) (h:zas w N) :
  Calls Tryz.prog 37 #[.agg #[.slice N.ba N.bn N.bc,.slice N.la N.ln N.lc,.slice N.sa N.sn N.sc]] w fun e w'=>Says (zcH N.ls N.ss) w e w':=by
 obtain ⟨ba,bn,bc,bs,la,ln,lc,ls,sa,sn,sc,ss⟩:=N;have hS:=h.s;have hls:=h.l.size;have hll:=Nat.le_trans h.l.le h.l.top;have hle:=Nat.le_trans hS.le hS.top;unfold maxLen at hle hll;have hsz:=hS.size;clear h;dsimp only at hS hle hll hls hsz ⊢;generalize hw1:w.alloc (Obj.cells #[.slice ba bn bc,.slice la ln lc,.slice sa sn sc] 31)=w1;have b01:=zb hw1;have k1:=zk hw1;obtain ⟨x0,x1,x2⟩:=zd k1;by_cases s40:(sn:Int) > 40
 ·have HNO:Hid ((false=true)↔zcH ls ss):=hide (zaC fun hp=>by have:=hp.1; omega);go_enter Tryz.func37,Tryz.ntmps37;go_wp2;go_ret;exact ⟨false,rfl,HNO.out,b01⟩
 go_enter Tryz.func37,Tryz.ntmps37;go_wp2_with fail
 clear hw1 x0 x1 x2
 go_loopw [12] (fun i wr=>∃k:Nat,k≤sn∧i=.int .i64 k∧(∀y∈ss.take k,SayOk ls y)∧wr.heap[w.heap.size]? = some (.cells #[.slice ba bn bc,.slice la ln lc,.slice sa sn sc] 31)∧Below w.heap.size w wr) (fun i _=>sn - (intOf i).toNat)
 case atStart=>exact ⟨0,Nat.zero_le _,rfl,by intro y hy; simp at hy,k1,b01⟩
 case round =>
  obtain ⟨k,hk,rfl,hss,hbox,hb⟩:=hrel;clear k1 b01;by_cases hlt:k < sn
  ·obtain ⟨y,sb,so,hy,rfl,d0,d1,d2,d3,d4,d5,d6⟩:=zg6 (hS.below hb) k hlt;have i1:(0:Int)≤(k:Int):=by omega
   have i2:(k:Int) < (sn:Int):=by omega
   have hmem:=List.mem_of_getElem? hy;have HY:=hide hy;have HSS:=hide hss;generalize hwa:wr.alloc (Obj.cells #[.int .i64 y.l,.bool y.back,.int .i64 y.v.r,.int .i64 y.v.c,.int .i64 y.v.h,.int .i64 y.v.b,.int .i64 y.v.p] 74)=wa;have ba9:=zb hwa;have ka:=zk hwa;have kNe:=za hbox ba9;have b0a:=zc hb ba9;obtain ⟨e0,e1,e2,e3,e4,e5,e6⟩:=zew ka;obtain ⟨x0,x1,x2⟩:=zd kNe;clear hy hss hbox hb;cases h1:(decide (0≤y.l) && decide (y.l≤(ln:Int) - 1))
   ·have HNO:Hid ((false=true)↔zcH ls ss):=hide (zaC fun hp=>by
     have:=(hp.2 y hmem).1
     rw [hls,h1] at this;cases this)
    (go_wp2_with fail);refine (zF y.l 0 ((ln:Int) - 1) _).mono ?_;rintro e w2 ⟨rfl,ew⟩;obtain rfl:=ew.symm;rw [h1];clear h1;go_wp2;go_ret;exact ⟨false,rfl,HNO.out,b0a⟩
   ·(go_wp2_with fail);refine (zF y.l 0 ((ln:Int) - 1) _).mono ?_;rintro e w2 ⟨rfl,ew⟩;obtain rfl:=ew.symm;rw [h1];have H1:=hide h1;clear h1;(go_wp2_with fail);refine (zaJ y.v.r y.v.c y.v.h y.v.b y.v.p _).mono ?_;rintro e w3 ⟨rfl,hb3⟩;have HK:=hide (za kNe hb3);have HB:=hide (zc b0a hb3);clear hb3 kNe b0a ba9 ka hwa e0 e1 e2 e3 e4 e5 e6 x0 x1 x2 d0 d1 d2 d3 d4 d5 d6;cases h2:okVc y.v.r y.v.c y.v.h y.v.b y.v.p
    ·have HNO:Hid ((false=true)↔zcH ls ss):=hide (zaC fun hp=>by
      have:=(hp.2 y hmem).2
      unfold okVd at this;rw [h2] at this;cases this)
     go_wp2;go_ret;exact ⟨false,rfl,HNO.out,HB.out⟩
    ·have HYES:=hide (zbK HY.out HSS.out (P:=SayOk ls) ⟨by rw [hls]; exact H1.out,h2⟩);go_wp2
     go_roundw
     case rel=>exact ⟨k+1,by omega,by go_num,HYES.out,HK.out,HB.out⟩
     case measure=>simp [intOf]; omega
  ·have hkn:k=sn:=by omega
   rw [List.take_of_length_le (by omega)] at hss;have HP:Hid (zcH ls ss):=hide ⟨by omega,hss⟩;clear hss;subst hkn;go_wp2;go_ret;exact ⟨true,rfl,zd3 HP.out,hb⟩

theorem zbN (N:NV) (w:World) (h:zas w N) (hm:∀x∈N.bs,x.fn≤16777216) (hR:∀x∈N.bs,∀r∈x.B.v.rows,r.Rng) :
  Calls Tryz.prog 14 #[.agg #[.slice N.ba N.bn N.bc,.slice N.la N.ln N.lc,.slice N.sa N.sn N.sc]] w fun e w'=>Says (NetOk N.brs N.ls N.ss) w e w':=by
 generalize hw1:w.alloc (Obj.cells #[.slice N.ba N.bn N.bc,.slice N.la N.ln N.lc,.slice N.sa N.sn N.sc] 31)=w1;have b01:=zb hw1;have k1:=zk hw1;obtain ⟨x0,x1,x2⟩:=zd k1;have kNe:=k1;have b:=b01;clear k1 b01;go_enter Tryz.func14,Tryz.ntmps14;go_wp2_with fail
 refine (zeE N.ba N.bn N.bc N.bs _ (h.b.below b) (fun x hx=>(h.item x hx).below b) hm hR).mono ?_;rintro e v0 ⟨q0,rfl,hq0,hb0⟩;have kNe:=za kNe hb0;have b:=zc b hb0;have HQ0:=hide hq0;clear hq0 hb0 x0 x1 x2;obtain ⟨x0,x1,x2⟩:=zd kNe;cases q0
 ·have HNO:Hid ((false=true)↔NetOk N.brs N.ls N.ss):=hide (zaC fun hp=>by have:=HQ0.out.2 hp.1; cases this);go_wp2;go_ret;exact ⟨false,rfl,HNO.out,b⟩
 ·have HT0:Hid (zaD N.brs):=hide (HQ0.out.1 rfl);clear HQ0;(go_wp2_with fail);refine (zfV N _ (h.below b)).mono ?_;rintro e v1 ⟨q1,rfl,hq1,hb1⟩;have kNe:=za kNe hb1;have b:=zc b hb1;have HQ1:=hide hq1;clear hq1 hb1 x0 x1 x2;obtain ⟨x0,x1,x2⟩:=zd kNe;cases q1
  ·have HNO:Hid ((false=true)↔NetOk N.brs N.ls N.ss):=hide (zaC fun hp=>by have:=HQ1.out.2 hp.2.1; cases this);go_wp2;go_ret;exact ⟨false,rfl,HNO.out,b⟩
  ·have HT1:Hid (zaW N.brs N.ls):=hide (HQ1.out.1 rfl);clear HQ1;(go_wp2_with fail);refine (zeI N _ (h.below b)).mono ?_;rintro e v2 ⟨q2,rfl,hq2,hb2⟩;have kNe:=za kNe hb2;have b:=zc b hb2;have HQ2:=hide hq2;clear hq2 hb2 x0 x1 x2;obtain ⟨x0,x1,x2⟩:=zd kNe;cases q2
   ·have HNO:Hid ((false=true)↔NetOk N.brs N.ls N.ss):=hide (zaC fun hp=>by have:=HQ2.out.2 hp.2.2.1; cases this);go_wp2;go_ret;exact ⟨false,rfl,HNO.out,b⟩
   ·have HT2:Hid (Quiet N.brs N.ls):=hide (HQ2.out.1 rfl);clear HQ2;(go_wp2_with fail);refine (zgD N _ (h.below b)).mono ?_;rintro e v3 ⟨q3,rfl,hq3,hb3⟩;have kNe:=za kNe hb3;have b:=zc b hb3;have HQ3:=hide hq3;clear hq3 hb3 x0 x1 x2;obtain ⟨x0,x1,x2⟩:=zd kNe;cases q3
    ·have HNO:Hid ((false=true)↔NetOk N.brs N.ls N.ss):=hide (zaC fun hp=>by have:=HQ3.out.2 hp.2.2.2; cases this);go_wp2;go_ret;exact ⟨false,rfl,HNO.out,b⟩
    ·have HP:Hid (NetOk N.brs N.ls N.ss):=hide ⟨HT0.out,HT1.out,HT2.out,HQ3.out.1 rfl⟩;go_wp2;go_ret;exact ⟨true,rfl,zd3 HP.out,b⟩

end Go.Proofs.YtkcoehmpnkdinaaGreat
