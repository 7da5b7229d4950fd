/-
  Packed: VecStep PtOkI VecLess PtBestI PtRoleI BitPort SendBit PtSendsI OwnGen.
-/
import Derived.Test.YtgmkhoakindpkaaPGKW
import Derived.Test.YtgmkhoakindpkaaPGK01
import Derived.Test.YtgmkhoakindpkaaPGK02
import Derived.Test.YtgmkhoakindpkaaPGK03
import Derived.Test.YtgmkhoakindpkaaPGK04
import Derived.Deep.RegionHeld3
namespace Go.Proofs.Ytgmkhoakindpkaa
set_option maxRecDepth 100000
set_option maxHeartbeats 16000000
open Go.RowKit

theorem zbz (R C H B P k:Int) (w:World) :
  Calls Try.prog 131 #[.agg #[.int .i64 R,.int .i64 C,.int .i64 H,.int .i64 B,.int .i64 P],.int .i64 k] w fun e w'=>e=.returned (.tuple #[if zam R C H B P k=true then .agg #[.int .i64 R,.int .i64 (C+k),.int .i64 (H+1),.int .i64 B,.int .i64 P] else .agg #[.int .i64 R,.int .i64 C,.int .i64 H,.int .i64 B,.int .i64 P],.bool (zam R C H B P k)])∧Below w.heap.size w w':=by
 cases t1:okVc R C H B P
 ·have e:zam R C H B P k=false:=by unfold zam; rw [t1]; rfl
  rw [e,if_neg (by simp)];have T1:=hide t1;clear e t1;go_enter Try.func131,Try.ntmps131;(go_wp2_with fail);refine (zac R C H B P _).mono ?_;rintro e w1 ⟨rfl,hb1⟩;rw [T1.out];have q3:=zc (zy w _ _ _) hb1;obtain ⟨k0,k1,k2⟩:=zV hb1;obtain ⟨⟨x0,x1,x2,x3,x4⟩,f0,f1,f2,f3,f4⟩:=zt k0;obtain ⟨⟨y0,y1,y2,y3,y4⟩,g0,g1,g2,g3,g4⟩:=zt k1;have HB:=hide q3;have K1:=hide k1;have K2:=hide k2;have K0:=hide k0;clear hb1 k0 k1 k2 q3;go_wp2;exact bodyPost_ret (v:=.tuple #[.agg #[.int .i64 R,.int .i64 C,.int .i64 H,.int .i64 B,.int .i64 P],.bool false]) (by simp [results,Try.results131,go_sem, *]) rfl ⟨rfl,zB HB.out (by omega) _ _ _ _ _⟩
 cases t2:(decide (1≤k) && decide (k≤1000))
 ·have e:zam R C H B P k=false:=by unfold zam; rw [t1,t2]; rfl
  rw [e,if_neg (by simp)];have T1:=hide t1;have T2:=hide t2;clear e t1 t2;go_enter Try.func131,Try.ntmps131;(go_wp2_with fail);refine (zac R C H B P _).mono ?_;rintro e w1 ⟨rfl,hb1⟩;rw [T1.out];have q3:=zc (zy w _ _ _) hb1;obtain ⟨k0,k1,k2⟩:=zV hb1;obtain ⟨⟨x0,x1,x2,x3,x4⟩,f0,f1,f2,f3,f4⟩:=zt k0;obtain ⟨⟨y0,y1,y2,y3,y4⟩,g0,g1,g2,g3,g4⟩:=zt k1;have HB:=hide q3;have K1:=hide k1;have K2:=hide k2;have K0:=hide k0;clear hb1 k0 k1 k2 q3;(go_wp2_with fail);refine (zA k 1 1000 _).mono ?_;rintro e w2 ⟨rfl,rfl⟩;rw [T2.out];go_wp2;exact bodyPost_ret (v:=.tuple #[.agg #[.int .i64 R,.int .i64 C,.int .i64 H,.int .i64 B,.int .i64 P],.bool false]) (by simp [results,Try.results131,go_sem, *]) rfl ⟨rfl,zB HB.out (by omega) _ _ _ _ _⟩
 obtain ⟨-,o2,o3,-,-⟩:=zb3 t1;have hk:1≤k∧k≤1000:=by simpa using t2
 have es:zam R C H B P k=okVc R (C+k) (H+1) B P:=by unfold zam; rw [t1,t2]; rfl
 rw [es];clear es;cases t3:okVc R (C+k) (H+1) B P
 ·rw [if_neg (by simp)];have T1:=hide t1;have T2:=hide t2;have T3:=hide t3;clear t1 t2 t3;go_enter Try.func131,Try.ntmps131;(go_wp2_with fail);refine (zac R C H B P _).mono ?_;rintro e w1 ⟨rfl,hb1⟩;rw [T1.out];have q3:=zc (zy w _ _ _) hb1;obtain ⟨k0,k1,k2⟩:=zV hb1;obtain ⟨⟨x0,x1,x2,x3,x4⟩,f0,f1,f2,f3,f4⟩:=zt k0;obtain ⟨⟨y0,y1,y2,y3,y4⟩,g0,g1,g2,g3,g4⟩:=zt k1;have HB:=hide q3;have K1:=hide k1;have K2:=hide k2;have K0:=hide k0;clear hb1 k0 k1 k2 q3;(go_wp2_with fail);refine (zA k 1 1000 _).mono ?_;rintro e w2 ⟨rfl,rfl⟩;rw [T2.out];obtain ⟨⟨z0,z1,z2,z3,z4⟩,-⟩:=zt K2.out;(go_wp2_with fail);refine (zac R (C+k) (H+1) B P _).mono ?_;rintro e w3 ⟨rfl,hb3⟩;rw [T3.out];clear x0 x1 x2 x3 x4 f0 f1 f2 f3 f4 y0 y1 y2 y3 y4 g0 g1 g2 g3 g4 z0 z1 z2 z3 z4;obtain ⟨⟨x0,x1,x2,x3,x4⟩,f0,f1,f2,f3,f4⟩:=zt (za K0.out hb3);obtain ⟨⟨y0,y1,y2,y3,y4⟩,g0,g1,g2,g3,g4⟩:=zt (za K1.out hb3);have HB:=hide (zc HB.out hb3);clear hb3;go_wp2;exact bodyPost_ret (v:=.tuple #[.agg #[.int .i64 R,.int .i64 C,.int .i64 H,.int .i64 B,.int .i64 P],.bool false]) (by simp [results,Try.results131,go_sem, *]) rfl ⟨rfl,zB HB.out (by omega) _ _ _ _ _⟩
 ·rw [if_pos rfl];have T1:=hide t1;have T2:=hide t2;have T3:=hide t3;clear t1 t2 t3;go_enter Try.func131,Try.ntmps131;(go_wp2_with fail);refine (zac R C H B P _).mono ?_;rintro e w1 ⟨rfl,hb1⟩;rw [T1.out];have q3:=zc (zy w _ _ _) hb1;obtain ⟨k0,k1,k2⟩:=zV hb1;obtain ⟨⟨x0,x1,x2,x3,x4⟩,f0,f1,f2,f3,f4⟩:=zt k0;obtain ⟨⟨y0,y1,y2,y3,y4⟩,g0,g1,g2,g3,g4⟩:=zt k1;have HB:=hide q3;have K1:=hide k1;have K2:=hide k2;have K0:=hide k0;clear hb1 k0 k1 k2 q3;(go_wp2_with fail);refine (zA k 1 1000 _).mono ?_;rintro e w2 ⟨rfl,rfl⟩;rw [T2.out];obtain ⟨⟨z0,z1,z2,z3,z4⟩,-⟩:=zt K2.out;(go_wp2_with fail);refine (zac R (C+k) (H+1) B P _).mono ?_;rintro e w3 ⟨rfl,hb3⟩;rw [T3.out];clear x0 x1 x2 x3 x4 f0 f1 f2 f3 f4 y0 y1 y2 y3 y4 g0 g1 g2 g3 g4 z0 z1 z2 z3 z4;obtain ⟨⟨x0,x1,x2,x3,x4⟩,f0,f1,f2,f3,f4⟩:=zt (za K2.out hb3);obtain ⟨⟨y0,y1,y2,y3,y4⟩,g0,g1,g2,g3,g4⟩:=zt (za K1.out hb3);have HB:=hide (zc HB.out hb3);clear hb3;go_wp2;exact bodyPost_ret (v:=.tuple #[.agg #[.int .i64 R,.int .i64 (C+k),.int .i64 (H+1),.int .i64 B,.int .i64 P],.bool true]) (by simp [results,Try.results131,go_sem, *]) rfl ⟨rfl,zB HB.out (by omega) _ _ _ _ _⟩

def overB (x:PT):Bool:=x.up && (x.has && zbj x.v x.k)
def overV (x:PT):VD:=if (x.up && x.has)=true then (if zbj x.v x.k=true then stepV x.v x.k else x.v) else ⟨0,0,0,0,0⟩

theorem zdW {x:PT} (h:overB x=true):overV x=stepV x.v x.k:=by
 unfold overB at h;simp only [Bool.and_eq_true] at h;unfold overV;rw [h.1,h.2.1,h.2.2]
 rfl

theorem zaO (id:Int) (x:PT):offers id x=(overB x && decide ((overV x).r < id)):=by
 cases h:overB x
 ·unfold offers overB at *;cases hu:x.up <;> cases hh:x.has <;> cases hs:zbj x.v x.k <;> rw [hu,hh,hs] at h <;> simp_all
 ·rw [zdW h];unfold overB at h;simp only [Bool.and_eq_true] at h;unfold offers;rw [h.1,h.2.1,h.2.2]
  rfl

theorem zc1 (x:PT) (w:World) :
  Calls Try.prog 120 #[.agg #[.bool x.up,.int .i64 x.k,.bool x.has,.int .i64 x.v.r,.int .i64 x.v.c,.int .i64 x.v.h,.int .i64 x.v.b,.int .i64 x.v.p]] w fun e w'=>e=.returned (.tuple #[.agg #[.int .i64 (overV x).r,.int .i64 (overV x).c,.int .i64 (overV x).h,.int .i64 (overV x).b,.int .i64 (overV x).p],.bool (overB x)])∧Below w.heap.size w w':=by
 by_cases hno:(x.up && x.has)=false
 ·rw [show overV x=⟨0,0,0,0,0⟩ by unfold overV; rw [hno]; rfl,show overB x=false by unfold overB; cases hu:x.up <;> cases hh:x.has <;> simp_all]
  simp only
  cases hu:x.up
  ·clear hno;go_enter Try.func120,Try.ntmps120;go_wp2;exact bodyPost_ret (v:=.tuple #[.agg #[.int .i64 0,.int .i64 0,.int .i64 0,.int .i64 0,.int .i64 0],.bool false]) (by simp [results,Try.results120,go_sem, *]) rfl ⟨rfl,zF _ _ _⟩
  ·have hh:x.has=false:=by rw [hu] at hno; simpa using hno
   rw [hh];clear hno;go_enter Try.func120,Try.ntmps120;go_wp2;exact bodyPost_ret (v:=.tuple #[.agg #[.int .i64 0,.int .i64 0,.int .i64 0,.int .i64 0,.int .i64 0],.bool false]) (by simp [results,Try.results120,go_sem, *]) rfl ⟨rfl,zF _ _ _⟩
 generalize hw1:w.alloc (.cells #[.bool x.up,.int .i64 x.k,.bool x.has,.int .i64 x.v.r,.int .i64 x.v.c,.int .i64 x.v.h,.int .i64 x.v.b,.int .i64 x.v.p] 91)=w1;generalize hw2:w1.alloc (.cells #[.int .i64 0,.int .i64 0,.int .i64 0,.int .i64 0,.int .i64 0] 89)=w2;have q1:=zb hw1;have q2:=zb hw2;have k1:=zk hw1;have k2:=zk hw2;have hs1:w1.heap.size=w.heap.size+1:=by rw [← hw1]; simp
 rw [hs1] at k2;obtain ⟨c0,c1,c2,c3,c4,c5,c6,c7⟩:=zaP (za k1 q2);have HQ:=hide (zc q1 q2);have K2:=hide k2;have hyes:(x.up && x.has)=true:=by simpa using hno
 have hu:x.up=true:=by simp only [Bool.and_eq_true] at hyes; exact hyes.1
 have hh:x.has=true:=by simp only [Bool.and_eq_true] at hyes; exact hyes.2
 rw [hu] at c0;rw [hh] at c2;generalize hq:overB x=q;generalize hu':overV x=u;have HST:Hid (zam x.v.r x.v.c x.v.h x.v.b x.v.p x.k=q):=hide (by rw [← hq]; unfold overB zbj; rw [hu,hh]; rfl);have HUV:Hid ((if q=true then Value.agg #[.int .i64 x.v.r,.int .i64 (x.v.c+x.k),.int .i64 (x.v.h+1),.int .i64 x.v.b,.int .i64 x.v.p] else Value.agg #[.int .i64 x.v.r,.int .i64 x.v.c,.int .i64 x.v.h,.int .i64 x.v.b,.int .i64 x.v.p])=.agg #[.int .i64 u.r,.int .i64 u.c,.int .i64 u.h,.int .i64 u.b,.int .i64 u.p]):=hide (by
  rw [← hu'];unfold overV;rw [if_pos hyes];unfold zbj;rw [HST.out];cases q <;> rfl)
 clear hq hu' hu hh hyes hno q1 q2 k1 k2;go_enter Try.func120,Try.ntmps120;go_wp2_with fail
 refine (zbz x.v.r x.v.c x.v.h x.v.b x.v.p x.k _).mono ?_;rintro e w3 ⟨rfl,hb3⟩;rw [HST.out,HUV.out];obtain ⟨⟨r0,r1,r2,r3,r4⟩,z0,z1,z2,z3,z4⟩:=zt (za K2.out hb3);have HS:=hide (zB (zc HQ.out hb3) (g:=w.heap.size+1) (by omega) (.int .i64 u.r) (.int .i64 u.c) (.int .i64 u.h) (.int .i64 u.b) (.int .i64 u.p));clear hb3 c0 c1 c2 c3 c4 c5 c6 c7;go_wp2;exact bodyPost_ret (v:=.tuple #[.agg #[.int .i64 u.r,.int .i64 u.c,.int .i64 u.h,.int .i64 u.b,.int .i64 u.p],.bool q]) (by simp [results,Try.results120,go_sem, *]) rfl ⟨rfl,HS.out⟩

def cmpI (a b:Int):Int:=if a < b then -1 else if b < a then 1 else 0

theorem zaG (a:Int) (w:World):Calls Try.prog 129 #[.int .i64 a] w fun e w'=>e=.returned (.bool false)∧w'=w:=by
 go_enter Try.func129,Try.ntmps129;go_wp2;go_ret;exact ⟨zN (by simp),rfl⟩

theorem zcH (a b:Int) (w:World):Calls Try.prog 123 #[.int .i64 a,.int .i64 b] w fun e w'=>e=.returned (.int .i64 (cmpI a b))∧w'=w:=by
 by_cases h1:a < b
 ·rw [show cmpI a b = -1 from if_pos h1];go_enter Try.func123,Try.ntmps123;(go_wp2_with fail);refine (zaG a _).mono ?_;rintro e w1 ⟨rfl,rfl⟩;(go_wp2_with fail);refine (zaG b _).mono ?_;rintro e w2 ⟨rfl,rfl⟩;go_wp2;go_ret;exact ⟨rfl,rfl⟩
 by_cases h2:b < a
 ·rw [show cmpI a b=1 by unfold cmpI; rw [if_neg h1,if_pos h2]];go_enter Try.func123,Try.ntmps123;(go_wp2_with fail);refine (zaG a _).mono ?_;rintro e w1 ⟨rfl,rfl⟩;(go_wp2_with fail);refine (zaG b _).mono ?_;rintro e w2 ⟨rfl,rfl⟩;go_wp2;go_ret;exact ⟨rfl,rfl⟩
 ·rw [show cmpI a b=0 by unfold cmpI; rw [if_neg h1,if_neg h2]];go_enter Try.func123,Try.ntmps123;(go_wp2_with fail);refine (zaG a _).mono ?_;rintro e w1 ⟨rfl,rfl⟩;(go_wp2_with fail);refine (zaG b _).mono ?_;rintro e w2 ⟨rfl,rfl⟩;go_wp2;go_ret;exact ⟨rfl,rfl⟩

def or4 (a b c d:Int):Int:=if ¬a=0 then a else if ¬b=0 then b else if ¬c=0 then c else d

theorem zfs (a b c d:Int) (g:Nat) (w:World) (hb:w.heap[g]?=some (.cells #[.int .i64 a,.int .i64 b,.int .i64 c,.int .i64 d] 3)) :
  Calls Try.prog 122 #[.slice (some ⟨g,0,none⟩) 4 4] w fun e w'=>e=.returned (.int .i64 (or4 a b c d))∧w'=w:=by
 obtain ⟨⟨x0,x1,x2,x3⟩,-⟩:=zfz hb;generalize ho:or4 a b c d=o;have HO:=hide ho;clear ho hb;go_enter Try.func122,Try.ntmps122;go_wp2
 go_loop [8] (fun i=>∃k:Nat,k≤4∧i=.int .i64 k∧(1≤k→a=0)∧(2≤k→b=0)∧(3≤k→c=0)∧(4≤k→d=0)) (fun i=>4 - (intOf i).toNat)
 case atStart=>exact ⟨0,Nat.zero_le _,rfl,by omega,by omega,by omega,by omega⟩
 case round =>
  obtain ⟨k,hk,hi,e1,e2,e3,e4⟩:=hrel;rcases (show k=0∨k=1∨k=2∨k=3∨k=4 by omega) with rfl | rfl | rfl | rfl | rfl
  ·have hi:_=Value.int .i64 0:=hi;subst hi;clear e1 e2 e3 e4;by_cases h0:a=0
   ·have t0:(a != 0)=false:=by simp [h0]
    have H0:=hide h0;clear h0;go_wp2
    go_round
    case rel=>exact ⟨1,by omega,by go_num,fun _=>H0.out,by omega,by omega,by omega⟩
    case measure=>simp [intOf]
   ·have t0:(a != 0)=true:=by simp [h0]
    have H0:=hide h0;clear h0;go_wp2;go_ret
    have:=HO.out
    unfold or4 at this;rw [if_pos H0.out] at this;exact ⟨(by rw [← this]; rfl),rfl⟩
  ·have hi:_=Value.int .i64 1:=hi;subst hi;have h1:=hide (e1 (by omega));clear e1 e2 e3 e4;by_cases h0:b=0
   ·have t0:(b != 0)=false:=by simp [h0]
    have H0:=hide h0;clear h0;go_wp2
    go_round
    case rel=>exact ⟨2,by omega,by go_num,fun _=>h1.out,fun _=>H0.out,by omega,by omega⟩
    case measure=>simp [intOf]
   ·have t0:(b != 0)=true:=by simp [h0]
    have H0:=hide h0;clear h0;go_wp2;go_ret
    have:=HO.out
    unfold or4 at this;rw [if_neg (fun h=>h h1.out),if_pos H0.out] at this;exact ⟨(by rw [← this]; rfl),rfl⟩
  ·have hi:_=Value.int .i64 2:=hi;subst hi;have h1:=hide (e1 (by omega));have h2:=hide (e2 (by omega));clear e1 e2 e3 e4;by_cases h0:c=0
   ·have t0:(c != 0)=false:=by simp [h0]
    have H0:=hide h0;clear h0;go_wp2
    go_round
    case rel=>exact ⟨3,by omega,by go_num,fun _=>h1.out,fun _=>h2.out,fun _=>H0.out,by omega⟩
    case measure=>simp [intOf]
   ·have t0:(c != 0)=true:=by simp [h0]
    have H0:=hide h0;clear h0;go_wp2;go_ret
    have:=HO.out
    unfold or4 at this;rw [if_neg (fun h=>h h1.out),if_neg (fun h=>h h2.out),if_pos H0.out] at this;exact ⟨(by rw [← this]; rfl),rfl⟩
  ·have hi:_=Value.int .i64 3:=hi;subst hi;have h1:=hide (e1 (by omega));have h2:=hide (e2 (by omega));have h3:=hide (e3 (by omega));clear e1 e2 e3 e4;by_cases h0:d=0
   ·have t0:(d != 0)=false:=by simp [h0]
    have H0:=hide h0;clear h0;go_wp2
    go_round
    case rel=>exact ⟨4,by omega,by go_num,fun _=>h1.out,fun _=>h2.out,fun _=>h3.out,fun _=>H0.out⟩
    case measure=>simp [intOf]
   ·have t0:(d != 0)=true:=by simp [h0]
    clear h0;go_wp2;go_ret
    have:=HO.out
    unfold or4 at this;rw [if_neg (fun h=>h h1.out),if_neg (fun h=>h h2.out),if_neg (fun h=>h h3.out)] at this;exact ⟨(by rw [← this]; rfl),rfl⟩
  ·have hi:_=Value.int .i64 4:=hi;subst hi;have h1:=hide (e1 (by omega));have h2:=hide (e2 (by omega));have h3:=hide (e3 (by omega));have h4:=hide (e4 (by omega));clear e1 e2 e3 e4;go_wp2;go_ret
   have:=HO.out
   unfold or4 at this;rw [if_neg (fun h=>h h1.out),if_neg (fun h=>h h2.out),if_neg (fun h=>h h3.out),h4.out] at this;exact ⟨(by rw [← this]; rfl),rfl⟩

theorem zff (R C B P R' C' B' P':Int):decide (or4 (cmpI R R') (cmpI C C') (cmpI B B') (cmpI P P') < 0)=zY R C B P R' C' B' P':=by
 have z:∀a b:Int,(cmpI a b=0↔a=b)∧(cmpI a b < 0↔a < b):=by
  intro a b;unfold cmpI
  constructor <;> split <;> (try split) <;> omega
 obtain ⟨a1,a2⟩:=z R R';obtain ⟨b1,b2⟩:=z C C';obtain ⟨c1,c2⟩:=z B B';obtain ⟨d1,d2⟩:=z P P';unfold or4 zY;generalize cmpI R R'=x at *;generalize cmpI C C'=y at *;generalize cmpI B B'=u at *;generalize cmpI P P'=v at *;by_cases h1:R=R'
 ·have e1:x=0:=a1.2 h1;have t1:(R != R')=false:=by simp [h1]
  rw [if_neg (by simp [e1]:¬¬x=0),t1,if_neg Bool.false_ne_true];by_cases h2:C=C'
  ·have e2:y=0:=b1.2 h2;have t2:(C != C')=false:=by simp [h2]
   rw [if_neg (by simp [e2]:¬¬y=0),t2,if_neg Bool.false_ne_true];by_cases h3:B=B'
   ·have e3:u=0:=c1.2 h3;have t3:(B != B')=false:=by simp [h3]
    rw [if_neg (by simp [e3]:¬¬u=0),t3,if_neg Bool.false_ne_true];exact decide_eq_decide.2 d2
   ·have e3:¬u=0:=fun h=>h3 (c1.1 h)
    have t3:(B != B')=true:=by simp [h3]
    rw [if_pos e3,t3,if_pos rfl];exact decide_eq_decide.2 c2
  ·have e2:¬y=0:=fun h=>h2 (b1.1 h)
   have t2:(C != C')=true:=by simp [h2]
   rw [if_pos e2,t2,if_pos rfl];exact decide_eq_decide.2 b2
 ·have e1:¬x=0:=fun h=>h1 (a1.1 h)
  have t1:(R != R')=true:=by simp [h1]
  rw [if_pos e1,t1,if_pos rfl];exact decide_eq_decide.2 a2

theorem zaj (R C H B P R' C' H' B' P':Int) (w:World) :
  Calls Try.prog 106 #[.agg #[.int .i64 R,.int .i64 C,.int .i64 H,.int .i64 B,.int .i64 P],.agg #[.int .i64 R',.int .i64 C',.int .i64 H',.int .i64 B',.int .i64 P']] w fun e w'=>e=.returned (.bool (zY R C B P R' C' B' P'))∧Below w.heap.size w w':=by
 have q2:=zF w (.cells #[.int .i64 R,.int .i64 C,.int .i64 H,.int .i64 B,.int .i64 P] 89) (.cells #[.int .i64 R',.int .i64 C',.int .i64 H',.int .i64 B',.int .i64 P'] 89);obtain ⟨k0,k1⟩:=zaM (Below.refl _ ((w.alloc (.cells #[.int .i64 R,.int .i64 C,.int .i64 H,.int .i64 B,.int .i64 P] 89)).alloc (.cells #[.int .i64 R',.int .i64 C',.int .i64 H',.int .i64 B',.int .i64 P'] 89)));have HL:=hide (zff R C B P R' C' B' P');generalize zY R C B P R' C' B' P'=L at *;go_enter Try.func106,Try.ntmps106;go_wp2_with fail
 generalize ((w.alloc (.cells #[.int .i64 R,.int .i64 C,.int .i64 H,.int .i64 B,.int .i64 P] 89)).alloc (.cells #[.int .i64 R',.int .i64 C',.int .i64 H',.int .i64 B',.int .i64 P'] 89))=wb at *;obtain ⟨⟨x0,x1,x2,x3,x4⟩,-⟩:=zt k0;obtain ⟨⟨y0,y1,y2,y3,y4⟩,-⟩:=zt k1;clear k0 k1
 go_region_held3 (fun W=>(W.cell? ⟨w.heap.size,0,none⟩=some (.int .i64 R)∧W.cell? ⟨w.heap.size,1,none⟩=some (.int .i64 C)∧W.cell? ⟨w.heap.size,3,none⟩=some (.int .i64 B)∧W.cell? ⟨w.heap.size,4,none⟩=some (.int .i64 P))∧(W.cell? ⟨w.heap.size+1,0,none⟩=some (.int .i64 R')∧W.cell? ⟨w.heap.size+1,1,none⟩=some (.int .i64 C')∧W.cell? ⟨w.heap.size+1,3,none⟩=some (.int .i64 B')∧W.cell? ⟨w.heap.size+1,4,none⟩=some (.int .i64 P'))) (first | assumption | go_keep) (first
  | (go_at_call 123; refine (zcH _ _ _).mono ?_; rintro e w1 ⟨rfl,rfl⟩)
  | (go_at_call 122; refine (zfs (cmpI R R') (cmpI C C') (cmpI B B') (cmpI P P') wb.heap.size _ (zah (zL wb _))).mono ?_; rintro e w2 ⟨rfl,rfl⟩))
 go_wp2;go_ret;exact ⟨zN HL.out,zC (zci q2 _)⟩

def heldV (id:Int):Option (VD × Nat)→VD
 | none=>⟨id,0,0,0,0⟩
 | some (f,_)=>f

structure BiSt (w W:World) (v:VD):Prop where
 res:W.heap[w.heap.size]?=some (.cells #[.int .i64 0,.int .i64 0,.int .i64 0,.int .i64 0,.int .i64 0] 89)
 best:W.heap[w.heap.size+1]?=some (.cells #[.int .i64 v.r,.int .i64 v.c,.int .i64 v.h,.int .i64 v.b,.int .i64 v.p] 89)
 below:Below w.heap.size w W

theorem BiSt.later {w W W':World} {v:VD} (h:BiSt w W v) (hb:Below W.heap.size W W'):BiSt w W' v :=
 ⟨za h.res hb,za h.best hb,zc h.below hb⟩

theorem BiSt.set {w W:World} {v:VD} (h:BiSt w W v) (u:VD):BiSt w (((((W.setCell ⟨w.heap.size+1,0,none⟩ (.int .i64 u.r)).setCell ⟨w.heap.size+1,1,none⟩ (.int .i64 u.c)).setCell ⟨w.heap.size+1,2,none⟩ (.int .i64 u.h)).setCell ⟨w.heap.size+1,3,none⟩ (.int .i64 u.b)).setCell ⟨w.heap.size+1,4,none⟩ (.int .i64 u.p)) u :=
 ⟨zay h.res (by omega) _ _ _ _ _,za2 h.best _ _ _ _ _,zB h.below (by omega) _ _ _ _ _⟩

theorem zeC {id:Int} {u:VD} (h:u.r < id):zY u.r u.c u.b u.p id 0 0 0=true:=by
 unfold zY
 have:(u.r != id)=true:=by simp; omega
 rw [this]
 simp [h]

theorem zd7 {id:Int} {s:Option (VD × Nat)} {i:Nat} {x:PT} (ho:offers id x=true) (hs:∀f j,s=some (f,j)→f.r < id) :
  zau id s i x=if lessV (overV x) (heldV id s)=true then some (overV x,i) else s:=by
 have ho':=ho;rw [zaO] at ho';simp only [Bool.and_eq_true,decide_eq_true_eq] at ho';have e:=zdW ho'.1;unfold zau;rw [if_pos ho];cases s with
 | none =>
  rw [if_pos]
  ·rw [e]
  ·exact zeC ho'.2
 | some y =>
  obtain ⟨f,j⟩:=y;simp only [heldV];rw [e]
  rfl

theorem zax (id:Int) (a:Option Addr) (n c:Nat) (l:List PT) (w:World) (h:GRow ptF w a n c l) :
  Calls Try.prog 101 #[.int .i64 id,.slice a n c] w fun e w'=>e=.returned (.tuple #[.agg #[.int .i64 (bestV id (zw id l)).r,.int .i64 (bestV id (zw id l)).c,.int .i64 (bestV id (zw id l)).h,.int .i64 (bestV id (zw id l)).b,.int .i64 (bestV id (zw id l)).p],.int .i64 (bestP (zw id l))])∧Below w.heap.size w w':=by
 have hle:=h.le;have htop:=h.top;unfold maxLen at htop;have hsz:=hide h.size;go_enter Try.func101,Try.ntmps101;go_wp2_with fail
 generalize hw3:(w.alloc (Obj.cells #[.int .i64 0,.int .i64 0,.int .i64 0,.int .i64 0,.int .i64 0] 89)).alloc (Obj.cells #[.int .i64 id,.int .i64 0,.int .i64 0,.int .i64 0,.int .i64 0] 89)=w3;have st3:BiSt w w3 (heldV id none):=by
  subst hw3;obtain ⟨k0,k1⟩:=zaM (Below.refl _ ((w.alloc (Obj.cells #[.int .i64 0,.int .i64 0,.int .i64 0,.int .i64 0,.int .i64 0] 89)).alloc (Obj.cells #[.int .i64 id,.int .i64 0,.int .i64 0,.int .i64 0,.int .i64 0] 89)));exact ⟨k0,k1,zF _ _ _⟩
 clear hw3
 go_loopw [7,16] (fun p i wr=>∃(k:Nat) (s:Option (VD × Nat)),k≤n∧i=.int .i64 k∧p=.int .i64 (bestP s)∧(zas id l k=s∧∀f j,s=some (f,j)→f.r < id)∧BiSt w wr (heldV id s)) (fun _ i _=>n - (intOf i).toNat)
 case atStart=>exact ⟨0,none,Nat.zero_le _,rfl,rfl,⟨rfl,by intro f j e; cases e⟩,st3⟩
 case round =>
  obtain ⟨k,s,hk,rfl,rfl,⟨hs,hrt⟩,st⟩:=hrel;obtain ⟨hv,hhv⟩:∃y,y=heldV id s:=⟨_,rfl⟩;have BACK:Hid (∀W,BiSt w W hv→BiSt w W (heldV id s)):=hide (by subst hhv; exact fun W h=>h);rw [← hhv] at st;have HHV:=hide hhv;have HRT:=hide hrt;clear hhv hrt;by_cases hlt:k < n
  ·obtain ⟨x,b,off,hx,rfl,c0,c1,c2,c3,c4,c5,c6,c7⟩:=pt_at (h.below st.below) k hlt;have hnx:=zbu (id:=id) hx;rw [hs] at hnx;have i1:(0:Int)≤(k:Int):=by omega
   have i2:(k:Int) < (n:Int):=by omega
   have NX:=hide hnx;have ST:=hide st;clear hs hnx hx st;(go_wp2_with fail);refine (zc1 x _).mono ?_;rintro e w4 ⟨rfl,hb4⟩;have st4:=(ST.out.later (zv _ _)).later hb4;clear hb4 c0 c1 c2 c3 c4 c5 c6 c7;generalize hu:overV x=u;generalize hq:overB x=q;have HU:=hide hu;have HQ:=hide hq;clear hu hq;(go_upto_region 6 with fail);generalize hw5:w4.alloc (Obj.cells #[.int .i64 u.r,.int .i64 u.c,.int .i64 u.h,.int .i64 u.b,.int .i64 u.p] 89)=w5;have st5:BiSt w w5 hv:=by rw [← hw5]; exact st4.later (zv _ _)
   have kX:=zk hw5;have hl4:=(Array.getElem?_eq_some_iff.1 st4.best).1;have ne1:¬w4.heap.size=w.heap.size+1:=by omega
   have ne2:¬w.heap.size+1=w4.heap.size:=by omega
   have HL4:=hide hl4;obtain ⟨⟨x0,x1,x2,x3,x4⟩,-⟩:=zt kX;obtain ⟨⟨z0,z1,z2,z3,z4⟩,v0,v1,v2,v3,v4⟩:=zt st5.best;clear st4 hl4 hw5;have ST5:=hide st5;have KX:=hide kX;clear kX st5;cases q
   ·have HE:Hid (zas id l (k+1)=s):=hide (NX.out.trans (zao (by rw [zaO,HQ.out]; rfl)));clear v0 v1 v2 v3 v4;go_wp2
    go_roundw
    case rel=>exact ⟨k+1,s,by omega,by go_num,rfl,⟨HE.out,HRT.out⟩,BACK.out _ ST5.out⟩
    case measure=>simp [intOf]; omega
   cases hlr:decide (u.r < id)
   ·have HE:Hid (zas id l (k+1)=s):=hide (NX.out.trans (zao (by rw [zaO,HQ.out,HU.out,hlr]; rfl)));have hlr:¬u.r < id:=by simpa using hlr
    clear v0 v1 v2 v3 v4;go_wp2
    go_roundw
    case rel=>exact ⟨k+1,s,by omega,by go_num,rfl,⟨HE.out,HRT.out⟩,BACK.out _ ST5.out⟩
    case measure=>simp [intOf]; omega
   have HO:Hid (offers id x=true):=hide (by rw [zaO,HQ.out,HU.out,hlr]; rfl);have hlr:u.r < id:=by simpa using hlr
   have HLR:=hide hlr;have HSTEP:Hid (zas id l (k+1)=if lessV u hv=true then some (u,k) else s):=hide (by rw [NX.out,zd7 HO.out HRT.out,HU.out,HHV.out]);cases hl:lessV u hv
   ·have HE:Hid (zas id l (k+1)=s):=hide (by rw [HSTEP.out,hl]; rfl);have HL:Hid (zY u.r u.c u.b u.p hv.r hv.c hv.b hv.p=false):=hide hl;clear hl v0 v1 v2 v3 v4;(go_wp2_with fail);refine (zaj u.r u.c u.h u.b u.p hv.r hv.c hv.h hv.b hv.p _).mono ?_;rintro e wl ⟨rfl,hbl⟩;rw [HL.out];have SL:=hide (ST5.out.later hbl);clear hbl x0 x1 x2 x3 x4 z0 z1 z2 z3 z4;go_wp2
    go_roundw
    case rel=>exact ⟨k+1,s,by omega,by go_num,rfl,⟨HE.out,HRT.out⟩,BACK.out _ SL.out⟩
    case measure=>simp [intOf]; omega
   ·have HE:Hid (zas id l (k+1)=some (u,k)):=hide (by rw [HSTEP.out,hl]; rfl);have HL:Hid (zY u.r u.c u.b u.p hv.r hv.c hv.b hv.p=true):=hide hl;clear hl v0 v1 v2 v3 v4;(go_wp2_with fail);refine (zaj u.r u.c u.h u.b u.p hv.r hv.c hv.h hv.b hv.p _).mono ?_;rintro e wl ⟨rfl,hbl⟩;rw [HL.out];have stl:=ST5.out.later hbl;have kX:=za KX.out hbl;clear hbl x0 x1 x2 x3 x4 z0 z1 z2 z3 z4;obtain ⟨⟨x0,x1,x2,x3,x4⟩,-⟩:=zt kX;obtain ⟨⟨z0,z1,z2,z3,z4⟩,v0,v1,v2,v3,v4⟩:=zt stl.best;have HSET:Hid (BiSt w _ u):=hide (stl.set u);clear stl kX;go_wp2
    go_roundw
    case rel=>exact ⟨k+1,some (u,k),by omega,by go_num,rfl,⟨HE.out,fun f j e=>by cases e; exact HLR.out⟩,HSET.out⟩
    case measure=>simp [intOf]; omega
  ·have hkn:k=n:=by omega
   subst hkn;have HB:Hid (zw id l=s):=hide (by unfold zw; rw [hsz.out]; exact hs);have HBV:Hid (bestV id s=⟨hv.r,hv.c,hv.h,id,0⟩):=hide (by rw [HHV.out]; cases s <;> rfl);obtain ⟨⟨x0,x1,x2,x3,x4⟩,y0,y1,y2,y3,y4⟩:=zt st.best;obtain ⟨⟨r0,r1,r2,r3,r4⟩,z0,z1,z2,z3,z4⟩:=zt st.res;have ne:¬w.heap.size=w.heap.size+1:=by omega
   have hb:=zB (ze (ze st.below (g:=w.heap.size+1) (by omega) 3 (.int .i64 id)) (g:=w.heap.size+1) (by omega) 4 (.int .i64 0)) (Nat.le_refl w.heap.size) (.int .i64 hv.r) (.int .i64 hv.c) (.int .i64 hv.h) (.int .i64 id) (.int .i64 0);clear hs st;go_wp2;exact bodyPost_ret (v:=.tuple #[.agg #[.int .i64 hv.r,.int .i64 hv.c,.int .i64 hv.h,.int .i64 id,.int .i64 0],.int .i64 (bestP s)]) (by simp [results,Try.results101,go_sem, *]) rfl ⟨(by rw [HB.out,HBV.out]),hb⟩

abbrev q51:Oper:=⟨some 32,.move (.tmp 1),92,"l10_role.go:54",#[],none⟩
abbrev q52:Oper:=⟨some 33,.move (.tmp 2),3,"l10_role.go:54",#[],none⟩
abbrev q53:Oper:=⟨some 34,.indexAddr 92 (.tmp 32) (.tmp 33),0,"l10_role.go:54",#[⟨0,.data⟩,⟨1,.data⟩],none⟩
abbrev q54:Oper:=⟨some 35,.fieldAddr 91 (.tmp 34) 2,0,"l10_role.go:54",#[⟨2,.data⟩],none⟩
abbrev q55:Oper:=⟨some 36,.load 4 (.tmp 35),4,"l10_role.go:54",#[⟨3,.data⟩],none⟩
abbrev q56:Oper:=⟨some 37,.unOp .not 4 (.tmp 36),4,"l10_role.go:54",#[⟨4,.data⟩],none⟩
abbrev q57:Oper:=⟨some 38,.move (.tmp 37),4,"l10_role.go:54",#[⟨5,.data⟩],none⟩
abbrev q58:Oper:=⟨some 39,.move (.tmp 0),3,"l10_role.go:54",#[⟨6,.guard⟩],some (6,false)⟩
abbrev q59:Oper:=⟨some 40,.move (.tmp 1),92,"l10_role.go:54",#[⟨6,.guard⟩],some (6,false)⟩
abbrev q60:Oper:=⟨some 41,.move (.tmp 2),3,"l10_role.go:54",#[⟨6,.guard⟩],some (6,false)⟩
abbrev q61:Oper:=⟨some 42,.call ⟨.value (.func 84),#[.tmp 39,.tmp 40,.tmp 41],#[3,92,3]⟩,89,"l10_role.go:54",#[⟨7,.data⟩,⟨8,.data⟩,⟨9,.data⟩,⟨6,.chain⟩,⟨6,.guard⟩],some (6,false)⟩
abbrev q62:Oper:=⟨some 43,.move (.tmp 1),92,"l10_role.go:54",#[⟨6,.guard⟩],some (6,false)⟩
abbrev q63:Oper:=⟨some 44,.move (.tmp 2),3,"l10_role.go:54",#[⟨6,.guard⟩],some (6,false)⟩
abbrev q64:Oper:=⟨some 45,.indexAddr 92 (.tmp 43) (.tmp 44),0,"l10_role.go:54",#[⟨11,.data⟩,⟨12,.data⟩,⟨6,.guard⟩],some (6,false)⟩
abbrev q65:Oper:=⟨some 46,.fieldAddr 91 (.tmp 45) 3,0,"l10_role.go:54",#[⟨13,.data⟩,⟨6,.guard⟩],some (6,false)⟩
abbrev q66:Oper:=⟨some 47,.load 89 (.tmp 46),89,"l10_role.go:54",#[⟨14,.data⟩,⟨6,.guard⟩],some (6,false)⟩
abbrev q67:Oper:=⟨some 48,.call ⟨.value (.func 106),#[.tmp 42,.tmp 47],#[89,89]⟩,4,"l10_role.go:54",#[⟨10,.data⟩,⟨15,.data⟩,⟨10,.chain⟩,⟨6,.guard⟩],some (6,false)⟩
abbrev q68:Oper:=⟨some 49,.pick (.tmp 38) (.const (.bool true)) (.tmp 48),4,"l10_role.go:54",#[⟨6,.data⟩,⟨16,.data⟩],none⟩

theorem zaD (id:Int) (a:Option Addr) (n c:Nat) (l:List PT) (port:Int) (w:World) (h:GRow ptF w a n c l) :
  Calls Try.prog 84 #[.int .i64 id,.slice a n c,.int .i64 port] w fun e w'=>e=.returned (.agg #[.int .i64 (sayV id l port).r,.int .i64 (sayV id l port).c,.int .i64 (sayV id l port).h,.int .i64 (sayV id l port).b,.int .i64 (sayV id l port).p])∧Below w.heap.size w w':=by
 generalize hw1:w.alloc (Obj.cells #[.int .i64 0,.int .i64 0,.int .i64 0,.int .i64 0,.int .i64 0] 89)=w1;have q1:=zb hw1;have k1:=zk hw1;have hsb:(sayV id l port)=⟨(bestV id (zw id l)).r,(bestV id (zw id l)).c,(bestV id (zw id l)).h,(bestV id (zw id l)).b,port⟩:=by
  unfold sayV;cases zw id l <;> rfl
 rw [hsb];clear hsb;go_enter Try.func84,Try.ntmps84;go_wp2_with fail
 refine (zax id a n c l _ (h.below q1)).mono ?_;rintro e w2 ⟨rfl,hb2⟩;generalize hv:bestV id (zw id l)=v;have HV:=hide hv;clear hv;generalize hw3:w2.alloc (Obj.cells #[.int .i64 v.r,.int .i64 v.c,.int .i64 v.h,.int .i64 v.b,.int .i64 v.p] 89)=w3;have hb3:=zb hw3;have k3:=zk hw3;have k1:=za (za k1 hb2) hb3;have lt1:=(Array.getElem?_eq_some_iff.1 (za (by rw [← hw1]; exact zL _ _:w1.heap[w.heap.size]?=some (.cells #[.int .i64 0,.int .i64 0,.int .i64 0,.int .i64 0,.int .i64 0] 89)) hb2)).1;have ne1:¬w2.heap.size=w.heap.size:=by omega
 have ne2:¬w.heap.size=w2.heap.size:=by omega
 have HB:=hide (zB (ze (zc (zc q1 hb2) hb3) (g:=w2.heap.size) (by omega) 4 (.int .i64 port)) (Nat.le_refl w.heap.size) (.int .i64 v.r) (.int .i64 v.c) (.int .i64 v.h) (.int .i64 v.b) (.int .i64 port));obtain ⟨⟨x0,x1,x2,x3,x4⟩,y0,y1,y2,y3,y4⟩:=zt k3;obtain ⟨⟨r0,r1,r2,r3,r4⟩,z0,z1,z2,z3,z4⟩:=zt k1;clear hb2 hb3 k1 k3 q1 lt1;go_wp2;exact bodyPost_ret (v:=.agg #[.int .i64 v.r,.int .i64 v.c,.int .i64 v.h,.int .i64 v.b,.int .i64 port]) (by simp [results,Try.results84,go_sem, *]) rfl ⟨(by rw [HV.out]),HB.out⟩

theorem zcP (id:Int) (a:Option Addr) (n c:Nat) (l:List PT) (port:Int) (w:World) (h:GRow ptF w a n c l) :
  Calls Try.prog 90 #[.int .i64 id,.slice a n c,.int .i64 port] w fun e w'=>e=.returned (.int .i64 (zO id l port))∧Below w.heap.size w w':=by
 have hle:=h.le;have htop:=h.top;unfold maxLen at htop;have hsz:=hide h.size;cases hin:(decide (0≤port) && decide (port≤(n:Int) - 1))
 ·have HIN:=hide hin;have HR:Hid (zO id l port=4):=hide (by unfold zO; rw [hsz.out,hin]; rfl);clear hin;go_enter Try.func90,Try.ntmps90;(go_wp2_with fail);refine (zA port 0 ((n:Int) - 1) _).mono ?_;rintro e w1 ⟨rfl,ew⟩;obtain rfl:=ew.symm;rw [HIN.out];go_wp2;go_ret;exact ⟨(by rw [HR.out]; rfl),Below.refl _ _⟩
 obtain ⟨k,rfl⟩:∃k:Nat,port=(k:Int):=⟨port.toNat,by simp at hin; omega⟩;have hlt:k < n:=by simp at hin; omega
 have HIN:=hide hin;have i1:(0:Int)≤(k:Int):=by omega
 have i2:(k:Int) < (n:Int):=by omega
 obtain ⟨x,b,off,hx,rfl,c0,c1,c2,c3,c4,c5,c6,c7⟩:=pt_at h k hlt;have hro:zO id l (k:Int)=zaW id l k x:=by
  unfold zO;rw [hsz.out,hin]
  simp [hx]
 have HRO:=hide hro;clear hin hro;cases hu:x.up
 ·rw [hu] at c0;have HR:Hid (zO id l (k:Int)=4):=hide (by rw [HRO.out]; unfold zaW; rw [if_pos hu]);clear hu c1 c2 c3 c4 c5 c6 c7 hx;go_enter Try.func90,Try.ntmps90;(go_wp2_with fail);refine (zA (k:Int) 0 ((n:Int) - 1) _).mono ?_;rintro e w1 ⟨rfl,ew⟩;obtain rfl:=ew.symm;rw [HIN.out];go_wp2;go_ret;exact ⟨(by rw [HR.out]; rfl),Below.refl _ _⟩
 rw [hu] at c0;have HU:=hide hu;clear hu;by_cases hp:bestP (zw id l)=(k:Int)
 ·have HR:Hid (zO id l (k:Int)=1):=hide (by rw [HRO.out]; unfold zaW; rw [if_neg (by rw [HU.out]; decide),if_pos hp]);have HP:=hide hp;clear c1 c2 c3 c4 c5 c6 c7 hx hp;go_enter Try.func90,Try.ntmps90;(go_wp2_with fail);refine (zA (k:Int) 0 ((n:Int) - 1) _).mono ?_;rintro e w1 ⟨rfl,ew⟩;obtain rfl:=ew.symm;rw [HIN.out];(go_wp2_with fail);refine (zax id (some ⟨b,off,none⟩) n c l _ h).mono ?_;rintro e w2 ⟨rfl,hb2⟩;rw [HP.out];have HB:=hide (zc hb2 (zv _ (Obj.cells #[.int .i64 (bestV id (zw id l)).r,.int .i64 (bestV id (zw id l)).c,.int .i64 (bestV id (zw id l)).h,.int .i64 (bestV id (zw id l)).b,.int .i64 (bestV id (zw id l)).p] 89)));clear hb2 c0;go_wp2;go_ret;exact ⟨(by rw [HR.out]; rfl),HB.out⟩
 go_enter Try.func90,Try.ntmps90;go_wp2_with fail
 refine (zA (k:Int) 0 ((n:Int) - 1) _).mono ?_;rintro e w1 ⟨rfl,ew⟩;obtain rfl:=ew.symm;rw [HIN.out];go_wp2_with fail
 refine (zax id (some ⟨b,off,none⟩) n c l _ h).mono ?_;rintro e w2 ⟨rfl,hb2⟩;generalize hw3:w2.alloc (Obj.cells #[.int .i64 (bestV id (zw id l)).r,.int .i64 (bestV id (zw id l)).c,.int .i64 (bestV id (zw id l)).h,.int .i64 (bestV id (zw id l)).b,.int .i64 (bestV id (zw id l)).p] 89)=w3;have HB:Hid (Below w.heap.size w w3):=hide (zc hb2 (by rw [← hw3]; exact zv _ _));clear hb2 c0 c1 c2 c3 c4 c5 c6 c7;obtain ⟨x',b',off',hx',ha',c0,c1,c2,c3,c4,c5,c6,c7⟩:=pt_at (h.below HB.out) k hlt;rw [hx] at hx';cases hx';cases ha';generalize hP:bestP (zw id l)=P at *;have hPne:((k:Int) == P)=false:=by simp; exact fun e=>hp e.symm
 have HX:=hide hx;have vv:Below w3.heap.size w3 w3.drew:=zC (Below.refl _ _);have HR0:Hid (zO id l (k:Int)=(if (!x.has || lessV (sayV id l (k:Int)) x.v)=true then 2 else 3)):=hide (by rw [HRO.out]; unfold zaW; rw [if_neg (by rw [HU.out]; decide),hP,if_neg hp]);clear c0 c1 hx hP;cases hh:x.has
 ·rw [hh] at c2;have HR:Hid (zO id l (k:Int)=2):=hide (by rw [HR0.out,hh]; rfl);have HSS:Hid (∀W',Below w3.heap.size w3 W'→W'.cell? ⟨b,off+k*8+2,none⟩=some (.bool false)∧W'.cell? ⟨b,off+k*8+3,none⟩=some (.int .i64 x.v.r)∧W'.cell? ⟨b,off+k*8+4,none⟩=some (.int .i64 x.v.c)∧W'.cell? ⟨b,off+k*8+5,none⟩=some (.int .i64 x.v.h)∧W'.cell? ⟨b,off+k*8+6,none⟩=some (.int .i64 x.v.b)∧W'.cell? ⟨b,off+k*8+7,none⟩=some (.int .i64 x.v.p)):=hide (fun W' hb=>⟨(hb.cell (zp c2)).trans c2,(hb.cell (zp c3)).trans c3,(hb.cell (zp c4)).trans c4,(hb.cell (zp c5)).trans c5,(hb.cell (zp c6)).trans c6,(hb.cell (zp c7)).trans c7⟩);clear c2 c3 c4 c5 c6 c7 hh;(go_wp2_with fail);refine wp_region_held_drew (S:=(fun W=>W.cell? ⟨b,off+k*8+2,none⟩=some (.bool false)∧W.cell? ⟨b,off+k*8+3,none⟩=some (.int .i64 x.v.r)∧W.cell? ⟨b,off+k*8+4,none⟩=some (.int .i64 x.v.c)∧W.cell? ⟨b,off+k*8+5,none⟩=some (.int .i64 x.v.h)∧W.cell? ⟨b,off+k*8+6,none⟩=some (.int .i64 x.v.b)∧W.cell? ⟨b,off+k*8+7,none⟩=some (.int .i64 x.v.p))) (by kernel_rfl) (HSS.out _ vv) (fun hHeld => ?_);refine kK 0 q51 ?_;refine kK 1 q52 ?_;refine kK 2 q53 ?_;refine kK 3 q54 ?_;refine kK 4 q55 ?_;refine kK 5 q56 ?_;refine kK 6 q57 ?_;refine kN 7 q58 ?_;refine kN 8 q59 ?_;refine kN 9 q60 ?_;refine kN 10 q61 ?_;refine kN 11 q62 ?_;refine kN 12 q63 ?_;refine kN 13 q64 ?_;refine kN 14 q65 ?_;refine kN 15 q66 ?_;refine kN 16 q67 ?_;refine kK 17 q68 ?_;refine wpAnyH_done (by kernel_rfl) ?_ _;clear hHeld;go_wp2;go_ret;exact ⟨(by rw [HR.out]; rfl),zc HB.out vv⟩
 ·rw [hh] at c2;have HSS:Hid (∀W',Below w3.heap.size w3 W'→W'.cell? ⟨b,off+k*8+2,none⟩=some (.bool true)∧W'.cell? ⟨b,off+k*8+3,none⟩=some (.int .i64 x.v.r)∧W'.cell? ⟨b,off+k*8+4,none⟩=some (.int .i64 x.v.c)∧W'.cell? ⟨b,off+k*8+5,none⟩=some (.int .i64 x.v.h)∧W'.cell? ⟨b,off+k*8+6,none⟩=some (.int .i64 x.v.b)∧W'.cell? ⟨b,off+k*8+7,none⟩=some (.int .i64 x.v.p)):=hide (fun W' hb=>⟨(hb.cell (zp c2)).trans c2,(hb.cell (zp c3)).trans c3,(hb.cell (zp c4)).trans c4,(hb.cell (zp c5)).trans c5,(hb.cell (zp c6)).trans c6,(hb.cell (zp c7)).trans c7⟩);clear c2 c3 c4 c5 c6 c7;cases hl:lessV (sayV id l (k:Int)) x.v
  ·have HR:Hid (zO id l (k:Int)=3):=hide (by rw [HR0.out,hh,hl]; rfl);have HL:Hid (zY (sayV id l (k:Int)).r (sayV id l (k:Int)).c (sayV id l (k:Int)).b (sayV id l (k:Int)).p x.v.r x.v.c x.v.b x.v.p=false):=hide hl;clear hh hl;(go_wp2_with fail);refine wp_region_held_drew (S:=(fun W=>W.cell? ⟨b,off+k*8+2,none⟩=some (.bool true)∧W.cell? ⟨b,off+k*8+3,none⟩=some (.int .i64 x.v.r)∧W.cell? ⟨b,off+k*8+4,none⟩=some (.int .i64 x.v.c)∧W.cell? ⟨b,off+k*8+5,none⟩=some (.int .i64 x.v.h)∧W.cell? ⟨b,off+k*8+6,none⟩=some (.int .i64 x.v.b)∧W.cell? ⟨b,off+k*8+7,none⟩=some (.int .i64 x.v.p))) (by kernel_rfl) (HSS.out _ vv) (fun hHeld => ?_);refine kK 0 q51 ?_;refine kK 1 q52 ?_;refine kK 2 q53 ?_;refine kK 3 q54 ?_;refine kK 4 q55 ?_;refine kK 5 q56 ?_;refine kK 6 q57 ?_;refine kK 7 q58 ?_;refine kK 8 q59 ?_;refine kK 9 q60 ?_;refine kK 11 q62 ?_;refine kK 12 q63 ?_;refine kK 13 q64 ?_;refine kK 14 q65 ?_;refine kK 15 q66 ?_;refine kR 10 q61 (fun K hK => ?_);go_simp;refine (zaD id (some ⟨b,off,none⟩) n c l (k:Int) _ (h.below (zc HB.out vv))).mono ?_;rintro e wx ⟨rfl,hbx⟩;have vv:=zc vv hbx;clear hbx;(go_wp2_with fail);refine hK.out _ _ (HSS.out _ vv) (fun hHeld => ?_);clear hK K;(try simp only [Act.put,lA,lB,lC]);refine kR 16 q67 (fun K hK => ?_);go_simp;refine (zaj (sayV id l (k:Int)).r (sayV id l (k:Int)).c (sayV id l (k:Int)).h (sayV id l (k:Int)).b (sayV id l (k:Int)).p x.v.r x.v.c x.v.h x.v.b x.v.p _).mono ?_;rintro e wx ⟨rfl,hbx⟩;rw [HL.out];have vv:=zc vv hbx;clear hbx;(go_wp2_with fail);refine hK.out _ _ (HSS.out _ vv) (fun hHeld => ?_);clear hK K;(try simp only [Act.put,lA,lB,lC]);refine kK 17 q68 ?_;refine wpAnyH_done (by kernel_rfl) ?_ _;clear hHeld;go_wp2;go_ret;exact ⟨(by rw [HR.out]; rfl),zc HB.out vv⟩
  ·have HR:Hid (zO id l (k:Int)=2):=hide (by rw [HR0.out,hh,hl]; rfl);have HL:Hid (zY (sayV id l (k:Int)).r (sayV id l (k:Int)).c (sayV id l (k:Int)).b (sayV id l (k:Int)).p x.v.r x.v.c x.v.b x.v.p=true):=hide hl;clear hh hl;(go_wp2_with fail);refine wp_region_held_drew (S:=(fun W=>W.cell? ⟨b,off+k*8+2,none⟩=some (.bool true)∧W.cell? ⟨b,off+k*8+3,none⟩=some (.int .i64 x.v.r)∧W.cell? ⟨b,off+k*8+4,none⟩=some (.int .i64 x.v.c)∧W.cell? ⟨b,off+k*8+5,none⟩=some (.int .i64 x.v.h)∧W.cell? ⟨b,off+k*8+6,none⟩=some (.int .i64 x.v.b)∧W.cell? ⟨b,off+k*8+7,none⟩=some (.int .i64 x.v.p))) (by kernel_rfl) (HSS.out _ vv) (fun hHeld => ?_);refine kK 0 q51 ?_;refine kK 1 q52 ?_;refine kK 2 q53 ?_;refine kK 3 q54 ?_;refine kK 4 q55 ?_;refine kK 5 q56 ?_;refine kK 6 q57 ?_;refine kK 7 q58 ?_;refine kK 8 q59 ?_;refine kK 9 q60 ?_;refine kK 11 q62 ?_;refine kK 12 q63 ?_;refine kK 13 q64 ?_;refine kK 14 q65 ?_;refine kK 15 q66 ?_;refine kR 10 q61 (fun K hK => ?_);go_simp;refine (zaD id (some ⟨b,off,none⟩) n c l (k:Int) _ (h.below (zc HB.out vv))).mono ?_;rintro e wx ⟨rfl,hbx⟩;have vv:=zc vv hbx;clear hbx;(go_wp2_with fail);refine hK.out _ _ (HSS.out _ vv) (fun hHeld => ?_);clear hK K;(try simp only [Act.put,lA,lB,lC]);refine kR 16 q67 (fun K hK => ?_);go_simp;refine (zaj (sayV id l (k:Int)).r (sayV id l (k:Int)).c (sayV id l (k:Int)).h (sayV id l (k:Int)).b (sayV id l (k:Int)).p x.v.r x.v.c x.v.h x.v.b x.v.p _).mono ?_;rintro e wx ⟨rfl,hbx⟩;rw [HL.out];have vv:=zc vv hbx;clear hbx;(go_wp2_with fail);refine hK.out _ _ (HSS.out _ vv) (fun hHeld => ?_);clear hK K;(try simp only [Act.put,lA,lB,lC]);refine kK 17 q68 ?_;refine wpAnyH_done (by kernel_rfl) ?_ _;clear hHeld;go_wp2;go_ret;exact ⟨(by rw [HR.out]; rfl),zc HB.out vv⟩

theorem za1 {n port:Int} (h:in3 port 0 7=false):bitOf n port=false:=by
 unfold bitOf;rw [h]
 rfl

theorem zdM {n:Int} {k:Nat} (h:k≤7):bitOf n (k:Int)=(bits .and .i64 (n / 2 ^ k) 1 == 1):=by
 unfold bitOf in3;rw [Int.toNat_natCast,decide_eq_true (show (0:Int)≤(k:Int) by omega),decide_eq_true (show (k:Int)≤7 by omega)]
 rfl

theorem zdB (n port:Int) (w:World) :
  Calls Try.prog 60 #[.int .i64 n,.int .i64 port] w fun e w'=>e=.returned (.bool (bitOf n port))∧w'=w:=by
 cases hin:in3 port 0 7
 ·rw [za1 hin];have HIN:=hide hin;clear hin;go_enter Try.func60,Try.ntmps60;(go_wp2_with fail);refine (zo port 0 7 _).mono ?_;rintro e w1 ⟨rfl,e1⟩;obtain rfl:=e1.symm;rw [show (decide (0≤port) && decide (port≤7))=false from HIN.out];go_wp2;go_ret;exact ⟨rfl,rfl⟩
 ·have hp:0≤port∧port≤7:=by unfold in3 at hin; simpa using hin
  obtain ⟨k,rfl⟩:∃k:Nat,port=(k:Int):=⟨port.toNat,by omega⟩;rw [zdM (by omega)];generalize hB:(bits .and .i64 (n / 2 ^ k) 1 == 1)=B;have hwk:IntKind.u64.wrap (k:Int)=(k:Int):=by rw [IntKind.wrap_u64]; omega
  have HIN:=hide hin;clear hin;go_enter Try.func60,Try.ntmps60;(go_wp2_with fail);refine (zo (k:Int) 0 7 _).mono ?_;rintro e w1 ⟨rfl,e1⟩;obtain rfl:=e1.symm;rw [show (decide (0≤(k:Int)) && decide ((k:Int)≤7))=true from HIN.out];go_wp2;go_ret;exact ⟨zN (by first | rfl | simp [hB]),rfl⟩

def hasP (n port:Int):Bool:=decide (0≤port) && (bits .and .i64 n (2 ^ port.toNat) != 0)

theorem zeA {n port:Int} (hn:I64 n) (h:port≤7∨(port≤9∧0≤n∧n≤63)):hasP n port=bitOf n port:=by
 unfold hasP;by_cases h0:0≤port
 ·obtain ⟨k,rfl⟩:∃k:Nat,port=(k:Int):=⟨port.toNat,by omega⟩;rw [decide_eq_true h0,Bool.true_and,Int.toNat_natCast,ze0 n k (by omega) hn];by_cases h7:k≤7
  ·rw [zdM h7]
  ·rw [za1 (by unfold in3; rw [decide_eq_false (show ¬(k:Int)≤7 by omega),Bool.and_false])];have hn2:0≤n∧n≤63:=by rcases h with h | h <;> omega
   rcases (show k=8∨k=9 by omega) with rfl | rfl
   ·rw [show n / 2 ^ 8=0 by simp; omega]
    decide
   ·rw [show n / 2 ^ 9=0 by simp; omega]
    decide
 ·rw [decide_eq_false h0,Bool.false_and,za1 (by unfold in3; rw [decide_eq_false h0,Bool.false_and])]

theorem zby (n port:Int) (hp:port≤9) (w:World) :
  Calls Try.prog 62 #[.int .i64 n,.int .i64 port] w fun e w'=>e=.returned (.bool (hasP n port))∧w'=w:=by
 by_cases h0:0≤port
 ·have hx:port=0∨port=1∨port=2∨port=3∨port=4∨port=5∨port=6∨port=7∨port=8∨port=9:=by omega
  rcases hx with rfl | rfl | rfl | rfl | rfl | rfl | rfl | rfl | rfl | rfl
  ·rw [show hasP n 0=(bits .and .i64 n 1 != 0) from rfl];generalize hB:(bits .and .i64 n 1 != 0)=B;go_enter Try.func62,Try.ntmps62;go_wp2;go_ret;exact ⟨zN (by first | rfl | simp [hB]),rfl⟩
  ·rw [show hasP n 1=(bits .and .i64 n 2 != 0) from rfl];generalize hB:(bits .and .i64 n 2 != 0)=B;go_enter Try.func62,Try.ntmps62;go_wp2;go_ret;exact ⟨zN (by first | rfl | simp [hB]),rfl⟩
  ·rw [show hasP n 2=(bits .and .i64 n 4 != 0) from rfl];generalize hB:(bits .and .i64 n 4 != 0)=B;go_enter Try.func62,Try.ntmps62;go_wp2;go_ret;exact ⟨zN (by first | rfl | simp [hB]),rfl⟩
  ·rw [show hasP n 3=(bits .and .i64 n 8 != 0) from rfl];generalize hB:(bits .and .i64 n 8 != 0)=B;go_enter Try.func62,Try.ntmps62;go_wp2;go_ret;exact ⟨zN (by first | rfl | simp [hB]),rfl⟩
  ·rw [show hasP n 4=(bits .and .i64 n 16 != 0) from rfl];generalize hB:(bits .and .i64 n 16 != 0)=B;go_enter Try.func62,Try.ntmps62;go_wp2;go_ret;exact ⟨zN (by first | rfl | simp [hB]),rfl⟩
  ·rw [show hasP n 5=(bits .and .i64 n 32 != 0) from rfl];generalize hB:(bits .and .i64 n 32 != 0)=B;go_enter Try.func62,Try.ntmps62;go_wp2;go_ret;exact ⟨zN (by first | rfl | simp [hB]),rfl⟩
  ·rw [show hasP n 6=(bits .and .i64 n 64 != 0) from rfl];generalize hB:(bits .and .i64 n 64 != 0)=B;go_enter Try.func62,Try.ntmps62;go_wp2;go_ret;exact ⟨zN (by first | rfl | simp [hB]),rfl⟩
  ·rw [show hasP n 7=(bits .and .i64 n 128 != 0) from rfl];generalize hB:(bits .and .i64 n 128 != 0)=B;go_enter Try.func62,Try.ntmps62;go_wp2;go_ret;exact ⟨zN (by first | rfl | simp [hB]),rfl⟩
  ·rw [show hasP n 8=(bits .and .i64 n 256 != 0) from rfl];generalize hB:(bits .and .i64 n 256 != 0)=B;go_enter Try.func62,Try.ntmps62;go_wp2;go_ret;exact ⟨zN (by first | rfl | simp [hB]),rfl⟩
  ·rw [show hasP n 9=(bits .and .i64 n 512 != 0) from rfl];generalize hB:(bits .and .i64 n 512 != 0)=B;go_enter Try.func62,Try.ntmps62;go_wp2;go_ret;exact ⟨zN (by first | rfl | simp [hB]),rfl⟩
 ·rw [show hasP n port=false by unfold hasP; rw [decide_eq_false h0]; rfl];go_enter Try.func62,Try.ntmps62;go_wp2;go_ret;exact ⟨rfl,rfl⟩

theorem zdA:∀b0 b1 b2 b3 b4 b5:Bool,∀n:Fin 7,0≤zaX (six b0 b1 b2 b3 b4 b5) n.val∧zaX (six b0 b1 b2 b3 b4 b5) n.val≤63:=by
 decide +kernel

theorem zeh (id:Int) (l:List PT):0≤zI id l∧zI id l≤63:=by
 unfold zI;rw [zd3];generalize (fun i:Nat=>decide (zO id l (i:Int)≤2))=f;have hn:min l.length 6≤6:=Nat.min_le_right _ _;generalize min l.length 6=m at hn;have e:∀j,j < 6→f j=six (f 0) (f 1) (f 2) (f 3) (f 4) (f 5) j:=by
  intro j hj;rcases (show j=0∨j=1∨j=2∨j=3∨j=4∨j=5 by omega) with rfl | rfl | rfl | rfl | rfl | rfl <;> rfl
 rw [zb6 f _ m (fun j hj=>e j (by omega))];exact zdA (f 0) (f 1) (f 2) (f 3) (f 4) (f 5) ⟨m,by omega⟩

theorem zeZ (n z:Int) (k:Nat) (hn:0≤n∧n≤63) (hk:6≤k) (hz:(z % 18446744073709551616).toNat=2 ^ k % 18446744073709551616):bits .and .i64 n z=0:=by
 rw [zcf,zca]
 apply BitVec.eq_of_toNat_eq
 rw [BitVec.toNat_and,bv_of,bv_of,hz]
 show _=0
 apply Nat.eq_of_testBit_eq
 intro j;rw [Nat.testBit_and,Nat.zero_testBit];by_cases h6:j < 6
 ·have:(2 ^ k % 18446744073709551616).testBit j=false:=by
   rw [show (18446744073709551616:Nat)=2 ^ 64 from rfl,Nat.testBit_mod_two_pow,Nat.testBit_two_pow]
   simp
   omega
  rw [this,Bool.and_false]
 ·have:((n % 18446744073709551616).toNat).testBit j=false:=by
   apply Nat.testBit_lt_two_pow
   have h64:2 ^ 6≤2 ^ j:=Nat.pow_le_pow_right (by decide) (by omega)
   have:(n % 18446744073709551616).toNat≤63:=by omega
   omega
  rw [this,Bool.false_and]

theorem zcj (id:Int) (l:List PT) (port:Nat) (w:World) (hp:port≤9223372036854775807) :
  Calls Try.prog 62 #[.int .i64 (zI id l),.int .i64 (port:Int)] w fun e w'=>e=.returned (.bool (bitOf (zI id l) (port:Int)))∧w'=w:=by
 have hr:=zeh id l;generalize zI id l=n at *;by_cases h9:port≤9
 ·refine (zby n (port:Int) (by omega) w).mono ?_;rintro e w' ⟨rfl,e1⟩;exact ⟨by rw [zeA (by unfold I64; omega) (Or.inr ⟨by omega,hr⟩)],e1⟩
 ·have hb:bitOf n (port:Int)=false:=za1 (by unfold in3; rw [decide_eq_false (show ¬(port:Int)≤7 by omega),Bool.and_false]);rw [hb];have i0:(0:Int)≤(port:Int):=by omega
  have hz:(bits .and .i64 n (wrap64 (2 ^ min port 64)) != 0)=false:=by
   rw [zeZ n _ (min port 64) hr (by omega) (by
    rw [show (2:Int) ^ min port 64=((2 ^ min port 64:Nat):Int) by push_cast; rfl];generalize (2 ^ min port 64:Nat)=z;unfold wrap64;omega)]
   rfl
  have HZ:=hide hz;clear hz;go_enter Try.func62,Try.ntmps62;go_wp2;go_ret;exact ⟨by rw [HZ.out]; rfl,rfl⟩

theorem zcl (id:Int) (a:Option Addr) (n c:Nat) (l:List PT) (w:World) (h:GRow ptF w a n c l) :
  Calls Try.prog 63 #[.int .i64 id,.slice a n c] w fun e w'=>e=.returned (.int .i64 (zI id l))∧Below w.heap.size w w':=by
 have hle:=h.le;have htop:=h.top;unfold maxLen at htop;have hsz:=hide h.size;go_enter Try.func63,Try.ntmps63;go_wp2_with fail
 go_loopw [5,10] (fun s i wr=>∃k:Nat,k≤min n 6∧i=.int .i64 k∧s=.int .i64 (zaa id l k)∧Below w.heap.size w wr) (fun _ i _=>6 - (intOf i).toNat)
 case atStart=>exact ⟨0,Nat.zero_le _,rfl,rfl,Below.refl _ _⟩
 case round =>
  obtain ⟨k,hk,rfl,rfl,hb⟩:=hrel;have hk6:k≤6:=by omega
  generalize hS:zaa id l k=S;have HS:=hide hS;clear hS;by_cases hlt:k < min n 6
  ·have hkn:k < n:=by omega
   have hk5:k < 6:=by omega
   have i1:(0:Int)≤(k:Int):=by omega
   have i2:(k:Int) < (n:Int):=by omega
   have i3:(k:Int) < 6:=by omega
   have hmin:(if (n:Int)≤6 then (n:Int) else 6)=((min n 6:Nat):Int):=by split <;> omega
   have i4:(k:Int) < ((min n 6:Nat):Int):=by omega
   have HB:=hide hb;clear hk hb;(go_wp2_with fail);refine (zcP id a n c l (k:Int) _ (h.below HB.out)).mono ?_;rintro e w2 ⟨rfl,hb2⟩;have HB2:=hide (zc HB.out hb2);have h14:=zdZ (id:=id) (l:=l) (k:Int);clear hb2;generalize hR:zO id l (k:Int)=R at *;have HR:=hide hR;clear hR;by_cases hr:R≤2
   ·have HN:Hid (zaa id l (k+1)=bits .or .i64 S (2 ^ k)):=hide (by rw [zaa,HR.out,if_pos hr,HS.out]);have hw2:wrap64 (2 ^ k)=2 ^ k:=by
     rcases (show k=0∨k=1∨k=2∨k=3∨k=4∨k=5 by omega) with rfl | rfl | rfl | rfl | rfl | rfl <;> exact Go.IntWalk.wrap64_in _ (by decide)
    have HW2:=hide hw2;clear hw2;obtain rfl | rfl:R=1∨R=2:=by omega
    ·go_wp2;rw [HW2.out]
     go_roundw
     case rel=>exact ⟨k+1,by omega,by go_num,by rw [HN.out],HB2.out⟩
     case measure=>simp [intOf]; omega
    ·go_wp2;rw [HW2.out]
     go_roundw
     case rel=>exact ⟨k+1,by omega,by go_num,by rw [HN.out],HB2.out⟩
     case measure=>simp [intOf]; omega
   ·have HN:Hid (zaa id l (k+1)=S):=hide (by rw [zaa,HR.out,if_neg hr,HS.out]);have hne1:¬R=1:=by omega
    have hne2:¬R=2:=by omega
    go_wp2
    go_roundw
    case rel=>exact ⟨k+1,by omega,by go_num,by rw [HN.out],HB2.out⟩
    case measure=>simp [intOf]; omega
  ·have hkn:k=min n 6:=by omega
   have HK:Hid (zI id l=S):=hide (by unfold zI; rw [hsz.out,← hkn]; exact HS.out);have hend:¬((k:Int) < (n:Int)∧(k:Int) < 6):=by omega
   go_wp2
   all_goals go_ret
   all_goals exact ⟨(by rw [HK.out]; rfl),hb⟩

def blkL (ao:Option Addr):List Nat:=match ao with | some a=>[a.block] | none=>[]

theorem zr {ao:Option Addr} {n c b:Nat}:(Value.slice ao n c).ownBlock=some b↔b∈blkL ao:=by
 cases ao <;> simp [Value.ownBlock,blkL,eq_comm]

structure Only (bs:List Nat) (w w':World):Prop where
 os:w'.os=w.os
 tape:w'.tape=w.tape
 output:w'.output=w.output
 size:w.heap.size≤w'.heap.size
 block:∀k,k < w.heap.size→k∉bs→w'.heap[k]?=w.heap[k]?

theorem Only.refl (bs:List Nat) (w:World):Only bs w w:=⟨rfl,rfl,rfl,Nat.le_refl _,fun _ _ _=>rfl⟩
theorem Only.trans {bs:List Nat} {a b c:World} (h:Only bs a b) (k:Only bs b c):Only bs a c :=
 ⟨k.os.trans h.os,k.tape.trans h.tape,k.output.trans h.output,Nat.le_trans h.size k.size,fun i hi hn=>(k.block i (Nat.lt_of_lt_of_le hi h.size) hn).trans (h.block i hi hn)⟩
theorem Only.wider {bs cs:List Nat} {a b:World} (h:Only bs a b) (hs:∀x∈bs,x∈cs):Only cs a b :=
 ⟨h.os,h.tape,h.output,h.size,fun k hk hn=>h.block k hk (fun hb=>hn (hs k hb))⟩
theorem Only.of_below {bs:List Nat} {a b:World} (h:Below a.heap.size a b):Only bs a b:=⟨h.os,h.tape,h.output,h.size,fun k hk _=>h.block k hk⟩
theorem Only.of_grown {ao:Option Addr} {n c:Nat} {a b:World} (h:a.grownBy b (Value.slice ao n c).ownBlock):Only (blkL ao) a b :=
 ⟨h.os,h.tape,h.output,h.size,fun k hk hn=>h.block k hk (fun e=>hn (zr.1 e.symm))⟩
theorem Only.set (w:World) (g j:Nat) (u:Value):Only [g] w (w.setCell ⟨g,j,none⟩ u) :=
 ⟨rfl,rfl,rfl,by simp,fun k _ hn=>Below.heap_setCell _ _ _ _ (by intro e; exact hn (by simp [e]))⟩
theorem Only.below {bs:List Nat} {w w':World} (h:Only bs w w') {B:Nat} (hB:B≤w.heap.size) (hs:∀b∈bs,B≤b):Below B w w' :=
 ⟨h.os,h.tape,h.output,h.size,fun k hk=>h.block k (by omega) (fun hb=>by have:=hs k hb; omega)⟩
theorem Only.kept {bs:List Nat} {w w':World} (h:Only bs w w') {i:Nat} {o:Obj} (hi:w.heap[i]?=some o) (hn:i∉bs):w'.heap[i]?=some o:=by
 rw [h.block i (Array.getElem?_eq_some_iff.1 hi).1 hn]; exact hi
theorem Only.own {bs:List Nat} {w w':World} {base:Nat} {e:TypeId} {size:Nat} {v:Value} {n:Nat} {xs:List Value} (h:Only bs w w') (ho:w.ownsRow base e size v n xs) (hn:∀k,v.ownBlock=some k→k∉bs):w'.ownsRow base e size v n xs:=by
 obtain ⟨hl,h0 | ⟨g,cap,cur,rfl,hg,hh,r⟩⟩:=ho
 ·exact ⟨hl,.inl h0⟩
 ·exact ⟨hl,.inr ⟨g,cap,cur,rfl,hg,h.kept hh (hn g rfl),r⟩⟩

theorem zK {w w':World} {base:Nat} {e:TypeId} {size:Nat} {v:Value} {n:Nat} {xs:List Value} (h:w.ownsRow base e size v n xs) (hb:Below w.heap.size w w'):w'.ownsRow base e size v n xs :=
 (Only.of_below (bs:=[]) hb).own h (by intro k _ hk; cases hk)
theorem zft {w:World} {base:Nat} {e:TypeId} {size:Nat} {v:Value} {n:Nat} {xs:List Value} (h:w.ownsRow base e size v n xs) {base':Nat} (hle:base'≤base):w.ownsRow base' e size v n xs:=by
 obtain ⟨hl,h | ⟨g,cap,cur,rfl,hg,r⟩⟩:=h
 ·exact ⟨hl,.inl h⟩
 ·exact ⟨hl,.inr ⟨g,cap,cur,rfl,by omega,r⟩⟩

theorem zaF {w:World} {base base':Nat} {e e':TypeId} {s s':Nat} {v v':Value} {n n':Nat} {xs xs':List Value} (h:w.ownsRow base e s v n xs) (h':w.ownsRow base' e' s' v' n' xs') (hne:e≠e') {k:Nat} (hk:v.ownBlock=some k):v'.ownBlock≠some k:=by
 intro hk';rcases h.2 with ⟨rfl,_⟩ | ⟨g,cap,cur,rfl,_,hh,_⟩
 ·cases hk
 ·rcases h'.2 with ⟨rfl,_⟩ | ⟨g',cap',cur',rfl,_,hh',_⟩
  ·cases hk'
  ·simp only [Value.ownBlock,Option.some.injEq] at hk hk';subst hk hk';rw [hh] at hh';cases hh';exact hne rfl

end Go.Proofs.Ytgmkhoakindpkaa
