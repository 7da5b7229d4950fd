/-
  Packed: VecLess PtBestI PtRoleI PtSendsI VlanRow BitPort.
-/
import Derived.Test.YtkaefmfopejbaaaGreatPAK03
namespace Go.Proofs.YtkaefmfopejbaaaGreat
set_option maxRecDepth 100000
set_option maxHeartbeats 16000000
open Go.RowKit

def cmpI (a b:Int):Int:=if a < b then -1 else if b < a then 1 else 0

theorem zcr (a:Int) (w:World):Calls Tryz.prog 162 #[.int .i64 a] w fun e w'=>e=.returned (.bool false)∧w'=w:=by
 go_enter Tryz.func162,Tryz.ntmps162;go_wp2;go_ret;exact ⟨zM (by simp),rfl⟩

theorem zhm (a b:Int) (w:World):Calls Tryz.prog 156 #[.int .i64 a,.int .i64 b] w fun e w'=>e=.returned (.int .i64 (cmpI a b))∧w'=w:=by
 by_cases h1:a < b
 ·rw [show cmpI a b = -1 from if_pos h1];go_enter Tryz.func156,Tryz.ntmps156;(go_wp2_with fail);refine (zcr a _).mono ?_;rintro e w1 ⟨rfl,rfl⟩;(go_wp2_with fail);refine (zcr b _).mono ?_;rintro e w2 ⟨rfl,rfl⟩;go_wp2;go_ret;exact ⟨rfl,rfl⟩
 by_cases h2:b < a
 ·rw [show cmpI a b=1 by unfold cmpI; rw [if_neg h1,if_pos h2]];go_enter Tryz.func156,Tryz.ntmps156;(go_wp2_with fail);refine (zcr a _).mono ?_;rintro e w1 ⟨rfl,rfl⟩;(go_wp2_with fail);refine (zcr b _).mono ?_;rintro e w2 ⟨rfl,rfl⟩;go_wp2;go_ret;exact ⟨rfl,rfl⟩
 ·rw [show cmpI a b=0 by unfold cmpI; rw [if_neg h1,if_neg h2]];go_enter Tryz.func156,Tryz.ntmps156;(go_wp2_with fail);refine (zcr a _).mono ?_;rintro e w1 ⟨rfl,rfl⟩;(go_wp2_with fail);refine (zcr b _).mono ?_;rintro e w2 ⟨rfl,rfl⟩;go_wp2;go_ret;exact ⟨rfl,rfl⟩

def or4 (a b c d:Int):Int:=if ¬a=0 then a else if ¬b=0 then b else if ¬c=0 then c else d

theorem zm7 (a b c d:Int) (g:Nat) (w:World) (hb:w.heap[g]? = some (.cells #[.int .i64 a,.int .i64 b,.int .i64 c,.int .i64 d] 3)) :
  Calls Tryz.prog 155 #[.slice (some ⟨g,0,none⟩) 4 4] w fun e w'=>e=.returned (.int .i64 (or4 a b c d))∧w'=w:=by
 obtain ⟨⟨x0,x1,x2,x3⟩,-⟩:=zns hb;generalize ho:or4 a b c d=o;have HO:=hide ho;clear ho hb;go_enter Tryz.func155,Tryz.ntmps155;go_wp2
 go_loop [8] (fun i=>∃k:Nat,k≤4∧i=.int .i64 k∧(1≤k→a=0)∧(2≤k→b=0)∧(3≤k→c=0)∧(4≤k→d=0)) (fun i=>4 - (intOf i).toNat)
 case atStart=>exact ⟨0,Nat.zero_le _,rfl,by omega,by omega,by omega,by omega⟩
 case round =>
  obtain ⟨k,hk,hi,e1,e2,e3,e4⟩:=hrel;rcases (show k=0∨k=1∨k=2∨k=3∨k=4 by omega) with rfl | rfl | rfl | rfl | rfl
  ·have hi:_=Value.int .i64 0:=hi;subst hi;clear e1 e2 e3 e4;by_cases h0:a=0
   ·have t0:(a != 0)=false:=by simp [h0]
    have H0:=hide h0;clear h0;go_wp2
    go_round
    case rel=>exact ⟨1,by omega,by go_num,fun _=>H0.out,by omega,by omega,by omega⟩
    case measure=>simp [intOf]
   ·have t0:(a != 0)=true:=by simp [h0]
    have H0:=hide h0;clear h0;go_wp2;go_ret
    have:=HO.out
    unfold or4 at this;rw [if_pos H0.out] at this;exact ⟨(by rw [← this]; rfl),rfl⟩
  ·have hi:_=Value.int .i64 1:=hi;subst hi;have h1:=hide (e1 (by omega));clear e1 e2 e3 e4;by_cases h0:b=0
   ·have t0:(b != 0)=false:=by simp [h0]
    have H0:=hide h0;clear h0;go_wp2
    go_round
    case rel=>exact ⟨2,by omega,by go_num,fun _=>h1.out,fun _=>H0.out,by omega,by omega⟩
    case measure=>simp [intOf]
   ·have t0:(b != 0)=true:=by simp [h0]
    have H0:=hide h0;clear h0;go_wp2;go_ret
    have:=HO.out
    unfold or4 at this;rw [if_neg (fun h=>h h1.out),if_pos H0.out] at this;exact ⟨(by rw [← this]; rfl),rfl⟩
  ·have hi:_=Value.int .i64 2:=hi;subst hi;have h1:=hide (e1 (by omega));have h2:=hide (e2 (by omega));clear e1 e2 e3 e4;by_cases h0:c=0
   ·have t0:(c != 0)=false:=by simp [h0]
    have H0:=hide h0;clear h0;go_wp2
    go_round
    case rel=>exact ⟨3,by omega,by go_num,fun _=>h1.out,fun _=>h2.out,fun _=>H0.out,by omega⟩
    case measure=>simp [intOf]
   ·have t0:(c != 0)=true:=by simp [h0]
    have H0:=hide h0;clear h0;go_wp2;go_ret
    have:=HO.out
    unfold or4 at this;rw [if_neg (fun h=>h h1.out),if_neg (fun h=>h h2.out),if_pos H0.out] at this;exact ⟨(by rw [← this]; rfl),rfl⟩
  ·have hi:_=Value.int .i64 3:=hi;subst hi;have h1:=hide (e1 (by omega));have h2:=hide (e2 (by omega));have h3:=hide (e3 (by omega));clear e1 e2 e3 e4;by_cases h0:d=0
   ·have t0:(d != 0)=false:=by simp [h0]
    have H0:=hide h0;clear h0;go_wp2
    go_round
    case rel=>exact ⟨4,by omega,by go_num,fun _=>h1.out,fun _=>h2.out,fun _=>h3.out,fun _=>H0.out⟩
    case measure=>simp [intOf]
   ·have t0:(d != 0)=true:=by simp [h0]
    clear h0;go_wp2;go_ret
    have:=HO.out
    unfold or4 at this;rw [if_neg (fun h=>h h1.out),if_neg (fun h=>h h2.out),if_neg (fun h=>h h3.out)] at this;exact ⟨(by rw [← this]; rfl),rfl⟩
  ·have hi:_=Value.int .i64 4:=hi;subst hi;have h1:=hide (e1 (by omega));have h2:=hide (e2 (by omega));have h3:=hide (e3 (by omega));have h4:=hide (e4 (by omega));clear e1 e2 e3 e4;go_wp2;go_ret
   have:=HO.out
   unfold or4 at this;rw [if_neg (fun h=>h h1.out),if_neg (fun h=>h h2.out),if_neg (fun h=>h h3.out),h4.out] at this;exact ⟨(by rw [← this]; rfl),rfl⟩

theorem zmh (R C B P R' C' B' P':Int):decide (or4 (cmpI R R') (cmpI C C') (cmpI B B') (cmpI P P') < 0)=zaL R C B P R' C' B' P':=by
 have z:∀a b:Int,(cmpI a b=0↔a=b)∧(cmpI a b < 0↔a < b):=by
  intro a b;unfold cmpI
  constructor <;> split <;> (try split) <;> omega
 obtain ⟨a1,a2⟩:=z R R';obtain ⟨b1,b2⟩:=z C C';obtain ⟨c1,c2⟩:=z B B';obtain ⟨d1,d2⟩:=z P P';unfold or4 zaL;generalize cmpI R R'=x at *;generalize cmpI C C'=y at *;generalize cmpI B B'=u at *;generalize cmpI P P'=v at *;by_cases h1:R=R'
 ·have e1:x=0:=a1.2 h1;have t1:(R != R')=false:=by simp [h1]
  rw [if_neg (by simp [e1]:¬¬x=0),t1,if_neg Bool.false_ne_true];by_cases h2:C=C'
  ·have e2:y=0:=b1.2 h2;have t2:(C != C')=false:=by simp [h2]
   rw [if_neg (by simp [e2]:¬¬y=0),t2,if_neg Bool.false_ne_true];by_cases h3:B=B'
   ·have e3:u=0:=c1.2 h3;have t3:(B != B')=false:=by simp [h3]
    rw [if_neg (by simp [e3]:¬¬u=0),t3,if_neg Bool.false_ne_true];exact decide_eq_decide.2 d2
   ·have e3:¬u=0:=fun h=>h3 (c1.1 h)
    have t3:(B != B')=true:=by simp [h3]
    rw [if_pos e3,t3,if_pos rfl];exact decide_eq_decide.2 c2
  ·have e2:¬y=0:=fun h=>h2 (b1.1 h)
   have t2:(C != C')=true:=by simp [h2]
   rw [if_pos e2,t2,if_pos rfl];exact decide_eq_decide.2 b2
 ·have e1:¬x=0:=fun h=>h1 (a1.1 h)
  have t1:(R != R')=true:=by simp [h1]
  rw [if_pos e1,t1,if_pos rfl];exact decide_eq_decide.2 a2

theorem zbu (R C H B P R' C' H' B' P':Int) (w:World) :
  Calls Tryz.prog 120 #[.agg #[.int .i64 R,.int .i64 C,.int .i64 H,.int .i64 B,.int .i64 P],.agg #[.int .i64 R',.int .i64 C',.int .i64 H',.int .i64 B',.int .i64 P']] w fun e w'=>e=.returned (.bool (zaL R C B P R' C' B' P'))∧Below w.heap.size w w':=by
 have q2:=zab w (.cells #[.int .i64 R,.int .i64 C,.int .i64 H,.int .i64 B,.int .i64 P] 51) (.cells #[.int .i64 R',.int .i64 C',.int .i64 H',.int .i64 B',.int .i64 P'] 51);obtain ⟨k0,k1⟩:=zcD (Below.refl _ ((w.alloc (.cells #[.int .i64 R,.int .i64 C,.int .i64 H,.int .i64 B,.int .i64 P] 51)).alloc (.cells #[.int .i64 R',.int .i64 C',.int .i64 H',.int .i64 B',.int .i64 P'] 51)));have HL:=hide (zmh R C B P R' C' B' P');generalize zaL R C B P R' C' B' P'=L at *;go_enter Tryz.func120,Tryz.ntmps120;go_wp2_with fail
 generalize ((w.alloc (.cells #[.int .i64 R,.int .i64 C,.int .i64 H,.int .i64 B,.int .i64 P] 51)).alloc (.cells #[.int .i64 R',.int .i64 C',.int .i64 H',.int .i64 B',.int .i64 P'] 51))=wb at *;obtain ⟨⟨x0,x1,x2,x3,x4⟩,-⟩:=zG k0;obtain ⟨⟨y0,y1,y2,y3,y4⟩,-⟩:=zG k1;clear k0 k1
 go_region_held3 (fun W=>(W.cell? ⟨w.heap.size,0,none⟩=some (.int .i64 R)∧W.cell? ⟨w.heap.size,1,none⟩=some (.int .i64 C)∧W.cell? ⟨w.heap.size,3,none⟩=some (.int .i64 B)∧W.cell? ⟨w.heap.size,4,none⟩=some (.int .i64 P))∧(W.cell? ⟨w.heap.size+1,0,none⟩=some (.int .i64 R')∧W.cell? ⟨w.heap.size+1,1,none⟩=some (.int .i64 C')∧W.cell? ⟨w.heap.size+1,3,none⟩=some (.int .i64 B')∧W.cell? ⟨w.heap.size+1,4,none⟩=some (.int .i64 P'))) (first | assumption | go_keep) (first
  | (go_at_call 156; refine (zhm _ _ _).mono ?_; rintro e w1 ⟨rfl,rfl⟩)
  | (go_at_call 155; refine (zm7 (cmpI R R') (cmpI C C') (cmpI B B') (cmpI P P') wb.heap.size _ (zbn (zy wb _))).mono ?_; rintro e w2 ⟨rfl,rfl⟩))
 go_wp2;go_ret;exact ⟨zM HL.out,zq (zcx q2 _)⟩

def heldV (id:Int):Option (VD × Nat)→VD
 | none=>⟨id,0,0,0,0⟩
 | some (f,_)=>f

structure BiSt (w W:World) (v:VD):Prop where
 res:W.heap[w.heap.size]? = some (.cells #[.int .i64 0,.int .i64 0,.int .i64 0,.int .i64 0,.int .i64 0] 51)
 best:W.heap[w.heap.size+1]? = some (.cells #[.int .i64 v.r,.int .i64 v.c,.int .i64 v.h,.int .i64 v.b,.int .i64 v.p] 51)
 below:Below w.heap.size w W

theorem BiSt.later {w W W':World} {v:VD} (h:BiSt w W v) (hb:Below W.heap.size W W'):BiSt w W' v :=
 ⟨za h.res hb,za h.best hb,zc h.below hb⟩

theorem BiSt.set {w W:World} {v:VD} (h:BiSt w W v) (u:VD):BiSt w (((((W.setCell ⟨w.heap.size+1,0,none⟩ (.int .i64 u.r)).setCell ⟨w.heap.size+1,1,none⟩ (.int .i64 u.c)).setCell ⟨w.heap.size+1,2,none⟩ (.int .i64 u.h)).setCell ⟨w.heap.size+1,3,none⟩ (.int .i64 u.b)).setCell ⟨w.heap.size+1,4,none⟩ (.int .i64 u.p)) u :=
 ⟨zbY h.res (by omega) _ _ _ _ _,zdW h.best _ _ _ _ _,zae h.below (by omega) _ _ _ _ _⟩

theorem zk1 {id:Int} {u:VD} (h:u.r < id):zaL u.r u.c u.b u.p id 0 0 0=true:=by
 unfold zaL
 have:(u.r != id)=true:=by simp; omega
 rw [this]
 simp [h]

theorem zjN {id:Int} {s:Option (VD × Nat)} {i:Nat} {x:PT} (ho:offers id x=true) (hs:∀f j,s=some (f,j)→f.r < id) :
  zbd id s i x=if lessV (overV x) (heldV id s)=true then some (overV x,i) else s:=by
 have ho':=ho;rw [zcG] at ho';simp only [Bool.and_eq_true,decide_eq_true_eq] at ho';have e:=zjs ho'.1;unfold zbd;rw [if_pos ho];cases s with
 | none =>
  rw [if_pos]
  ·rw [e]
  ·exact zk1 ho'.2
 | some y =>
  obtain ⟨f,j⟩:=y;simp only [heldV];rw [e]
  rfl

theorem zbW (id:Int) (a:Option Addr) (n c:Nat) (l:List PT) (w:World) (h:GRow ptF w a n c l) :
  Calls Tryz.prog 118 #[.int .i64 id,.slice a n c] w fun e w'=>e=.returned (.tuple #[.agg #[.int .i64 (bestV id (zO id l)).r,.int .i64 (bestV id (zO id l)).c,.int .i64 (bestV id (zO id l)).h,.int .i64 (bestV id (zO id l)).b,.int .i64 (bestV id (zO id l)).p],.int .i64 (bestP (zO id l))])∧Below w.heap.size w w':=by
 have hle:=h.le;have htop:=h.top;unfold maxLen at htop;have hsz:=hide h.size;go_enter Tryz.func118,Tryz.ntmps118;go_wp2_with fail
 generalize hw3:(w.alloc (Obj.cells #[.int .i64 0,.int .i64 0,.int .i64 0,.int .i64 0,.int .i64 0] 51)).alloc (Obj.cells #[.int .i64 id,.int .i64 0,.int .i64 0,.int .i64 0,.int .i64 0] 51)=w3;have st3:BiSt w w3 (heldV id none):=by
  subst hw3;obtain ⟨k0,k1⟩:=zcD (Below.refl _ ((w.alloc (Obj.cells #[.int .i64 0,.int .i64 0,.int .i64 0,.int .i64 0,.int .i64 0] 51)).alloc (Obj.cells #[.int .i64 id,.int .i64 0,.int .i64 0,.int .i64 0,.int .i64 0] 51)));exact ⟨k0,k1,zab _ _ _⟩
 clear hw3
 go_loopw [7,16] (fun p i wr=>∃(k:Nat) (s:Option (VD × Nat)),k≤n∧i=.int .i64 k∧p=.int .i64 (bestP s)∧(zaY id l k=s∧∀f j,s=some (f,j)→f.r < id)∧BiSt w wr (heldV id s)) (fun _ i _=>n - (intOf i).toNat)
 case atStart=>exact ⟨0,none,Nat.zero_le _,rfl,rfl,⟨rfl,by intro f j e; cases e⟩,st3⟩
 case round =>
  obtain ⟨k,s,hk,rfl,rfl,⟨hs,hrt⟩,st⟩:=hrel;obtain ⟨hv,hhv⟩:∃y,y=heldV id s:=⟨_,rfl⟩;have BACK:Hid (∀W,BiSt w W hv→BiSt w W (heldV id s)):=hide (by subst hhv; exact fun W h=>h);rw [← hhv] at st;have HHV:=hide hhv;have HRT:=hide hrt;clear hhv hrt;by_cases hlt:k < n
  ·obtain ⟨x,b,off,hx,rfl,c0,c1,c2,c3,c4,c5,c6,c7⟩:=pt_at (h.below st.below) k hlt;have hnx:=zdG (id:=id) hx;rw [hs] at hnx;have i1:(0:Int)≤(k:Int):=by omega
   have i2:(k:Int) < (n:Int):=by omega
   have NX:=hide hnx;have ST:=hide st;clear hs hnx hx st;(go_wp2_with fail);refine (zhR x _).mono ?_;rintro e w4 ⟨rfl,hb4⟩;have st4:=(ST.out.later (zl _ _)).later hb4;clear hb4 c0 c1 c2 c3 c4 c5 c6 c7;generalize hu:overV x=u;generalize hq:overB x=q;have HU:=hide hu;have HQ:=hide hq;clear hu hq;(go_upto_region 6 with fail);generalize hw5:w4.alloc (Obj.cells #[.int .i64 u.r,.int .i64 u.c,.int .i64 u.h,.int .i64 u.b,.int .i64 u.p] 51)=w5;have st5:BiSt w w5 hv:=by rw [← hw5]; exact st4.later (zl _ _)
   have kX:=zk hw5;have hl4:=(Array.getElem?_eq_some_iff.1 st4.best).1;have ne1:¬w4.heap.size=w.heap.size+1:=by omega
   have ne2:¬w.heap.size+1=w4.heap.size:=by omega
   have HL4:=hide hl4;obtain ⟨⟨x0,x1,x2,x3,x4⟩,-⟩:=zG kX;obtain ⟨⟨z0,z1,z2,z3,z4⟩,v0,v1,v2,v3,v4⟩:=zG st5.best;clear st4 hl4 hw5;have ST5:=hide st5;have KX:=hide kX;clear kX st5;cases q
   ·have HE:Hid (zaY id l (k+1)=s):=hide (NX.out.trans (zbE (by rw [zcG,HQ.out]; rfl)));clear v0 v1 v2 v3 v4;go_wp2
    go_roundw
    case rel=>exact ⟨k+1,s,by omega,by go_num,rfl,⟨HE.out,HRT.out⟩,BACK.out _ ST5.out⟩
    case measure=>simp [intOf]; omega
   cases hlr:decide (u.r < id)
   ·have HE:Hid (zaY id l (k+1)=s):=hide (NX.out.trans (zbE (by rw [zcG,HQ.out,HU.out,hlr]; rfl)));have hlr:¬u.r < id:=by simpa using hlr
    clear v0 v1 v2 v3 v4;go_wp2
    go_roundw
    case rel=>exact ⟨k+1,s,by omega,by go_num,rfl,⟨HE.out,HRT.out⟩,BACK.out _ ST5.out⟩
    case measure=>simp [intOf]; omega
   have HO:Hid (offers id x=true):=hide (by rw [zcG,HQ.out,HU.out,hlr]; rfl);have hlr:u.r < id:=by simpa using hlr
   have HLR:=hide hlr;have HSTEP:Hid (zaY id l (k+1)=if lessV u hv=true then some (u,k) else s):=hide (by rw [NX.out,zjN HO.out HRT.out,HU.out,HHV.out]);cases hl:lessV u hv
   ·have HE:Hid (zaY id l (k+1)=s):=hide (by rw [HSTEP.out,hl]; rfl);have HL:Hid (zaL u.r u.c u.b u.p hv.r hv.c hv.b hv.p=false):=hide hl;clear hl v0 v1 v2 v3 v4;(go_wp2_with fail);refine (zbu u.r u.c u.h u.b u.p hv.r hv.c hv.h hv.b hv.p _).mono ?_;rintro e wl ⟨rfl,hbl⟩;rw [HL.out];have SL:=hide (ST5.out.later hbl);clear hbl x0 x1 x2 x3 x4 z0 z1 z2 z3 z4;go_wp2
    go_roundw
    case rel=>exact ⟨k+1,s,by omega,by go_num,rfl,⟨HE.out,HRT.out⟩,BACK.out _ SL.out⟩
    case measure=>simp [intOf]; omega
   ·have HE:Hid (zaY id l (k+1)=some (u,k)):=hide (by rw [HSTEP.out,hl]; rfl);have HL:Hid (zaL u.r u.c u.b u.p hv.r hv.c hv.b hv.p=true):=hide hl;clear hl v0 v1 v2 v3 v4;(go_wp2_with fail);refine (zbu u.r u.c u.h u.b u.p hv.r hv.c hv.h hv.b hv.p _).mono ?_;rintro e wl ⟨rfl,hbl⟩;rw [HL.out];have stl:=ST5.out.later hbl;have kX:=za KX.out hbl;clear hbl x0 x1 x2 x3 x4 z0 z1 z2 z3 z4;obtain ⟨⟨x0,x1,x2,x3,x4⟩,-⟩:=zG kX;obtain ⟨⟨z0,z1,z2,z3,z4⟩,v0,v1,v2,v3,v4⟩:=zG stl.best;have HSET:Hid (BiSt w _ u):=hide (stl.set u);clear stl kX;go_wp2
    go_roundw
    case rel=>exact ⟨k+1,some (u,k),by omega,by go_num,rfl,⟨HE.out,fun f j e=>by cases e; exact HLR.out⟩,HSET.out⟩
    case measure=>simp [intOf]; omega
  ·have hkn:k=n:=by omega
   subst hkn;have HB:Hid (zO id l=s):=hide (by unfold zO; rw [hsz.out]; exact hs);have HBV:Hid (bestV id s=⟨hv.r,hv.c,hv.h,id,0⟩):=hide (by rw [HHV.out]; cases s <;> rfl);obtain ⟨⟨x0,x1,x2,x3,x4⟩,y0,y1,y2,y3,y4⟩:=zG st.best;obtain ⟨⟨r0,r1,r2,r3,r4⟩,z0,z1,z2,z3,z4⟩:=zG st.res;have ne:¬w.heap.size=w.heap.size+1:=by omega
   have hb:=zae (zr (zr st.below (g:=w.heap.size+1) (by omega) 3 (.int .i64 id)) (g:=w.heap.size+1) (by omega) 4 (.int .i64 0)) (Nat.le_refl w.heap.size) (.int .i64 hv.r) (.int .i64 hv.c) (.int .i64 hv.h) (.int .i64 id) (.int .i64 0);clear hs st;go_wp2;exact bodyPost_ret (v:=.tuple #[.agg #[.int .i64 hv.r,.int .i64 hv.c,.int .i64 hv.h,.int .i64 id,.int .i64 0],.int .i64 (bestP s)]) (by simp [results,Tryz.results118,go_sem, *]) rfl ⟨(by rw [HB.out,HBV.out]),hb⟩

theorem zcg (id:Int) (a:Option Addr) (n c:Nat) (l:List PT) (port:Int) (w:World) (h:GRow ptF w a n c l) :
  Calls Tryz.prog 88 #[.int .i64 id,.slice a n c,.int .i64 port] w fun e w'=>e=.returned (.agg #[.int .i64 (sayV id l port).r,.int .i64 (sayV id l port).c,.int .i64 (sayV id l port).h,.int .i64 (sayV id l port).b,.int .i64 (sayV id l port).p])∧Below w.heap.size w w':=by
 generalize hw1:w.alloc (Obj.cells #[.int .i64 0,.int .i64 0,.int .i64 0,.int .i64 0,.int .i64 0] 51)=w1;have q1:=zb hw1;have k1:=zk hw1;have hsb:(sayV id l port)=⟨(bestV id (zO id l)).r,(bestV id (zO id l)).c,(bestV id (zO id l)).h,(bestV id (zO id l)).b,port⟩:=by
  unfold sayV;cases zO id l <;> rfl
 rw [hsb];clear hsb;go_enter Tryz.func88,Tryz.ntmps88;go_wp2_with fail
 refine (zbW id a n c l _ (h.below q1)).mono ?_;rintro e w2 ⟨rfl,hb2⟩;generalize hv:bestV id (zO id l)=v;have HV:=hide hv;clear hv;generalize hw3:w2.alloc (Obj.cells #[.int .i64 v.r,.int .i64 v.c,.int .i64 v.h,.int .i64 v.b,.int .i64 v.p] 51)=w3;have hb3:=zb hw3;have k3:=zk hw3;have k1:=za (za k1 hb2) hb3;have lt1:=(Array.getElem?_eq_some_iff.1 (za (by rw [← hw1]; exact zy _ _:w1.heap[w.heap.size]? = some (.cells #[.int .i64 0,.int .i64 0,.int .i64 0,.int .i64 0,.int .i64 0] 51)) hb2)).1;have ne1:¬w2.heap.size=w.heap.size:=by omega
 have ne2:¬w.heap.size=w2.heap.size:=by omega
 have HB:=hide (zae (zr (zc (zc q1 hb2) hb3) (g:=w2.heap.size) (by omega) 4 (.int .i64 port)) (Nat.le_refl w.heap.size) (.int .i64 v.r) (.int .i64 v.c) (.int .i64 v.h) (.int .i64 v.b) (.int .i64 port));obtain ⟨⟨x0,x1,x2,x3,x4⟩,y0,y1,y2,y3,y4⟩:=zG k3;obtain ⟨⟨r0,r1,r2,r3,r4⟩,z0,z1,z2,z3,z4⟩:=zG k1;clear hb2 hb3 k1 k3 q1 lt1;go_wp2;exact bodyPost_ret (v:=.agg #[.int .i64 v.r,.int .i64 v.c,.int .i64 v.h,.int .i64 v.b,.int .i64 port]) (by simp [results,Tryz.results88,go_sem, *]) rfl ⟨(by rw [HV.out]),HB.out⟩

theorem zhB (id:Int) (a:Option Addr) (n c:Nat) (l:List PT) (port:Int) (w:World) (h:GRow ptF w a n c l) :
  Calls Tryz.prog 91 #[.int .i64 id,.slice a n c,.int .i64 port] w fun e w'=>e=.returned (.int .i64 (zaw id l port))∧Below w.heap.size w w':=by
 have hle:=h.le;have htop:=h.top;unfold maxLen at htop;have hsz:=hide h.size;cases hin:(decide (0≤port) && decide (port≤(n:Int) - 1))
 ·have HIN:=hide hin;have HR:Hid (zaw id l port=4):=hide (by unfold zaw; rw [hsz.out,hin]; rfl);clear hin;go_enter Tryz.func91,Tryz.ntmps91;(go_wp2_with fail);refine (zP port 0 ((n:Int) - 1) _).mono ?_;rintro e w1 ⟨rfl,ew⟩;obtain rfl:=ew.symm;rw [HIN.out];go_wp2;go_ret;exact ⟨(by rw [HR.out]; rfl),Below.refl _ _⟩
 obtain ⟨k,rfl⟩:∃k:Nat,port=(k:Int):=⟨port.toNat,by simp at hin; omega⟩;have hlt:k < n:=by simp at hin; omega
 have HIN:=hide hin;have i1:(0:Int)≤(k:Int):=by omega
 have i2:(k:Int) < (n:Int):=by omega
 obtain ⟨x,b,off,hx,rfl,c0,c1,c2,c3,c4,c5,c6,c7⟩:=pt_at h k hlt;have hro:zaw id l (k:Int)=zcT id l k x:=by
  unfold zaw;rw [hsz.out,hin]
  simp [hx]
 have HRO:=hide hro;clear hin hro;cases hu:x.up
 ·rw [hu] at c0;have HR:Hid (zaw id l (k:Int)=4):=hide (by rw [HRO.out]; unfold zcT; rw [if_pos hu]);clear hu c1 c2 c3 c4 c5 c6 c7 hx;go_enter Tryz.func91,Tryz.ntmps91;(go_wp2_with fail);refine (zP (k:Int) 0 ((n:Int) - 1) _).mono ?_;rintro e w1 ⟨rfl,ew⟩;obtain rfl:=ew.symm;rw [HIN.out];go_wp2;go_ret;exact ⟨(by rw [HR.out]; rfl),Below.refl _ _⟩
 rw [hu] at c0;have HU:=hide hu;clear hu;by_cases hp:bestP (zO id l)=(k:Int)
 ·have HR:Hid (zaw id l (k:Int)=1):=hide (by rw [HRO.out]; unfold zcT; rw [if_neg (by rw [HU.out]; decide),if_pos hp]);have HP:=hide hp;clear c1 c2 c3 c4 c5 c6 c7 hx hp;go_enter Tryz.func91,Tryz.ntmps91;(go_wp2_with fail);refine (zP (k:Int) 0 ((n:Int) - 1) _).mono ?_;rintro e w1 ⟨rfl,ew⟩;obtain rfl:=ew.symm;rw [HIN.out];(go_wp2_with fail);refine (zbW id (some ⟨b,off,none⟩) n c l _ h).mono ?_;rintro e w2 ⟨rfl,hb2⟩;rw [HP.out];have HB:=hide (zc hb2 (zl _ (Obj.cells #[.int .i64 (bestV id (zO id l)).r,.int .i64 (bestV id (zO id l)).c,.int .i64 (bestV id (zO id l)).h,.int .i64 (bestV id (zO id l)).b,.int .i64 (bestV id (zO id l)).p] 51)));clear hb2 c0;go_wp2;go_ret;exact ⟨(by rw [HR.out]; rfl),HB.out⟩
 go_enter Tryz.func91,Tryz.ntmps91;go_wp2_with fail
 refine (zP (k:Int) 0 ((n:Int) - 1) _).mono ?_;rintro e w1 ⟨rfl,ew⟩;obtain rfl:=ew.symm;rw [HIN.out];go_wp2_with fail
 refine (zbW id (some ⟨b,off,none⟩) n c l _ h).mono ?_;rintro e w2 ⟨rfl,hb2⟩;generalize hw3:w2.alloc (Obj.cells #[.int .i64 (bestV id (zO id l)).r,.int .i64 (bestV id (zO id l)).c,.int .i64 (bestV id (zO id l)).h,.int .i64 (bestV id (zO id l)).b,.int .i64 (bestV id (zO id l)).p] 51)=w3;have HB:Hid (Below w.heap.size w w3):=hide (zc hb2 (by rw [← hw3]; exact zl _ _));clear hb2 c0 c1 c2 c3 c4 c5 c6 c7;obtain ⟨x',b',off',hx',ha',c0,c1,c2,c3,c4,c5,c6,c7⟩:=pt_at (h.below HB.out) k hlt;rw [hx] at hx';cases hx';cases ha';generalize hP:bestP (zO id l)=P at *;have hPne:((k:Int) == P)=false:=by simp; exact fun e=>hp e.symm
 have HX:=hide hx;have vv:Below w3.heap.size w3 w3.drew:=zq (Below.refl _ _);have HR0:Hid (zaw id l (k:Int)=(if (!x.has || lessV (sayV id l (k:Int)) x.v)=true then 2 else 3)):=hide (by rw [HRO.out]; unfold zcT; rw [if_neg (by rw [HU.out]; decide),hP,if_neg hp]);clear c0 c1 hx hP;cases hh:x.has
 ·rw [hh] at c2;have HR:Hid (zaw id l (k:Int)=2):=hide (by rw [HR0.out,hh]; rfl);have HSS:Hid (∀W',Below w3.heap.size w3 W'→zcc W' b (off+k*8+2) (.bool false)∧zcc W' b (off+k*8+3) (.int .i64 x.v.r)∧zcc W' b (off+k*8+4) (.int .i64 x.v.c)∧zcc W' b (off+k*8+5) (.int .i64 x.v.h)∧zcc W' b (off+k*8+6) (.int .i64 x.v.b)∧zcc W' b (off+k*8+7) (.int .i64 x.v.p)):=hide (fun W' hb=>⟨(hb.cell (zp c2)).trans c2,(hb.cell (zp c3)).trans c3,(hb.cell (zp c4)).trans c4,(hb.cell (zp c5)).trans c5,(hb.cell (zp c6)).trans c6,(hb.cell (zp c7)).trans c7⟩);clear c2 c3 c4 c5 c6 c7 hh;(go_wp2_with fail);refine wp_region_held_drew (S:=(fun W=>zcc W b (off+k*8+2) (.bool false)∧zcc W b (off+k*8+3) (.int .i64 x.v.r)∧zcc W b (off+k*8+4) (.int .i64 x.v.c)∧zcc W b (off+k*8+5) (.int .i64 x.v.h)∧zcc W b (off+k*8+6) (.int .i64 x.v.b)∧zcc W b (off+k*8+7) (.int .i64 x.v.p))) (by kernel_rfl) (HSS.out _ vv) (fun hHeld => ?_);refine kK 0 ?_;refine kK 1 ?_;refine kK 2 ?_;refine kK 3 ?_;refine kK 4 ?_;refine kK 5 ?_;refine kK 6 ?_;refine kN 7 ?_;refine kN 8 ?_;refine kN 9 ?_;refine kN 10 ?_;refine kN 11 ?_;refine kN 12 ?_;refine kN 13 ?_;refine kN 14 ?_;refine kN 15 ?_;refine kN 16 ?_;refine kK 17 ?_;refine wpAnyH_done (by kernel_rfl) ?_ _;clear hHeld;go_wp2;go_ret;exact ⟨(by rw [HR.out]; rfl),zc HB.out vv⟩
 ·rw [hh] at c2;have HSS:Hid (∀W',Below w3.heap.size w3 W'→zcc W' b (off+k*8+2) (.bool true)∧zcc W' b (off+k*8+3) (.int .i64 x.v.r)∧zcc W' b (off+k*8+4) (.int .i64 x.v.c)∧zcc W' b (off+k*8+5) (.int .i64 x.v.h)∧zcc W' b (off+k*8+6) (.int .i64 x.v.b)∧zcc W' b (off+k*8+7) (.int .i64 x.v.p)):=hide (fun W' hb=>⟨(hb.cell (zp c2)).trans c2,(hb.cell (zp c3)).trans c3,(hb.cell (zp c4)).trans c4,(hb.cell (zp c5)).trans c5,(hb.cell (zp c6)).trans c6,(hb.cell (zp c7)).trans c7⟩);clear c2 c3 c4 c5 c6 c7;cases hl:lessV (sayV id l (k:Int)) x.v
  ·have HR:Hid (zaw id l (k:Int)=3):=hide (by rw [HR0.out,hh,hl]; rfl);have HL:Hid (zaL (sayV id l (k:Int)).r (sayV id l (k:Int)).c (sayV id l (k:Int)).b (sayV id l (k:Int)).p x.v.r x.v.c x.v.b x.v.p=false):=hide hl;clear hh hl;(go_wp2_with fail);refine wp_region_held_drew (S:=(fun W=>zcc W b (off+k*8+2) (.bool true)∧zcc W b (off+k*8+3) (.int .i64 x.v.r)∧zcc W b (off+k*8+4) (.int .i64 x.v.c)∧zcc W b (off+k*8+5) (.int .i64 x.v.h)∧zcc W b (off+k*8+6) (.int .i64 x.v.b)∧zcc W b (off+k*8+7) (.int .i64 x.v.p))) (by kernel_rfl) (HSS.out _ vv) (fun hHeld => ?_);refine kK 0 ?_;refine kK 1 ?_;refine kK 2 ?_;refine kK 3 ?_;refine kK 4 ?_;refine kK 5 ?_;refine kK 6 ?_;refine kK 7 ?_;refine kK 8 ?_;refine kK 9 ?_;refine kK 11 ?_;refine kK 12 ?_;refine kK 13 ?_;refine kK 14 ?_;refine kK 15 ?_;refine kR 10 fun K hK => ?_
   go_simp;refine (zcg id (some ⟨b,off,none⟩) n c l (k:Int) _ (h.below (zc HB.out vv))).mono ?_;rintro e wx ⟨rfl,hbx⟩;have vv:=zc vv hbx;clear hbx;(go_wp2_with fail);refine kO hK (HSS.out _ vv) fun hHeld => ?_
   clear hK K;refine kR 16 fun K hK => ?_
   go_simp;refine (zbu (sayV id l (k:Int)).r (sayV id l (k:Int)).c (sayV id l (k:Int)).h (sayV id l (k:Int)).b (sayV id l (k:Int)).p x.v.r x.v.c x.v.h x.v.b x.v.p _).mono ?_;rintro e wx ⟨rfl,hbx⟩;rw [HL.out];have vv:=zc vv hbx;clear hbx;(go_wp2_with fail);refine kO hK (HSS.out _ vv) fun hHeld => ?_
   clear hK K;refine kK 17 ?_;refine wpAnyH_done (by kernel_rfl) ?_ _;clear hHeld;go_wp2;go_ret;exact ⟨(by rw [HR.out]; rfl),zc HB.out vv⟩
  ·have HR:Hid (zaw id l (k:Int)=2):=hide (by rw [HR0.out,hh,hl]; rfl);have HL:Hid (zaL (sayV id l (k:Int)).r (sayV id l (k:Int)).c (sayV id l (k:Int)).b (sayV id l (k:Int)).p x.v.r x.v.c x.v.b x.v.p=true):=hide hl;clear hh hl;(go_wp2_with fail);refine wp_region_held_drew (S:=(fun W=>zcc W b (off+k*8+2) (.bool true)∧zcc W b (off+k*8+3) (.int .i64 x.v.r)∧zcc W b (off+k*8+4) (.int .i64 x.v.c)∧zcc W b (off+k*8+5) (.int .i64 x.v.h)∧zcc W b (off+k*8+6) (.int .i64 x.v.b)∧zcc W b (off+k*8+7) (.int .i64 x.v.p))) (by kernel_rfl) (HSS.out _ vv) (fun hHeld => ?_);refine kK 0 ?_;refine kK 1 ?_;refine kK 2 ?_;refine kK 3 ?_;refine kK 4 ?_;refine kK 5 ?_;refine kK 6 ?_;refine kK 7 ?_;refine kK 8 ?_;refine kK 9 ?_;refine kK 11 ?_;refine kK 12 ?_;refine kK 13 ?_;refine kK 14 ?_;refine kK 15 ?_;refine kR 10 fun K hK => ?_
   go_simp;refine (zcg id (some ⟨b,off,none⟩) n c l (k:Int) _ (h.below (zc HB.out vv))).mono ?_;rintro e wx ⟨rfl,hbx⟩;have vv:=zc vv hbx;clear hbx;(go_wp2_with fail);refine kO hK (HSS.out _ vv) fun hHeld => ?_
   clear hK K;refine kR 16 fun K hK => ?_
   go_simp;refine (zbu (sayV id l (k:Int)).r (sayV id l (k:Int)).c (sayV id l (k:Int)).h (sayV id l (k:Int)).b (sayV id l (k:Int)).p x.v.r x.v.c x.v.h x.v.b x.v.p _).mono ?_;rintro e wx ⟨rfl,hbx⟩;rw [HL.out];have vv:=zc vv hbx;clear hbx;(go_wp2_with fail);refine kO hK (HSS.out _ vv) fun hHeld => ?_
   clear hK K;refine kK 17 ?_;refine wpAnyH_done (by kernel_rfl) ?_ _;clear hHeld;go_wp2;go_ret;exact ⟨(by rw [HR.out]; rfl),zc HB.out vv⟩

theorem zd7 (id:Int) (a:Option Addr) (n c:Nat) (l:List PT) (w:World) (h:GRow ptF w a n c l) :
  Calls Tryz.prog 58 #[.int .i64 id,.slice a n c] w fun e w'=>e=.returned (.int .i64 (zah id l))∧Below w.heap.size w w':=by
 have hle:=h.le;have htop:=h.top;unfold maxLen at htop;have hsz:=hide h.size;go_enter Tryz.func58,Tryz.ntmps58;go_wp2_with fail
 go_loopw [5,10] (fun s i wr=>∃k:Nat,k≤min n 6∧i=.int .i64 k∧s=.int .i64 (za3 id l k)∧Below w.heap.size w wr) (fun _ i _=>6 - (intOf i).toNat)
 case atStart=>exact ⟨0,Nat.zero_le _,rfl,rfl,Below.refl _ _⟩
 case round =>
  obtain ⟨k,hk,rfl,rfl,hb⟩:=hrel;have hk6:k≤6:=by omega
  generalize hS:za3 id l k=S;have HS:=hide hS;clear hS;by_cases hlt:k < min n 6
  ·have hkn:k < n:=by omega
   have hk5:k < 6:=by omega
   have i1:(0:Int)≤(k:Int):=by omega
   have i2:(k:Int) < (n:Int):=by omega
   have i3:(k:Int) < 6:=by omega
   have hmin:(if (n:Int)≤6 then (n:Int) else 6)=((min n 6:Nat):Int):=by split <;> omega
   have i4:(k:Int) < ((min n 6:Nat):Int):=by omega
   have HB:=hide hb;clear hk hb;(go_wp2_with fail);refine (zhB id a n c l (k:Int) _ (h.below HB.out)).mono ?_;rintro e w2 ⟨rfl,hb2⟩;have HB2:=hide (zc HB.out hb2);have h14:=zjy (id:=id) (l:=l) (k:Int);clear hb2;generalize hR:zaw id l (k:Int)=R at *;have HR:=hide hR;clear hR;by_cases hr:R≤2
   ·have HN:Hid (za3 id l (k+1)=bits .or .i64 S (2 ^ k)):=hide (by rw [za3,HR.out,if_pos hr,HS.out]);have hw2:wrap64 (2 ^ k)=2 ^ k:=by
     rcases (show k=0∨k=1∨k=2∨k=3∨k=4∨k=5 by omega) with rfl | rfl | rfl | rfl | rfl | rfl <;> exact Go.IntWalk.wrap64_in _ (by decide)
    have HW2:=hide hw2;clear hw2;obtain rfl | rfl:R=1∨R=2:=by omega
    ·go_wp2;rw [HW2.out]
     go_roundw
     case rel=>exact ⟨k+1,by omega,by go_num,by rw [HN.out],HB2.out⟩
     case measure=>simp [intOf]; omega
    ·go_wp2;rw [HW2.out]
     go_roundw
     case rel=>exact ⟨k+1,by omega,by go_num,by rw [HN.out],HB2.out⟩
     case measure=>simp [intOf]; omega
   ·have HN:Hid (za3 id l (k+1)=S):=hide (by rw [za3,HR.out,if_neg hr,HS.out]);have hne1:¬R=1:=by omega
    have hne2:¬R=2:=by omega
    go_wp2
    go_roundw
    case rel=>exact ⟨k+1,by omega,by go_num,by rw [HN.out],HB2.out⟩
    case measure=>simp [intOf]; omega
  ·have hkn:k=min n 6:=by omega
   have HK:Hid (zah id l=S):=hide (by unfold zah; rw [hsz.out,← hkn]; exact HS.out);have hend:¬((k:Int) < (n:Int)∧(k:Int) < 6):=by omega
   go_wp2
   all_goals go_ret
   all_goals exact ⟨(by rw [HK.out]; rfl),hb⟩

theorem cell1 {w:World} {g:Nat} {T:TypeId} {v:Value} (h:w.heap[g]? = some (.cells #[v] T)):w.cell? ⟨g,0,none⟩=some v:=by simp [World.cell?,h]

theorem zhP (v:Value) (w:World):(method 351 167 v "loop.example/g00326/impl.number").run Tryz.prog w=.ok (205,v) w:=by kernel_rfl

theorem zba (r:VR) (w:World):Calls Tryz.prog 205 #[.agg #[.int .i64 r.i,.int .i64 r.m,.int .i64 r.b]] w fun e w'=>e=.returned (.int .i64 r.i)∧Below w.heap.size w w':=by
 go_enter Tryz.func205,Tryz.ntmps205;go_wp2;go_ret;exact ⟨rfl,zl _ _⟩

theorem zcf (a:Option Addr) (n c:Nat) (o:Option Addr) (p q:Nat) (w:World):Calls Tryz.prog 171 #[.agg #[.slice a n c,.slice o p q]] w fun e w'=>e=.returned (.slice a n c)∧Below w.heap.size w w':=by
 go_enter Tryz.func171,Tryz.ntmps171;go_wp2;go_ret;exact ⟨rfl,zl _ _⟩

theorem zdx (r:VR) (id:Int) (g:Nat) (w:World) (c:w.heap[g]? = some (.cells #[.int .i64 id] 3)) :
  Calls Tryz.prog 188 #[.agg #[.int .i64 r.i,.int .i64 r.m,.int .i64 r.b],.pointer (some ⟨g,0,none⟩)] w fun e w'=>e=.returned (.bool (r.i == id))∧Below w.heap.size w w':=by
 have hm:=zhP;generalize hw1:w.alloc (Obj.cells #[.int .i64 r.i,.int .i64 r.m,.int .i64 r.b] 167)=w1;have q:=zb hw1;have k0:=zk hw1;have HS:Hid (∀W,Below w1.heap.size w1 W→(zcc W w.heap.size 0 (.int .i64 r.i)∧zcc W w.heap.size 1 (.int .i64 r.m)∧zcc W w.heap.size 2 (.int .i64 r.b))∧zcc W g 0 (.int .i64 id)):=hide (fun W hW=>⟨(zaJ (za k0 hW)).1,cell1 (za (za c q) hW)⟩);clear k0;have vv:Below w1.heap.size w1 w1.drew:=zq (Below.refl _ _);go_enter Tryz.func188,Tryz.ntmps188;go_wp2_with fail
 refine wp_region_held_drew (S:=(fun W=>(zcc W w.heap.size 0 (.int .i64 r.i)∧zcc W w.heap.size 1 (.int .i64 r.m)∧zcc W w.heap.size 2 (.int .i64 r.b))∧zcc W g 0 (.int .i64 id))) (by kernel_rfl) (HS.out _ vv) (fun hHeld => ?_);refine kK 0 ?_;refine kK 1 ?_;refine kK 3 ?_;refine kR 2 fun K hK => ?_
 go_simp;refine (zba r _).mono ?_;rintro e wz ⟨rfl,hbz⟩;have vv:=zc vv hbz;go_wp2_with fail
 refine kO hK (HS.out _ vv) fun hHeld => ?_
 clear hK K;refine kK 4 ?_;refine kK 5 ?_;refine wpAnyH_done (by kernel_rfl) ?_ _;have HB:=hide (zc q vv);clear HS vv q;go_wp2;go_ret;exact ⟨rfl,HB.out⟩

theorem zh1 (a:Option Addr) (n c:Nat) (l:List VR) (id:Int) (g:Nat) (w:World) (h:GRow vrowF w a n c l) (cg:w.heap[g]? = some (.cells #[.int .i64 id] 3)) :
  Calls Tryz.prog 187 #[.slice a n c,.func (.func 188) #[] #[.pointer (some ⟨g,0,none⟩)]] w fun r w'=>r=.returned (.int .i64 (rowAt l id))∧Below w.heap.size w w':=by
 have hle:=h.le;have htop:=h.top;unfold maxLen at htop;have hsz:=h.size;go_enter Tryz.func187,Tryz.ntmps187;go_wp2
 go_loopw [8] (fun i wr=>∃k:Nat,k≤n∧i=.int .i64 k∧(∀(j:Nat) (y:VR),j < k→l[j]? = some y→(y.i == id)=false)∧Below w.heap.size w wr) (fun i _=>n - (intOf i).toNat)
 case atStart=>exact ⟨0,Nat.zero_le _,rfl,fun j y hj=>by omega,Below.refl _ _⟩
 case round =>
  obtain ⟨k,hk,rfl,hno,hb⟩:=hrel;by_cases hlt:k < n
  ·obtain ⟨x,b,off,hx,rfl,c0,c1,c2⟩:=zdR (h.below hb) k hlt;cases t1:(x.i == id)
   ·have HO:=hide (zjG hno hx t1);have HA:=hide t1;have HB:=hide hb;clear t1 hno hb hx;(go_wp2_with fail);refine (zdx x id g _ (za cg HB.out)).mono ?_;rintro r w1 ⟨rfl,hb1⟩;rw [HA.out];have HB1:=hide (zc HB.out hb1);clear hb1 c0 c1 c2;go_wp2
    go_roundw
    case rel=>exact ⟨k+1,by omega,by go_num,HO.out,HB1.out⟩
    case measure=>simp [intOf]; omega
   ·have HF:=hide (zfG hno hx t1);have HA:=hide t1;have HB:=hide hb;clear t1 hno hb hx;(go_wp2_with fail);refine (zdx x id g _ (za cg HB.out)).mono ?_;rintro r w1 ⟨rfl,hb1⟩;rw [HA.out];have HB1:=hide (zc HB.out hb1);clear hb1 c0 c1 c2;go_wp2;go_ret;exact ⟨(by rw [HF.out]; rfl),HB1.out⟩
  ·have hkn:k=n:=by omega
   have HF:=hide (zgA (l:=l) (id:=id) (fun i y hy=>hno i y (by have:=(List.getElem?_eq_some_iff.1 hy).1; omega) hy));have HB:=hide hb;clear hno hb;subst hkn;go_wp2;go_ret;exact ⟨(by rw [HF.out]; rfl),HB.out⟩

theorem zgT (a:Option Addr) (n c:Nat) (l:List VR) (id:Int) (w:World) (h:GRow vrowF w a n c l) :
  Calls Tryz.prog 185 #[.slice a n c,.int .i64 id] w fun r w'=>r=.returned (.int .i64 (rowAt l id))∧Below w.heap.size w w':=by
 have hmf:∀(fn:Fn) (first cap:Array Value) (w:World),(Instr.makeFunc fn first cap).run Tryz.prog w=.ok (.func fn first cap) w:=fun _ _ _ _=>rfl
 have q:=zl w (.cells #[.int .i64 id] 3);go_enter Tryz.func185,Tryz.ntmps185;go_wp2_with fail
 refine (zh1 a n c l id _ _ (h.below q) (zy w _)).mono ?_;rintro r w1 ⟨rfl,hb1⟩;have HB:=hide (zc q hb1);clear hb1 q;go_wp2;go_ret;exact ⟨rfl,HB.out⟩

theorem zd6 (a:Option Addr) (n c:Nat) (l:List VR) (o:Option Addr) (p q:Nat) (id:Int) (w:World) (h:GRow vrowF w a n c l) :
  Calls Tryz.prog 174 #[.agg #[.slice a n c,.slice o p q],.int .i64 id] w fun r w'=>r=.returned (.int .i64 (rowAt l id))∧Below w.heap.size w w':=by
 have q0:=zl w (.cells #[.slice a n c,.slice o p q] 42);go_enter Tryz.func174,Tryz.ntmps174;go_wp2_with fail
 refine (zcf a n c o p q _).mono ?_;rintro r w1 ⟨rfl,hb1⟩;have q1:=zc q0 hb1;clear hb1;go_wp2_with fail
 refine (zgT a n c l id _ (h.below q1)).mono ?_;rintro r w2 ⟨rfl,hb2⟩;have HB:=hide (zc q1 hb2);clear hb2 q1 q0;go_wp2;go_ret;exact ⟨rfl,HB.out⟩

theorem zdV {n port:Int} (h:in3 port 0 7=false):bitOf n port=false:=by
 unfold bitOf;rw [h]
 rfl

theorem zi8 {n:Int} {k:Nat} (h:k≤7):bitOf n (k:Int)=(bits .and .i64 (n / 2 ^ k) 1 == 1):=by
 unfold bitOf in3;rw [Int.toNat_natCast,decide_eq_true (show (0:Int)≤(k:Int) by omega),decide_eq_true (show (k:Int)≤7 by omega)]
 rfl

theorem ziV (n port:Int) (w:World) :
  Calls Tryz.prog 135 #[.int .i64 n,.int .i64 port] w fun e w'=>e=.returned (.bool (bitOf n port))∧w'=w:=by
 cases hin:in3 port 0 7
 ·rw [zdV hin];have HIN:=hide hin;clear hin;go_enter Tryz.func135,Tryz.ntmps135;(go_wp2_with fail);refine (zg port 0 7 _).mono ?_;rintro e w1 ⟨rfl,e1⟩;obtain rfl:=e1.symm;rw [show (decide (0≤port) && decide (port≤7))=false from HIN.out];go_wp2;go_ret;exact ⟨rfl,rfl⟩
 ·have hp:0≤port∧port≤7:=by unfold in3 at hin; simpa using hin
  obtain ⟨k,rfl⟩:∃k:Nat,port=(k:Int):=⟨port.toNat,by omega⟩;rw [zi8 (by omega)];generalize hB:(bits .and .i64 (n / 2 ^ k) 1 == 1)=B;have hwk:IntKind.u64.wrap (k:Int)=(k:Int):=by rw [IntKind.wrap_u64]; omega
  have HIN:=hide hin;clear hin;go_enter Tryz.func135,Tryz.ntmps135;(go_wp2_with fail);refine (zg (k:Int) 0 7 _).mono ?_;rintro e w1 ⟨rfl,e1⟩;obtain rfl:=e1.symm;rw [show (decide (0≤(k:Int)) && decide ((k:Int)≤7))=true from HIN.out];go_wp2;go_ret;exact ⟨zM (by first | rfl | simp [hB]),rfl⟩

def hasP (n port:Int):Bool:=decide (0≤port) && (bits .and .i64 n (2 ^ port.toNat) != 0)

theorem zhs {n port:Int} (hn:I64 n) (h:port≤7∨(port≤9∧0≤n∧n≤63)):hasP n port=bitOf n port:=by
 unfold hasP;by_cases h0:0≤port
 ·obtain ⟨k,rfl⟩:∃k:Nat,port=(k:Int):=⟨port.toNat,by omega⟩;rw [decide_eq_true h0,Bool.true_and,Int.toNat_natCast,zlK n k (by omega) hn];by_cases h7:k≤7
  ·rw [zi8 h7]
  ·rw [zdV (by unfold in3; rw [decide_eq_false (show ¬(k:Int)≤7 by omega),Bool.and_false])];have hn2:0≤n∧n≤63:=by rcases h with h | h <;> omega
   rcases (show k=8∨k=9 by omega) with rfl | rfl
   ·rw [show n / 2 ^ 8=0 by simp; omega]
    decide
   ·rw [show n / 2 ^ 9=0 by simp; omega]
    decide
 ·rw [decide_eq_false h0,Bool.false_and,zdV (by unfold in3; rw [decide_eq_false h0,Bool.false_and])]

theorem zc4 (n port:Int) (hp:port≤9) (w:World) :
  Calls Tryz.prog 57 #[.int .i64 n,.int .i64 port] w fun e w'=>e=.returned (.bool (hasP n port))∧w'=w:=by
 by_cases h0:0≤port
 ·have hx:port=0∨port=1∨port=2∨port=3∨port=4∨port=5∨port=6∨port=7∨port=8∨port=9:=by omega
  rcases hx with rfl | rfl | rfl | rfl | rfl | rfl | rfl | rfl | rfl | rfl
  ·rw [show hasP n 0=(bits .and .i64 n 1 != 0) from rfl];generalize hB:(bits .and .i64 n 1 != 0)=B;go_enter Tryz.func57,Tryz.ntmps57;go_wp2;go_ret;exact ⟨zM (by first | rfl | simp [hB]),rfl⟩
  ·rw [show hasP n 1=(bits .and .i64 n 2 != 0) from rfl];generalize hB:(bits .and .i64 n 2 != 0)=B;go_enter Tryz.func57,Tryz.ntmps57;go_wp2;go_ret;exact ⟨zM (by first | rfl | simp [hB]),rfl⟩
  ·rw [show hasP n 2=(bits .and .i64 n 4 != 0) from rfl];generalize hB:(bits .and .i64 n 4 != 0)=B;go_enter Tryz.func57,Tryz.ntmps57;go_wp2;go_ret;exact ⟨zM (by first | rfl | simp [hB]),rfl⟩
  ·rw [show hasP n 3=(bits .and .i64 n 8 != 0) from rfl];generalize hB:(bits .and .i64 n 8 != 0)=B;go_enter Tryz.func57,Tryz.ntmps57;go_wp2;go_ret;exact ⟨zM (by first | rfl | simp [hB]),rfl⟩
  ·rw [show hasP n 4=(bits .and .i64 n 16 != 0) from rfl];generalize hB:(bits .and .i64 n 16 != 0)=B;go_enter Tryz.func57,Tryz.ntmps57;go_wp2;go_ret;exact ⟨zM (by first | rfl | simp [hB]),rfl⟩
  ·rw [show hasP n 5=(bits .and .i64 n 32 != 0) from rfl];generalize hB:(bits .and .i64 n 32 != 0)=B;go_enter Tryz.func57,Tryz.ntmps57;go_wp2;go_ret;exact ⟨zM (by first | rfl | simp [hB]),rfl⟩
  ·rw [show hasP n 6=(bits .and .i64 n 64 != 0) from rfl];generalize hB:(bits .and .i64 n 64 != 0)=B;go_enter Tryz.func57,Tryz.ntmps57;go_wp2;go_ret;exact ⟨zM (by first | rfl | simp [hB]),rfl⟩
  ·rw [show hasP n 7=(bits .and .i64 n 128 != 0) from rfl];generalize hB:(bits .and .i64 n 128 != 0)=B;go_enter Tryz.func57,Tryz.ntmps57;go_wp2;go_ret;exact ⟨zM (by first | rfl | simp [hB]),rfl⟩
  ·rw [show hasP n 8=(bits .and .i64 n 256 != 0) from rfl];generalize hB:(bits .and .i64 n 256 != 0)=B;go_enter Tryz.func57,Tryz.ntmps57;go_wp2;go_ret;exact ⟨zM (by first | rfl | simp [hB]),rfl⟩
  ·rw [show hasP n 9=(bits .and .i64 n 512 != 0) from rfl];generalize hB:(bits .and .i64 n 512 != 0)=B;go_enter Tryz.func57,Tryz.ntmps57;go_wp2;go_ret;exact ⟨zM (by first | rfl | simp [hB]),rfl⟩
 ·rw [show hasP n port=false by unfold hasP; rw [decide_eq_false h0]; rfl];go_enter Tryz.func57,Tryz.ntmps57;go_wp2;go_ret;exact ⟨rfl,rfl⟩

end Go.Proofs.YtkaefmfopejbaaaGreat
