/-
  Whether a table is right, as the specification has it.
-/
import Derived.Test.YtcpdkcdfnpcemaaGreatPRKW
import Derived.Test.YtcpdkcdfnpcemaaGreatPRK02
namespace Go.Proofs.YtcpdkcdfnpcemaaGreat
set_option maxRecDepth 100000
set_option maxHeartbeats 16000000
open Go.RowKit

theorem zfS (p:Nat) (h1:1≤(p:Int)) (h2:(p:Int)≤6):wrap64 (wrap64 (2 ^ p) - 1)=allOf p:=by
 have h:p=1∨p=2∨p=3∨p=4∨p=5∨p=6:=by omega
 rcases h with rfl | rfl | rfl | rfl | rfl | rfl <;> simp [wrap64,allOf]

def vokTo (A:Int) (l:List VR) (k:Nat):Prop:=∀(i:Nat) (x:VR),i < k→l[i]? = some x→zaY A x=true∧∀y:VR,0 < i→l[i - 1]? = some y→y.i < x.i

theorem zek {A:Int} {l:List VR} {k:Nat} {x:VR} (h:vokTo A l k) (hx:l[k]? = some x) (h1:zaY A x=true) (h2:∀y:VR,0 < k→l[k - 1]? = some y→y.i < x.i):vokTo A l (k+1):=by
 intro i z hi hz;by_cases e:i=k
 ·subst e;rw [hx] at hz;cases hz;exact ⟨h1,h2⟩
 ·exact h i z (by omega) hz

theorem zcX (A:Int):∀(l:List VR),(l.all (zaY A)=true∧vrises l=true)↔vokTo A l l.length
 | []=>by simp [vrises,vokTo]
 | [e]=>by
  simp only [vrises,vokTo,List.length_singleton,List.all_cons,List.all_nil,Bool.and_true,and_true]
  constructor
  ·intro h i x hi hx;have h0:i=0:=by omega
   subst h0
   simp at hx
   subst hx;exact ⟨h,fun y hy=>by omega⟩
  ·intro h;exact (h 0 e (by omega) rfl).1
 | e::f::r=>by
  have ih:=zcX A (f::r);rw [List.all_cons,show vrises (e::f::r)=(decide (e.i < f.i) && vrises (f::r)) from rfl];simp only [Bool.and_eq_true,decide_eq_true_eq]
  constructor
  ·rintro ⟨⟨h1,h3⟩,h2,h4⟩ i x hi hx;have h3:=ih.1 ⟨h3,h4⟩
   match i,hx with
   | 0,hx =>
    simp at hx
    subst hx;exact ⟨h1,fun y hy=>by omega⟩
   | 1,hx =>
    simp at hx
    subst hx;refine ⟨(h3 0 f (by simp) rfl).1,fun y _ hy => ?_⟩
    simp at hy
    subst hy;exact h2
   | i+2,hx =>
    obtain ⟨a1,a2⟩:=h3 (i+1) x (by simp at hi ⊢; omega) (by simpa using hx);exact ⟨a1,fun y _ hy=>a2 y (by omega) (by simpa using hy)⟩
  ·intro h;have h':vokTo A (f::r) (f::r).length:=fun i x hi hx=>by
    obtain ⟨a1,a2⟩:=h (i+1) x (by simp at hi ⊢; omega) (by simpa using hx);refine ⟨a1,fun y hy hz=>a2 y (by omega) ?_⟩;obtain ⟨j,rfl⟩:∃j,i=j+1:=⟨i - 1,by omega⟩
    simpa using hz
   have:=ih.2 h'
   exact ⟨⟨(h 0 e (by simp) rfl).1,this.1⟩,(h 1 f (by simp) rfl).2 e (by omega) rfl,this.2⟩

theorem zdY {v:VT} {p:Nat} (h:¬vokTo (allOf p) v.rows v.rows.length):zO v p=false:=by
 have:=(not_congr (zcX (allOf p) v.rows)).2 h
 unfold zO;rw [Int.toNat_natCast];cases ha:v.rows.all (zaY (allOf p)) <;> cases hr:vrises v.rows <;> simp [ha,hr] at this ⊢

theorem zgh {v:VT} {p:Nat} {i:Int} (hi:i∈v.own) (h:zI v.rows i=none):zO v p=false:=by
 have:v.own.all (fun p=>(zI v.rows p).isSome)=false:=by
  rw [List.all_eq_false];exact ⟨i,hi,by rw [h]; simp⟩
 unfold zO;rw [this]
 simp

theorem zgi {v:VT} {p:Nat} (h1:1≤(p:Int)) (h2:(p:Int)≤6) (hp:v.own.length=p) (hn:v.rows.length≤6) (h:vokTo (allOf p) v.rows v.rows.length) (ho:∀i∈v.own,zI v.rows i≠none):zO v p=true:=by
 obtain ⟨a1,a2⟩:=(zcX (allOf p) v.rows).2 h;have a3:v.own.all (fun p=>(zI v.rows p).isSome)=true:=by
  rw [List.all_eq_true];intro i hi;cases hr:zI v.rows i with
  | none=>exact absurd hr (ho i hi)
  | some k=>rfl
 unfold zO in3;rw [Int.toNat_natCast,a1,a2,a3,hp]
 simp [h1,h2,hn]

def ownTo (v:VT) (k:Nat):Prop:=∀(i:Nat) (x:Int),i < k→v.own[i]? = some x→zI v.rows x≠none

theorem zed {v:VT} {k:Nat} {x:Int} (h:ownTo v k) (hx:v.own[k]? = some x) (hr:zI v.rows x≠none):ownTo v (k+1):=by
 intro i z hi hz;by_cases e:i=k
 ·subst e;rw [hx] at hz;cases hz;exact hr
 ·exact h i z (by omega) hz

theorem ze6 {v:VT} {k:Nat} (h:ownTo v k) (hk:v.own.length≤k) (i:Int) (hi:i∈v.own):zI v.rows i≠none:=by
 obtain ⟨j,hj⟩:=List.mem_iff_getElem?.1 hi;exact h j i (by have:=(List.getElem?_eq_some_iff.1 hj).1; omega) hj

theorem zfD {w:World} {ao:Option Addr} {len cap:Nat} {zs:List Int} (h:IRow w ao len cap zs) (i:Nat) (hi:i < len):∃(x:Int) (b off:Nat),zs[i]? = some x∧ao=some ⟨b,off,none⟩∧w.cell? ⟨b,off+i,none⟩=some (.int .i64 x):=by
 have hl:=h.size;rcases h.cell with h0 | ⟨b,off,ha,hc⟩
 ·omega
 ·refine ⟨zs[i]'(by omega),b,off,List.getElem?_eq_getElem (by omega),ha, ?_⟩;rw [hc i hi,List.getD_eq_getElem?_getD,List.getElem?_eq_getElem (by omega)]
  rfl

theorem zf {w W:World} {g:Addr} {u:Value} (h:w.cell? g=some u) (hb:Below w.heap.size w W):W.cell? g=some u:=(hb.cell (zu h)).trans h

theorem zP {w w1 wr:World} {s t:Value} {T:TypeId} (hw1:w.alloc (Obj.cells #[s,t] T)=w1) (hb:Below w1.heap.size w1 wr):wr.cell? ⟨w.heap.size,0,none⟩=some s∧wr.cell? ⟨w.heap.size,1,none⟩=some t:=by
 subst hw1;have hk:=zcL hb
 constructor <;> simp [World.cell?,hk]

def vrowB (x:VR) (T:TypeId):Obj:=.cells #[.int .i64 x.i,.int .i64 x.m,.int .i64 x.b] T

theorem zM {wr W:World} {x:VR} {T:TypeId} (hb:Below (wr.alloc (vrowB x T)).heap.size (wr.alloc (vrowB x T)) W) :
  (W.cell? ⟨wr.heap.size,0,none⟩=some (.int .i64 x.i)∧W.cell? ⟨wr.heap.size,1,none⟩=some (.int .i64 x.m)∧W.cell? ⟨wr.heap.size,2,none⟩=some (.int .i64 x.b))∧∀(g:Addr) (u:Value),wr.cell? g=some u→W.cell? g=some u:=by
 have hk:=zcL hb;unfold vrowB at hk;refine ⟨⟨?_, ?_, ?_⟩,fun g u hg => ?_⟩
 ·simp [World.cell?,hk]
 ·simp [World.cell?,hk]
 ·simp [World.cell?,hk]
 have h1:=((zh wr (vrowB x T)).cell (zu hg)).trans hg;exact (hb.cell (zu h1)).trans h1

theorem zS (a:Option Addr) (n c:Nat) (o:Option Addr) (p q:Nat) (v:VT) (ports:Int) (w:World) (h:VTab w a n c o p q v) :
  Calls Tryz.prog 58 #[.agg #[.slice a n c,.slice o p q],.int .i64 ports] w fun r w'=>r=.returned (.bool (zO v ports))∧Below w.heap.size w w':=by
 have hle:=h.rows.le;have htop:=h.rows.top;have hle2:=h.own.le;have htop2:=h.own.top;unfold maxLen at htop htop2;have hsz:=h.rows.size;have hsz2:=h.own.size;have hW:Below w.heap.size w (w.alloc (Obj.cells #[Value.slice a n c,Value.slice o p q] 29)):=zh _ _;have h:=h.below hW;cases t1:(decide (1≤ports) && decide (ports≤6))
 ·have HN:Hid (zO v ports=false):=hide (by unfold zO in3; rw [t1]; simp);have T1:=hide t1;clear t1;go_enter Tryz.func58,Tryz.ntmps58;go_wp2_with (refine (zi ports 1 6 _).mono ?_; rintro r w1 ⟨rfl,rfl⟩; rw [T1.out])
  go_ret;exact ⟨zH HN.out.symm,hW⟩
 ·have T1:=hide t1
  simp at t1
  by_cases t2:(p:Int)=ports
  ·by_cases t3:n≤6
   ·subst t2;go_enter Tryz.func58,Tryz.ntmps58;go_wp2_with (refine (zi (p:Int) 1 6 _).mono ?_; rintro r w1 ⟨rfl,rfl⟩; rw [T1.out])
    rw [zfS p t1.1 t1.2];generalize hA:allOf p=A;generalize hw1:w.alloc (Obj.cells #[Value.slice a n c,Value.slice o p q] 29)=w1;rw [hw1] at h hW
    go_loopw [6] (fun i wr=>∃k:Nat,k≤n∧i=.int .i64 k∧vokTo A v.rows k∧Below w1.heap.size w1 wr) (fun i _=>n - (intOf i).toNat)
    case atStart=>exact ⟨0,Nat.zero_le _,rfl,fun i x hi=>by omega,Below.refl _ _⟩
    case round =>
     obtain ⟨k,hk,rfl,hok,hb⟩:=hrel;have b1:=zP hw1 hb;by_cases hlt:k < n
     ·obtain ⟨x,b,off,hx,rfl,c0,c1,c2⟩:=zaI (h.rows.below hb) k hlt;have hrb:=h.rows.below hb;have HB:=hide hb;clear hb;(go_wp2_with fail);have vv:Below (wr.alloc (vrowB x 119)).heap.size (wr.alloc (vrowB x 119)) (wr.alloc (vrowB x 119)).drew:=zr (Below.refl _ _);cases t4:(decide (1≤x.i) && decide (x.i≤99))
      ·have X1:=hide t4;have HN:=hide (zdY (v:=v) (p:=p) (fun hall=>by have:=(hall k x (by omega) hx).1; unfold zaY in3 at this; rw [hA] at this; rw [t4] at this; simp at this));clear t4 hok;refine wp_region_held_drew (S:=(fun W=>(zcc W wr.heap.size 0 (.int .i64 x.i)∧zcc W wr.heap.size 1 (.int .i64 x.m)∧zcc W wr.heap.size 2 (.int .i64 x.b)))) (by kernel_rfl) ((zM vv).1) (fun hHeld => ?_);refine kK 0 ?_;refine kK 1 ?_;refine kR 2 fun K hK => ?_
       go_simp;refine (zi x.i 1 99 _).mono ?_;rintro r wx ⟨rfl,rfl⟩;rw [X1.out];(go_wp2_with fail);refine kO hK ((zM vv).1) fun hHeld => ?_
       clear hK K;refine kK 3 ?_;refine kK 4 ?_;refine kN 5 ?_;refine kN 6 ?_;refine kN 7 ?_;refine kN 8 ?_;refine kN 9 ?_;refine kK 10 ?_;refine kK 11 ?_;refine kN 12 ?_;refine kN 13 ?_;refine kN 14 ?_;refine kN 15 ?_;refine kN 16 ?_;refine kK 17 ?_;refine kK 18 ?_;refine kN 19 ?_;refine kN 20 ?_;refine kN 21 ?_;refine kN 22 ?_;refine kN 23 ?_;refine kN 24 ?_;refine kN 25 ?_;refine kN 26 ?_;refine kK 27 ?_;refine kK 28 ?_;refine kN 29 ?_;refine kN 30 ?_;refine kN 31 ?_;refine kN 32 ?_;refine kN 33 ?_;refine kN 34 ?_;refine kN 35 ?_;refine kN 36 ?_;refine kN 37 ?_;refine kN 38 ?_;refine kN 39 ?_;refine kN 40 ?_;refine kN 41 ?_;refine kN 42 ?_;refine kK 43 ?_;refine wpAnyH_done (by kernel_rfl) ?_ _;go_wp2;go_ret;exact ⟨zH HN.out.symm,zd hW (zd HB.out (zd (zh _ _) vv))⟩
      cases t5:(decide (0≤x.m) && decide (x.m≤A))
      ·have X1:=hide t4;have X2:=hide t5;have HN:=hide (zdY (v:=v) (p:=p) (fun hall=>by have:=(hall k x (by omega) hx).1; unfold zaY in3 at this; rw [hA] at this; rw [t5] at this; simp at this));clear t4 t5 hok;refine wp_region_held_drew (S:=(fun W=>(zcc W wr.heap.size 0 (.int .i64 x.i)∧zcc W wr.heap.size 1 (.int .i64 x.m)∧zcc W wr.heap.size 2 (.int .i64 x.b)))) (by kernel_rfl) ((zM vv).1) (fun hHeld => ?_);refine kK 0 ?_;refine kK 1 ?_;refine kR 2 fun K hK => ?_
       go_simp;refine (zi x.i 1 99 _).mono ?_;rintro r wx ⟨rfl,rfl⟩;rw [X1.out];(go_wp2_with fail);refine kO hK ((zM vv).1) fun hHeld => ?_
       clear hK K;refine kK 3 ?_;refine kK 4 ?_;refine kK 5 ?_;refine kK 6 ?_;refine kK 7 ?_;refine kR 8 fun K hK => ?_
       go_simp;refine (zi x.m 0 A _).mono ?_;rintro r wx ⟨rfl,rfl⟩;rw [X2.out];(go_wp2_with fail);refine kO hK ((zM vv).1) fun hHeld => ?_
       clear hK K;refine kK 9 ?_;refine kK 10 ?_;refine kK 11 ?_;refine kN 12 ?_;refine kN 13 ?_;refine kN 14 ?_;refine kN 15 ?_;refine kN 16 ?_;refine kK 17 ?_;refine kK 18 ?_;refine kN 19 ?_;refine kN 20 ?_;refine kN 21 ?_;refine kN 22 ?_;refine kN 23 ?_;refine kN 24 ?_;refine kN 25 ?_;refine kN 26 ?_;refine kK 27 ?_;refine kK 28 ?_;refine kN 29 ?_;refine kN 30 ?_;refine kN 31 ?_;refine kN 32 ?_;refine kN 33 ?_;refine kN 34 ?_;refine kN 35 ?_;refine kN 36 ?_;refine kN 37 ?_;refine kN 38 ?_;refine kN 39 ?_;refine kN 40 ?_;refine kN 41 ?_;refine kN 42 ?_;refine kK 43 ?_;refine wpAnyH_done (by kernel_rfl) ?_ _;go_wp2;go_ret;exact ⟨zH HN.out.symm,zd hW (zd HB.out (zd (zh _ _) vv))⟩
      cases t6:(decide (0≤x.b) && decide (x.b≤A))
      ·have X1:=hide t4;have X2:=hide t5;have X3:=hide t6;have HN:=hide (zdY (v:=v) (p:=p) (fun hall=>by have:=(hall k x (by omega) hx).1; unfold zaY in3 at this; rw [hA] at this; rw [t6] at this; simp at this));clear t4 t5 t6 hok;refine wp_region_held_drew (S:=(fun W=>(zcc W wr.heap.size 0 (.int .i64 x.i)∧zcc W wr.heap.size 1 (.int .i64 x.m)∧zcc W wr.heap.size 2 (.int .i64 x.b)))) (by kernel_rfl) ((zM vv).1) (fun hHeld => ?_);refine kK 0 ?_;refine kK 1 ?_;refine kR 2 fun K hK => ?_
       go_simp;refine (zi x.i 1 99 _).mono ?_;rintro r wx ⟨rfl,rfl⟩;rw [X1.out];(go_wp2_with fail);refine kO hK ((zM vv).1) fun hHeld => ?_
       clear hK K;refine kK 3 ?_;refine kK 4 ?_;refine kK 5 ?_;refine kK 6 ?_;refine kK 7 ?_;refine kR 8 fun K hK => ?_
       go_simp;refine (zi x.m 0 A _).mono ?_;rintro r wx ⟨rfl,rfl⟩;rw [X2.out];(go_wp2_with fail);refine kO hK ((zM vv).1) fun hHeld => ?_
       clear hK K;refine kK 9 ?_;refine kK 10 ?_;refine kK 11 ?_;refine kK 12 ?_;refine kK 13 ?_;refine kK 14 ?_;refine kR 15 fun K hK => ?_
       go_simp;refine (zi x.b 0 A _).mono ?_;rintro r wx ⟨rfl,rfl⟩;rw [X3.out];(go_wp2_with fail);refine kO hK ((zM vv).1) fun hHeld => ?_
       clear hK K;refine kK 16 ?_;refine kK 17 ?_;refine kK 18 ?_;refine kN 19 ?_;refine kN 20 ?_;refine kN 21 ?_;refine kN 22 ?_;refine kN 23 ?_;refine kN 24 ?_;refine kN 25 ?_;refine kN 26 ?_;refine kK 27 ?_;refine kK 28 ?_;refine kN 29 ?_;refine kN 30 ?_;refine kN 31 ?_;refine kN 32 ?_;refine kN 33 ?_;refine kN 34 ?_;refine kN 35 ?_;refine kN 36 ?_;refine kN 37 ?_;refine kN 38 ?_;refine kN 39 ?_;refine kN 40 ?_;refine kN 41 ?_;refine kN 42 ?_;refine kK 43 ?_;refine wpAnyH_done (by kernel_rfl) ?_ _;go_wp2;go_ret;exact ⟨zH HN.out.symm,zd hW (zd HB.out (zd (zh _ _) vv))⟩
      cases t7:(bits .and .i64 x.b x.m != x.b);rotate_left
      ·have X1:=hide t4;have X2:=hide t5;have X3:=hide t6;have HN:=hide (zdY (v:=v) (p:=p) (fun hall=>by have:=(hall k x (by omega) hx).1; unfold zaY in3 at this; rw [hA] at this; simp only [Bool.and_eq_true] at this; have h7:=this.2; simp at h7 t7; exact t7 h7));clear t4 t5 t6 hok;refine wp_region_held_drew (S:=(fun W=>(zcc W wr.heap.size 0 (.int .i64 x.i)∧zcc W wr.heap.size 1 (.int .i64 x.m)∧zcc W wr.heap.size 2 (.int .i64 x.b)))) (by kernel_rfl) ((zM vv).1) (fun hHeld => ?_);refine kK 0 ?_;refine kK 1 ?_;refine kR 2 fun K hK => ?_
       go_simp;refine (zi x.i 1 99 _).mono ?_;rintro r wx ⟨rfl,rfl⟩;rw [X1.out];(go_wp2_with fail);refine kO hK ((zM vv).1) fun hHeld => ?_
       clear hK K;refine kK 3 ?_;refine kK 4 ?_;refine kK 5 ?_;refine kK 6 ?_;refine kK 7 ?_;refine kR 8 fun K hK => ?_
       go_simp;refine (zi x.m 0 A _).mono ?_;rintro r wx ⟨rfl,rfl⟩;rw [X2.out];(go_wp2_with fail);refine kO hK ((zM vv).1) fun hHeld => ?_
       clear hK K;refine kK 9 ?_;refine kK 10 ?_;refine kK 11 ?_;refine kK 12 ?_;refine kK 13 ?_;refine kK 14 ?_;refine kR 15 fun K hK => ?_
       go_simp;refine (zi x.b 0 A _).mono ?_;rintro r wx ⟨rfl,rfl⟩;rw [X3.out];(go_wp2_with fail);refine kO hK ((zM vv).1) fun hHeld => ?_
       clear hK K;refine kK 16 ?_;refine kK 17 ?_;refine kK 18 ?_;refine kK 19 ?_;refine kK 20 ?_;refine kK 21 ?_;refine kK 22 ?_;refine kK 23 ?_;refine kK 24 ?_;refine kK 25 ?_;refine kK 26 ?_;refine kK 27 ?_;refine kK 28 ?_;refine kN 29 ?_;refine kN 30 ?_;refine kN 31 ?_;refine kN 32 ?_;refine kN 33 ?_;refine kN 34 ?_;refine kN 35 ?_;refine kN 36 ?_;refine kN 37 ?_;refine kN 38 ?_;refine kN 39 ?_;refine kN 40 ?_;refine kN 41 ?_;refine kN 42 ?_;refine kK 43 ?_;refine wpAnyH_done (by kernel_rfl) ?_ _;go_wp2;go_ret;exact ⟨zH HN.out.symm,zd hW (zd HB.out (zd (zh _ _) vv))⟩
      have hrow:zaY A x=true:=by
       unfold zaY in3;rw [t4,t5,t6]
       simp at t7 ⊢
       exact t7
      have X1:=hide t4;have X2:=hide t5;have X3:=hide t6;clear t4 t5 t6;by_cases hk0:k=0
      ·have HO:=hide (zek hok hx hrow (fun y hy=>by omega));have hgt:¬0 < k:=by omega
       clear hok hk0 hrow;refine wp_region_held_drew (S:=(fun W=>(zcc W wr.heap.size 0 (.int .i64 x.i)∧zcc W wr.heap.size 1 (.int .i64 x.m)∧zcc W wr.heap.size 2 (.int .i64 x.b)))) (by kernel_rfl) ((zM vv).1) (fun hHeld => ?_);refine kK 0 ?_;refine kK 1 ?_;refine kR 2 fun K hK => ?_
       go_simp;refine (zi x.i 1 99 _).mono ?_;rintro r wx ⟨rfl,rfl⟩;rw [X1.out];(go_wp2_with fail);refine kO hK ((zM vv).1) fun hHeld => ?_
       clear hK K;refine kK 3 ?_;refine kK 4 ?_;refine kK 5 ?_;refine kK 6 ?_;refine kK 7 ?_;refine kR 8 fun K hK => ?_
       go_simp;refine (zi x.m 0 A _).mono ?_;rintro r wx ⟨rfl,rfl⟩;rw [X2.out];(go_wp2_with fail);refine kO hK ((zM vv).1) fun hHeld => ?_
       clear hK K;refine kK 9 ?_;refine kK 10 ?_;refine kK 11 ?_;refine kK 12 ?_;refine kK 13 ?_;refine kK 14 ?_;refine kR 15 fun K hK => ?_
       go_simp;refine (zi x.b 0 A _).mono ?_;rintro r wx ⟨rfl,rfl⟩;rw [X3.out];(go_wp2_with fail);refine kO hK ((zM vv).1) fun hHeld => ?_
       clear hK K;refine kK 16 ?_;refine kK 17 ?_;refine kK 18 ?_;refine kK 19 ?_;refine kK 20 ?_;refine kK 21 ?_;refine kK 22 ?_;refine kK 23 ?_;refine kK 24 ?_;refine kK 25 ?_;refine kK 26 ?_;refine kK 27 ?_;refine kK 28 ?_;refine kK 29 ?_;refine kV 30 (.bool false) ?_;refine kK 31 ?_;refine kN 32 ?_;refine kN 33 ?_;refine kN 34 ?_;refine kN 35 ?_;refine kN 36 ?_;refine kN 37 ?_;refine kN 38 ?_;refine kN 39 ?_;refine kN 40 ?_;refine kN 41 ?_;refine kK 42 ?_;refine kK 43 ?_;refine wpAnyH_done (by kernel_rfl) ?_ _;go_wp2
       go_roundw
       case rel=>exact ⟨k+1,by omega,by go_num,HO.out,zd HB.out (zd (zh _ _) vv)⟩
       case measure=>simp [intOf]; omega
      obtain ⟨j,hj⟩:∃j:Nat,k=j+1:=⟨k - 1,by omega⟩;obtain ⟨y,b',off',hy,e,d0,-,-⟩:=zaI hrb j (by omega);cases e;have hgt:0 < k:=by omega
      have hw:IntKind.i64.wrap ((k:Int) - 1)=(j:Int):=by rw [IntKind.wrap_i64]; omega
      have i3:(0:Int)≤(j:Int):=by omega
      have i4:(j:Int) < (n:Int):=by omega
      by_cases hlty:x.i≤y.i
      ·have HN:=hide (zdY (v:=v) (p:=p) (fun hall=>by have:=(hall k x (by omega) hx).2 y (by omega) (by rw [show k - 1=j by omega]; exact hy); omega));have HJ:=hide hj;clear hok hk0 hj hrow;refine wp_region_held_drew (S:=(fun W=>(zcc W wr.heap.size 0 (.int .i64 x.i)∧zcc W wr.heap.size 1 (.int .i64 x.m)∧zcc W wr.heap.size 2 (.int .i64 x.b))∧zcc W w.heap.size 0 (.slice (some ⟨b,off,none⟩) n c)∧zcc W b (off+j*3) (.int .i64 y.i))) (by kernel_rfl) (⟨(zM vv).1,(zM vv).2 _ _ b1.1,(zM vv).2 _ _ d0⟩) (fun hHeld => ?_);refine kK 0 ?_;refine kK 1 ?_;refine kR 2 fun K hK => ?_
       go_simp;refine (zi x.i 1 99 _).mono ?_;rintro r wx ⟨rfl,rfl⟩;rw [X1.out];(go_wp2_with fail);refine kO hK (⟨(zM vv).1,(zM vv).2 _ _ b1.1,(zM vv).2 _ _ d0⟩) fun hHeld => ?_
       clear hK K;refine kK 3 ?_;refine kK 4 ?_;refine kK 5 ?_;refine kK 6 ?_;refine kK 7 ?_;refine kR 8 fun K hK => ?_
       go_simp;refine (zi x.m 0 A _).mono ?_;rintro r wx ⟨rfl,rfl⟩;rw [X2.out];(go_wp2_with fail);refine kO hK (⟨(zM vv).1,(zM vv).2 _ _ b1.1,(zM vv).2 _ _ d0⟩) fun hHeld => ?_
       clear hK K;refine kK 9 ?_;refine kK 10 ?_;refine kK 11 ?_;refine kK 12 ?_;refine kK 13 ?_;refine kK 14 ?_;refine kR 15 fun K hK => ?_
       go_simp;refine (zi x.b 0 A _).mono ?_;rintro r wx ⟨rfl,rfl⟩;rw [X3.out];(go_wp2_with fail);refine kO hK (⟨(zM vv).1,(zM vv).2 _ _ b1.1,(zM vv).2 _ _ d0⟩) fun hHeld => ?_
       clear hK K;refine kK 16 ?_;refine kK 17 ?_;refine kK 18 ?_;refine kK 19 ?_;refine kK 20 ?_;refine kK 21 ?_;refine kK 22 ?_;refine kK 23 ?_;refine kK 24 ?_;refine kK 25 ?_;refine kK 26 ?_;refine kK 27 ?_;refine kK 28 ?_;refine kK 29 ?_;refine kV 30 (.bool true) ?_;refine kK 31 ?_;refine kK 32 ?_;refine kK 33 ?_;refine kK 34 ?_;refine kK 35 ?_;refine kK 36 ?_;refine kK 37 ?_;refine kK 38 ?_;refine kK 39 ?_;refine kK 40 ?_;refine kK 41 ?_;refine kK 42 ?_;refine kK 43 ?_;refine wpAnyH_done (by kernel_rfl) ?_ _;go_wp2;go_ret;exact ⟨zH HN.out.symm,zd hW (zd HB.out (zd (zh _ _) vv))⟩
      ·have HO:=hide (zek hok hx hrow (fun z _ hz=>by rw [show k - 1=j by omega,hy] at hz; cases hz; omega));have HJ:=hide hj;clear hok hk0 hj hrow;refine wp_region_held_drew (S:=(fun W=>(zcc W wr.heap.size 0 (.int .i64 x.i)∧zcc W wr.heap.size 1 (.int .i64 x.m)∧zcc W wr.heap.size 2 (.int .i64 x.b))∧zcc W w.heap.size 0 (.slice (some ⟨b,off,none⟩) n c)∧zcc W b (off+j*3) (.int .i64 y.i))) (by kernel_rfl) (⟨(zM vv).1,(zM vv).2 _ _ b1.1,(zM vv).2 _ _ d0⟩) (fun hHeld => ?_);refine kK 0 ?_;refine kK 1 ?_;refine kR 2 fun K hK => ?_
       go_simp;refine (zi x.i 1 99 _).mono ?_;rintro r wx ⟨rfl,rfl⟩;rw [X1.out];(go_wp2_with fail);refine kO hK (⟨(zM vv).1,(zM vv).2 _ _ b1.1,(zM vv).2 _ _ d0⟩) fun hHeld => ?_
       clear hK K;refine kK 3 ?_;refine kK 4 ?_;refine kK 5 ?_;refine kK 6 ?_;refine kK 7 ?_;refine kR 8 fun K hK => ?_
       go_simp;refine (zi x.m 0 A _).mono ?_;rintro r wx ⟨rfl,rfl⟩;rw [X2.out];(go_wp2_with fail);refine kO hK (⟨(zM vv).1,(zM vv).2 _ _ b1.1,(zM vv).2 _ _ d0⟩) fun hHeld => ?_
       clear hK K;refine kK 9 ?_;refine kK 10 ?_;refine kK 11 ?_;refine kK 12 ?_;refine kK 13 ?_;refine kK 14 ?_;refine kR 15 fun K hK => ?_
       go_simp;refine (zi x.b 0 A _).mono ?_;rintro r wx ⟨rfl,rfl⟩;rw [X3.out];(go_wp2_with fail);refine kO hK (⟨(zM vv).1,(zM vv).2 _ _ b1.1,(zM vv).2 _ _ d0⟩) fun hHeld => ?_
       clear hK K;refine kK 16 ?_;refine kK 17 ?_;refine kK 18 ?_;refine kK 19 ?_;refine kK 20 ?_;refine kK 21 ?_;refine kK 22 ?_;refine kK 23 ?_;refine kK 24 ?_;refine kK 25 ?_;refine kK 26 ?_;refine kK 27 ?_;refine kK 28 ?_;refine kK 29 ?_;refine kV 30 (.bool true) ?_;refine kK 31 ?_;refine kK 32 ?_;refine kK 33 ?_;refine kK 34 ?_;refine kK 35 ?_;refine kK 36 ?_;refine kK 37 ?_;refine kK 38 ?_;refine kK 39 ?_;refine kK 40 ?_;refine kK 41 ?_;refine kK 42 ?_;refine kK 43 ?_;refine wpAnyH_done (by kernel_rfl) ?_ _;go_wp2
       go_roundw
       case rel=>exact ⟨k+1,by omega,by go_num,HO.out,zd HB.out (zd (zh _ _) vv)⟩
       case measure=>simp [intOf]; omega
     ·have hkn:n=k:=by omega
      subst hkn;have hall:vokTo A v.rows v.rows.length:=by rw [hsz]; exact hok
      have HB:=hide hb;have HH:=hide hall;clear hb hok hall;(go_wp2_with fail)
      go_loopw [8] (fun i wx=>∃j:Nat,j≤p∧i=.int .i64 j∧ownTo v j∧Below w1.heap.size w1 wx) (fun i _=>p - (intOf i).toNat)
      case atStart=>exact ⟨0,Nat.zero_le _,rfl,fun i x hi=>by omega,HB.out⟩
      case round =>
       obtain ⟨j,hj,rfl,hown,hb⟩:=hrel;have b2:=zP hw1 hb;have hrows:=h.rows.below hb;by_cases hltj:j < p
       ·obtain ⟨z,bo,oo,hz0,rfl,hz⟩:=zfD (h.own.below hb) j hltj;have HB2:=hide hb;clear hb;have i3:(0:Int)≤(j:Int):=by omega
        have i4:(j:Int) < (p:Int):=by omega
        have vv:Below wr.heap.size wr wr.drew:=zr (Below.refl _ _);cases hrz:zI v.rows z with
        | none =>
         have HN:=hide (zgh (v:=v) (p:=p) (List.mem_of_getElem? hz0) hrz);have HR:Hid (rowAt v.rows z = -1):=hide (by unfold rowAt; rw [hrz]);clear hown hrz;(go_wp2_with fail);refine wp_region_held_drew (S:=(fun W=>zcc W w.heap.size 0 (.slice a n c)∧zcc W w.heap.size 1 (.slice (some ⟨bo,oo,none⟩) p q)∧zcc W bo (oo+j) (.int .i64 z))) (by kernel_rfl) (⟨zf b2.1 vv,zf b2.2 vv,zf hz vv⟩) (fun hHeld => ?_);refine kK 0 ?_;refine kK 1 ?_;refine kK 2 ?_;refine kK 3 ?_;refine kK 4 ?_;refine kK 5 ?_;refine kR 6 fun K hK => ?_
         go_simp;refine (zbe a n c v.rows (some ⟨bo,oo,none⟩) p q z _ (hrows.below vv)).mono ?_;rintro r wx ⟨rfl,hbx⟩;rw [HR.out];have vv:=zd vv hbx;(go_wp2_with fail);refine kO hK (⟨zf b2.1 vv,zf b2.2 vv,zf hz vv⟩) fun hHeld => ?_
         clear hK K;refine kK 7 ?_;refine wpAnyH_done (by kernel_rfl) ?_ _;go_wp2;go_ret;exact ⟨zH HN.out.symm,zd hW (zd HB2.out vv)⟩
        | some kz =>
         have HO:=hide (zed hown hz0 (by rw [hrz]; simp));have HR:Hid (rowAt v.rows z=(kz:Int)):=hide (by unfold rowAt; rw [hrz]);clear hown hrz;(go_wp2_with fail);refine wp_region_held_drew (S:=(fun W=>zcc W w.heap.size 0 (.slice a n c)∧zcc W w.heap.size 1 (.slice (some ⟨bo,oo,none⟩) p q)∧zcc W bo (oo+j) (.int .i64 z))) (by kernel_rfl) (⟨zf b2.1 vv,zf b2.2 vv,zf hz vv⟩) (fun hHeld => ?_);refine kK 0 ?_;refine kK 1 ?_;refine kK 2 ?_;refine kK 3 ?_;refine kK 4 ?_;refine kK 5 ?_;refine kR 6 fun K hK => ?_
         go_simp;refine (zbe a n c v.rows (some ⟨bo,oo,none⟩) p q z _ (hrows.below vv)).mono ?_;rintro r wx ⟨rfl,hbx⟩;rw [HR.out];have vv:=zd vv hbx;(go_wp2_with fail);refine kO hK (⟨zf b2.1 vv,zf b2.2 vv,zf hz vv⟩) fun hHeld => ?_
         clear hK K;refine kK 7 ?_;refine wpAnyH_done (by kernel_rfl) ?_ _;go_wp2
         go_roundw
         case rel=>exact ⟨j+1,by omega,by go_num,HO.out,zd HB2.out vv⟩
         case measure=>simp [intOf]; omega
       ·have HN:=hide (zgi (v:=v) (p:=p) t1.1 t1.2 hsz2 (by omega) (by rw [hA]; exact HH.out) (fun i hi=>ze6 hown (by omega) i hi));have HB2:=hide hb;clear hb hown;have hjp:p=j:=by omega
        subst hjp;go_wp2;go_ret;exact ⟨zH HN.out.symm,zd hW HB2.out⟩
   ·have HN:Hid (zO v ports=false):=hide (by unfold zO; rw [hsz]; simp [t3]);subst t2;go_enter Tryz.func58,Tryz.ntmps58;go_wp2_with (refine (zi (p:Int) 1 6 _).mono ?_; rintro r w1 ⟨rfl,rfl⟩; rw [T1.out])
    go_ret;exact ⟨zH HN.out.symm,hW⟩
  ·have HN:Hid (zO v ports=false):=hide (by unfold zO; rw [hsz2]; simp [t2]);go_enter Tryz.func58,Tryz.ntmps58;go_wp2_with (refine (zi ports 1 6 _).mono ?_; rintro r w1 ⟨rfl,rfl⟩; rw [T1.out])
   go_ret;exact ⟨zH HN.out.symm,hW⟩

end Go.Proofs.YtcpdkcdfnpcemaaGreat
