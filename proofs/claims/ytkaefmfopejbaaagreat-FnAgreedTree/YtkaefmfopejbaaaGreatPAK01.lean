/-
  Packed: SetMath Base Help Mem Flat FlatOwn VecHelp Pieces Num Tlv GetNum VecMath FrameHelp VecSpec PtMem.
-/
import Derived.Test.YtkaefmfopejbaaaGreatRows
import Derived.WalkKit
import Derived.WalkSpells
import Derived.WalkLawsBesides
import Derived.Deep.QuietTactic
import Derived.BigQuiet
import Derived.Laws.AppendOwnNone
import Derived.Deep.RegionWith
import Derived.Deep.RegionLaw
import Derived.Deep.RegionHeld
import Derived.Lib.SmallJoins
namespace Go.Proofs.YtkaefmfopejbaaaGreat
set_option maxRecDepth 100000
set_option maxHeartbeats 16000000
open Go.RowKit

theorem zb {w w1:World} {o:Obj} (h:w.alloc o=w1):Below w.heap.size w w1:=h▸(Below.refl _ _).alloc (Nat.le_refl _) o

theorem zk {w w1:World} {o:Obj} (h:w.alloc o=w1):w1.heap[w.heap.size]? = some o:=by
 subst h
 show (w.heap.push o)[w.heap.size]? = _
 simp

abbrev zcc (W:World) (b j:Nat) (v:Value):Prop:=W.cell? ⟨b,j,none⟩=some v

theorem lA {α:Type} (l:List α) (i:Nat) (a:α):l.toArray.setIfInBounds i a=(l.set i a).toArray:=List.setIfInBounds_toArray ..

theorem lB {α:Type} (a b:α) (l:List α):(a::l).set 0 b=b::l:=List.set_cons_zero

theorem lC {α:Type} (a b:α) (l:List α) (n:Nat):(a::l).set (n+1) b=a::l.set n b:=List.set_cons_succ

section


structure T3 where
 r:Int
 c:Int
 h:Int

structure Gr (m:Nat) (id:Nat→Int) (E:Nat→Nat→Nat→Int→Prop):Prop where
 lt:∀u v q k,E u v q k→u < m∧v < m
 cost:∀u v q k,E u v q k→1≤k∧k≤1000
 apart:∀u v,u < m→v < m→id u=id v→u=v
 port:∀u v q k,E u v q k→q < 8
 pos:∀u,u < m→0≤id u
 six:m≤6

def Wlk (E:Nat→Nat→Nat→Int→Prop) (x:Nat):Nat→Nat→Int→Prop
 | 0,u,c=>u=x∧c=0
 | h+1,u,c=>∃v q k c',Wlk E x h v c'∧E u v q k∧c=c'+k

def Least (E:Nat→Nat→Nat→Int→Prop) (x u:Nat) (c:Int):Prop:=(∃h,Wlk E x h u c)∧∀h c',Wlk E x h u c'→c≤c'

def Tree (E:Nat→Nat→Nat→Int→Prop) (id:Nat→Int) (x:Nat):Nat→Nat→Int→Prop
 | 0,u,c=>u=x∧c=0
 | n+1,u,c=>Least E x u c∧∃v q k,E u v q k∧Tree E id x n v (c - k)∧∀v' q' k',E u v' q' k'→(∃h,Wlk E x h v' (c - k'))→id v < id v'∨(id v=id v'∧q≤q')

section
variable {m:Nat} {id:Nat→Int} {E:Nat→Nat→Nat→Int→Prop}

theorem zdc (g:Gr m id E) {x:Nat}:∀{h u:Nat} {c:Int},Wlk E x h u c→0≤c∧c≤1000*h∧(h=0∨1≤c)
 | 0,u,c,hw=>by
  obtain ⟨-,rfl⟩:=hw;omega
 | h+1,u,c,hw=>by
  obtain ⟨v,q,k,c',hv,he,rfl⟩:=hw
  have:=zdc g hv
  have:=g.cost _ _ _ _ he
  omega

theorem zfx {P:Nat→Prop}:∀n,P n→∃k,P k∧∀j,P j→k≤j:=by
 intro n
 induction n using Nat.strongRecOn with
 | ind n ih =>
  intro hn;by_cases h:∃j,j < n∧P j
  ·obtain ⟨j,hj,hp⟩:=h;exact ih j hj hp
  ·exact ⟨n,hn,fun j hj=>Nat.le_of_not_lt (fun hc=>h ⟨j,hc,hj⟩)⟩

theorem ziD (g:Gr m id E) {x u h:Nat} {c:Int} (hw:Wlk E x h u c):∃c',Least E x u c'∧c'≤c:=by
 obtain ⟨k,⟨h',hk⟩,hl⟩:=zfx (P:=fun n=>∃h,Wlk E x h u (n:Int)) c.toNat ⟨h,by
  have:=zdc g hw
  rw [show ((c.toNat:Nat):Int)=c by omega];exact hw⟩
 have key:∀h c',Wlk E x h u c'→(k:Int)≤c':=fun h2 c' hw2=>by
  have h3:=zdc g hw2
  have:=hl c'.toNat ⟨h2,by rw [show ((c'.toNat:Nat):Int)=c' by omega]; exact hw2⟩
  omega
 exact ⟨k,⟨⟨h',hk⟩,key⟩,key _ _ hw⟩

theorem zhI {x u:Nat} {c c':Int} (h:Least E x u c) (h':Least E x u c'):c=c':=by
 obtain ⟨⟨a,ha⟩,hl⟩:=h;obtain ⟨⟨b,hb⟩,hl'⟩:=h'
 have:=hl _ _ hb
 have:=hl' _ _ ha
 omega

theorem zgo (g:Gr m id E) (x:Nat):Least E x x 0:=⟨⟨0,rfl,rfl⟩,fun _ _ hw=>(zdc g hw).1⟩

theorem zhH {x u v q:Nat} {c k:Int} (h:Least E x u c) (he:E u v q k) {j:Nat} (hw:Wlk E x j v (c - k)):Least E x v (c - k) :=
 ⟨⟨j,hw⟩,fun j' c' hw'=>by
  have:=h.2 (j'+1) (c'+k) ⟨v,q,k,c',hw',he,rfl⟩
  omega⟩

theorem zkn (g:Gr m id E) {x:Nat}:∀{n u:Nat} {c:Int},Tree E id x n u c→Least E x u c
 | 0,u,c,h=>by
  obtain ⟨rfl,rfl⟩:=h;exact zgo g _
 | n+1,u,c,h=>h.1

theorem zdq {x:Nat}:∀{n u:Nat} {c:Int},Tree E id x n u c→Wlk E x n u c
 | 0,u,c,h=>h
 | n+1,u,c,h=>by
  obtain ⟨-,v,q,k,he,ht,-⟩:=h;exact ⟨v,q,k,c - k,zdq ht,he,by omega⟩

theorem zko (g:Gr m id E) {x:Nat}:∀(n:Nat) {u:Nat} {c:Int},c.toNat=n→Least E x u c→∃k,Tree E id x k u c:=by
 intro n
 induction n using Nat.strongRecOn with
 | ind n ih =>
  intro u c hc hl;obtain ⟨⟨h,hw⟩,hle⟩:=hl;cases h with
  | zero=>exact ⟨0,hw⟩
  | succ h =>
   obtain ⟨v0,q0,k0,c0,hv,he,rfl⟩:=hw;have hP:∃v q k,E u v q k∧(∃h,Wlk E x h v (c0+k0 - k))∧(id v).toNat*8+q=(id v0).toNat*8+q0:=⟨v0,q0,k0,he,⟨h,by rw [show c0+k0 - k0=c0 by omega]; exact hv⟩,rfl⟩;obtain ⟨z,⟨v,q,k,he',⟨j,hw'⟩,hz⟩,hmin⟩:=zfx (P:=fun z=>∃v q k,E u v q k∧(∃h,Wlk E x h v (c0+k0 - k))∧(id v).toNat*8+q=z) _ hP;have hL:Least E x u (c0+k0):=⟨⟨h+1,v0,q0,k0,c0,hv,he,rfl⟩,hle⟩;have hk:=g.cost _ _ _ _ he';have hp:=zdc g hw';obtain ⟨n',ht⟩:=ih (c0+k0 - k).toNat (by omega) rfl (zhH hL he' hw');refine ⟨n'+1,hL,v,q,k,he',ht,fun v' q' k' he2 hw2 => ?_⟩;have h1:=hmin _ ⟨v',q',k',he2,hw2,rfl⟩;have q1:=g.port _ _ _ _ he';have q2:=g.port _ _ _ _ he2;have p1:=g.pos _ (g.lt _ _ _ _ he').2;have p2:=g.pos _ (g.lt _ _ _ _ he2).2;omega

theorem zhO:∀(k:Nat) (l:List Nat),l.Nodup→(∀y∈l,y < k)→l.length≤k
 | 0,l,_,h=>by
  cases l with
  | nil=>simp
  | cons a l=>have:=h a (by simp); omega
 | k+1,l,hn,h=>by
  have h1:=zhO k (l.filter (fun y=>y != k)) (hn.filter _) (fun y hy=>by
   obtain ⟨ha,hb⟩:=List.mem_filter.1 hy
   have:=h y ha
   simp at hb
   omega)
  have h2:(l.filter (fun y => !(y != k))).length≤1:=by
   have e:l.filter (fun y => !(y != k))=l.filter (fun y=>y == k):=List.filter_congr (fun y _=>by cases hy:(y == k) <;> simp [bne,hy]);rw [e,← List.count_eq_length_filter];exact List.nodup_iff_count.1 hn k
  have h3:l.length=(l.filter (fun y=>y != k)).length+(l.filter (fun y => !(y != k))).length:=by
   clear h1 h2 h hn
   induction l with
   | nil=>rfl
   | cons a l ih =>
    by_cases ha:a=k
    ·subst ha
     simp at ih ⊢
     omega
    ·have e:(a != k)=true:=by simp [ha]
     rw [List.filter_cons,List.filter_cons,e]
     simp at ih ⊢
     omega
  omega

theorem zh5 (g:Gr m id E) {x:Nat} (hx:x < m):∀{n u:Nat} {c:Int},Tree E id x n u c→u < m→∃L:List Nat,L.length=n∧(u::L).Nodup∧∀y∈L,y < m∧∃c',c' < c∧Least E x y c'
 | 0,u,c,h,hu=>⟨[],rfl,by simp,by simp⟩
 | n+1,u,c,h,hu=>by
  obtain ⟨hL,v,q,k,he,ht,-⟩:=h;obtain ⟨L,hl,hn,ha⟩:=zh5 g hx ht (g.lt _ _ _ _ he).2;have hk:=g.cost _ _ _ _ he;have hall:∀y∈v::L,y < m∧∃c',c' < c∧Least E x y c':=by
   intro y hy;rcases List.mem_cons.1 hy with rfl | hy
   ·exact ⟨(g.lt _ _ _ _ he).2,c - k,by omega,zkn g ht⟩
   ·obtain ⟨h1,c',h2,h3⟩:=ha y hy;exact ⟨h1,c',by omega,h3⟩
  refine ⟨v::L,by simp [hl],List.nodup_cons.2 ⟨fun hm => ?_,hn⟩,hall⟩;obtain ⟨-,c',h2,h3⟩:=hall u hm
  have:=zhI h3 hL
  omega

theorem zh6 (g:Gr m id E) {x n u:Nat} {c:Int} (hx:x < m) (h:Tree E id x n u c) (hu:u < m):n≤5:=by
 obtain ⟨L,hl,hn,ha⟩:=zh5 g hx h hu
 have:=zhO m (u::L) hn (fun y hy=>by
  rcases List.mem_cons.1 hy with rfl | hy
  ·exact hu
  ·exact (ha y hy).1)
 have:=g.six
 simp at *
 omega

def Off (id:Nat→Int) (E:Nat→Nat→Nat→Int→Prop) (S:Nat→T3) (u:Nat) (T:T3) (b:Int) (q:Nat):Prop :=
 ∃v k,E u v q k∧b=id v∧T.r=(S v).r∧T.c=(S v).c+k∧T.h=(S v).h+1∧T.r < id u∧T.c≤100000∧T.h≤10

def lex4 (a b c:Int) (d:Nat) (a' b' c':Int) (d':Nat):Prop:=a < a'∨(a=a'∧(b < b'∨(b=b'∧(c < c'∨(c=c'∧d < d')))))

def Nx (id:Nat→Int) (E:Nat→Nat→Nat→Int→Prop) (S:Nat→T3) (u:Nat) (T:T3):Prop :=
 (T=⟨id u,0,0⟩∧∀T' b q,¬Off id E S u T' b q)∨∃b q,Off id E S u T b q∧∀T' b' q',Off id E S u T' b' q'→¬lex4 T'.r T'.c b' q' T.r T.c b q

structure Runs (m:Nat) (id:Nat→Int) (E:Nat→Nat→Nat→Int→Prop) (B:Nat→Nat→T3):Prop where
 first:∀u,u < m→B 0 u=⟨id u,0,0⟩∨1≤(B 0 u).h
 ten:∀u,u < m→(B 0 u).h≤10
 next:∀t u,u < m→Nx id E (B t) u (B (t+1) u)

def Gnd (m:Nat) (id:Nat→Int) (E:Nat→Nat→Nat→Int→Prop) (u:Nat) (T:T3):Prop:=∃x h,x < m∧Wlk E x h u T.c∧T.r=id x∧T.h=(h:Int)

variable {B:Nat→Nat→T3}

theorem znf (R:Runs m id E B):∀(t u:Nat),u < m→(B t u).h≤10
 | 0,u,hu=>R.ten u hu
 | t+1,u,hu=>by
  rcases R.next t u hu with ⟨h,-⟩ | ⟨b,q,⟨v,k,-,-,-,-,-,-,-,h⟩,-⟩
  ·rw [h]; simp
  ·exact h

theorem zli (g:Gr m id E) (R:Runs m id E B):∀(t u:Nat),u < m→Gnd m id E u (B t u)∨(t:Int)+1≤(B t u).h
 | 0,u,hu=>by
  rcases R.first u hu with h | h
  ·exact .inl ⟨u,0,hu,by rw [h]; exact ⟨rfl,rfl⟩,by rw [h],by rw [h]; rfl⟩
  ·exact .inr (by omega)
 | t+1,u,hu=>by
  rcases R.next t u hu with ⟨h,-⟩ | ⟨b,q,⟨v,k,he,-,hr,hc,hh,-⟩,-⟩
  ·exact .inl ⟨u,0,hu,by rw [h]; exact ⟨rfl,rfl⟩,by rw [h],by rw [h]; rfl⟩
  ·rcases zli g R t v (g.lt _ _ _ _ he).2 with ⟨x,j,hx,hw,h1,h2⟩ | h1
   ·exact .inl ⟨x,j+1,hx,⟨v,q,k,_,hw,he,hc⟩,by rw [hr,h1],by rw [hh,h2]; omega⟩
   ·exact .inr (by rw [hh]; omega)

theorem zfH (g:Gr m id E) (R:Runs m id E B) {t u:Nat} (ht:10≤t) (hu:u < m):Gnd m id E u (B t u):=by
 rcases zli g R t u hu with h | h
 ·exact h
 ·have:=znf R t u hu
  omega

theorem zjA (g:Gr m id E) (R:Runs m id E B) {x:Nat} (hx:x < m):∀{n u:Nat} {c:Int} (t:Nat),u < m→Tree E id x n u c→(∀y h c',y < m→Wlk E y h u c'→id x≤id y)→10+n≤t→B t u=⟨id x,c,(n:Int)⟩
 | 0,u,c,t,hu,h,hmin,ht=>by
  obtain ⟨rfl,rfl⟩:=h;obtain ⟨t,rfl⟩:∃s,t=s+1:=⟨t - 1,by omega⟩;rcases R.next t u hu with ⟨h,-⟩ | ⟨b,q,⟨v,k,-,-,-,-,-,hr,-⟩,-⟩
  ·exact h
  ·obtain ⟨y,j,hy,hw,h1,-⟩:=zfH g R (t:=t+1) (by omega) hu
   have:=hmin y j _ hy hw
   omega
 | n+1,u,c,t,hu,h,hmin,ht=>by
  have h5:=zh6 g hx h hu;have hc5:=(zdc g (zdq h)).2.1;obtain ⟨hL,v,q,k,he,htr,hbest⟩:=h;obtain ⟨t,rfl⟩:∃s,t=s+1:=⟨t - 1,by omega⟩;have hv:=(g.lt _ _ _ _ he).2;have hk:=g.cost _ _ _ _ he;have ih:∀t',10+n≤t'→B t' v=⟨id x,c - k,(n:Int)⟩:=fun t' ht'=>zjA g R hx t' hv htr (fun y j c' hy hw=>hmin y (j+1) (c'+k) hy ⟨v,q,k,c',hw,he,rfl⟩) ht'
  have hne:id x < id u:=by
   have h1:=hmin u 0 0 hu ⟨rfl,rfl⟩;have h2:id x≠id u:=fun hc=>by
    have:=g.apart _ _ hx hu hc
    subst this
    have:=zhI hL (zgo g x)
    have:=zdc g (zdq htr)
    omega
   omega
  have hoff:Off id E (B t) u ⟨id x,c,((n+1:Nat):Int)⟩ (id v) q:=by
   refine ⟨v,k,he,rfl, ?_, ?_, ?_,hne, ?_, ?_⟩
   ·rw [ih t (by omega)]
   ·rw [ih t (by omega)]; show c=c - k+k; omega
   ·rw [ih t (by omega)]; show ((n+1:Nat):Int)=(n:Int)+1; omega
   ·show c≤100000; omega
   ·show ((n+1:Nat):Int)≤10; omega
  obtain ⟨y,j,hy,hw,h1,h2⟩:=zfH g R (t:=t+1) (by omega) hu;rcases R.next t u hu with ⟨-,h⟩ | ⟨b,q',⟨v',k',he',hb,hr,hc,hh,-⟩,hleast⟩
  ·exact absurd hoff (h _ _ _)
  ·have hnot:=hleast _ _ _ hoff;have hge:=hmin y j _ hy hw;dsimp only [lex4] at hnot;have hre:(B (t+1) u).r=id x:=by omega
   have hyx:y=x:=g.apart _ _ hy hx (by omega);subst hyx;have hle:=hL.2 _ _ hw;have hce:(B (t+1) u).c=c:=by omega
   obtain ⟨y',j',hy',hw',h1',h2'⟩:=zfH g R (t:=t) (by omega) (g.lt _ _ _ _ he').2;have hyx':y'=y:=g.apart _ _ hy' hx (by omega);subst hyx';have hb2:=hbest v' q' k' he' ⟨j',by rw [show c - k'=(B t v').c by omega]; exact hw'⟩;have hvv:v'=v:=g.apart _ _ (g.lt _ _ _ _ he').2 hv (by omega);subst hvv;have hT:=ih t (by omega);rw [hT] at hh;have e:B (t+1) u=⟨(B (t+1) u).r,(B (t+1) u).c,(B (t+1) u).h⟩:=rfl;rw [e,hre,hce,hh]
   show T3.mk _ _ ((n:Int)+1)=_
   congr 1

theorem ziS (g:Gr m id E) (R:Runs m id E B) {u:Nat} (hu:u < m):∃x n c,x < m∧Tree E id x n u c∧n≤5∧(∀y h c',y < m→Wlk E y h u c'→id x≤id y)∧∀t,15≤t→B t u=⟨id x,c,(n:Int)⟩:=by
 obtain ⟨z,⟨x,hx,⟨h,c,hw⟩,hz⟩,hmin⟩:=zfx (P:=fun z=>∃x,x < m∧(∃h c,Wlk E x h u c)∧(id x).toNat=z) _ ⟨u,hu,⟨0,0,rfl,rfl⟩,rfl⟩;have hmin':∀y h c',y < m→Wlk E y h u c'→id x≤id y:=fun y h c' hy hw=>by
  have:=hmin _ ⟨y,hy,⟨h,c',hw⟩,rfl⟩
  have:=g.pos x hx
  have:=g.pos y hy
  omega
 obtain ⟨c',hL,-⟩:=ziD g hw;obtain ⟨n,ht⟩:=zko (id:=id) g _ rfl hL;have h5:=zh6 g hx ht hu;exact ⟨x,n,c',hx,ht,h5,hmin',fun t h15=>zjA g R hx t hu ht hmin' (by omega)⟩

end

end

def cB (zs:List Int):List Value:=zs.map (Value.int .u8)

def Byt (zs:List Int):Prop:=∀z∈zs,0≤z∧z≤255

theorem zkx (zs:List Int):(cB zs).length=zs.length:=by simp [cB]
theorem znn (a b:List Int):cB (a++b)=cB a++cB b:=by simp [cB]
theorem zno (zs:List Int) (j:Nat) (h:j < zs.length):(cB zs)[j]? = some (.int .u8 (zs.getD j 0)):=by
 simp [cB,List.getElem?_map,List.getElem?_eq_getElem h]

structure Row (w:World) (ao:Option Addr) (len cap:Nat) (zs:List Int):Prop where
 size:zs.length=len
 le:len≤cap
 top:cap≤maxLen
 nil:ao=none→cap=0
 byte:Byt zs
 cell:len=0∨∃b off,ao=some ⟨b,off,none⟩∧∀i,i < len→w.cell? ⟨b,off+i,none⟩=some (.int .u8 (zs.getD i 0))

theorem zp {w:World} {a:Addr} {v:Value} (h:w.cell? a=some v):a.block < w.heap.size:=by
 unfold World.cell? at h;by_cases hb:a.block < w.heap.size
 ·exact hb
 ·rw [Array.getElem?_eq_none (by omega)] at h
  simp at h

theorem Row.below {w w':World} {ao:Option Addr} {len cap:Nat} {zs:List Int} (h:Row w ao len cap zs) (hb:Below w.heap.size w w'):Row w' ao len cap zs where
 size:=h.size
 le:=h.le
 top:=h.top
 nil:=h.nil
 byte:=h.byte
 cell:=by
  rcases h.cell with h0 | ⟨b,off,ha,hc⟩
  ·exact .inl h0
  ·exact .inr ⟨b,off,ha,fun i hi=>by rw [hb.cell (zp (hc i hi))]; exact hc i hi⟩

theorem zdE {B:Nat} {a w:World} (h:Below B a w) (n:Nat):Below B a (w.drewN n) :=
 ⟨h.os,h.tape,h.output,h.size,h.block⟩

theorem zi5 (b off j:Nat):(⟨b,off,none⟩:Addr).add j=⟨b,off+j,none⟩:=by
 by_cases h:j=0 <;> simp [Addr.add,h]

theorem Row.news {w:World} {ao:Option Addr} {len cap:Nat} {zs:List Int} (h:Row w ao len cap zs) (ad:Addr) (ha:ao=some ad) (j:Nat) (u:Value) (hu:(cB zs)[j]? = some u):w.cell? (ad.add j)=some u:=by
 have hj:j < zs.length:=by
  by_cases hlt:j < zs.length
  ·exact hlt
  ·rw [List.getElem?_eq_none (by rw [zkx]; omega)] at hu;cases hu
 rw [zno _ _ hj] at hu;rcases h.cell with h0 | ⟨b,off,hb,hc⟩
 ·have:=h.size; omega
 ·rw [ha] at hb;cases hb;rw [← hu];rw [zi5]; exact hc j (by have:=h.size; omega)

theorem hide {p:Prop} (h:p):Hid p:=h

theorem zhr {zs:List Int} (h:Byt zs) (j:Nat):0≤zs.getD j 0∧zs.getD j 0≤255:=by
 by_cases hj:j < zs.length
 ·rw [List.getD_eq_getElem?_getD,List.getElem?_eq_getElem hj]; exact h _ (List.getElem_mem hj)
 ·rw [List.getD_eq_getElem?_getD,List.getElem?_eq_none (by omega)]; simp

theorem Row.at {w:World} {ao:Option Addr} {len cap:Nat} {zs:List Int} (h:Row w ao len cap zs) (hp:0 < len):∃b off,ao=some ⟨b,off,none⟩∧∀i,i < len→w.cell? ⟨b,off+i,none⟩=some (.int .u8 (zs.getD i 0)):=by
 rcases h.cell with h0 | h0
 ·omega
 ·exact h0

theorem Byt.at {zs:List Int} (h:Byt zs) (j:Nat):0≤zs.getD j 0∧zs.getD j 0≤255:=zhr h j

theorem zne (w:World):Row w none 0 0 []:=⟨rfl,Nat.le_refl _,Nat.zero_le _,fun _=>rfl,(by intro z hz; cases hz),.inl rfl⟩

theorem zmm {w:World} {x:Addr} {len cap:Nat} {zs:List Int} (hl:len≤cap) (hm:cap≤maxLen) (hz:zs.length=cap) (hcell:∀i,i < zs.length→w.cell? (x.add i)=some (.int .u8 (zs.getD i 0))) (hwz:∀n∈zs,(Lit.int .u8 n).wf=true):Row w (some x) len cap (zs.take len) where
 size:=by simp; omega
 le:=hl
 top:=hm
 nil:=by intro h; cases h
 byte:=by
  intro z h
  have:=hwz z (List.mem_of_mem_take h)
  simp [Lit.wf,IntKind.min,IntKind.max,IntKind.bits,IntKind.signed] at this
  omega
 cell:=by
  by_cases h0:len=0
  ·exact .inl h0
  ·have hc0:=hcell 0 (by omega);obtain ⟨b,off,spot⟩:=x;have hspot:spot=none:=by simpa [Addr.add] using World.cell?_spot hc0
   subst hspot;refine .inr ⟨b,off,rfl,fun i hi => ?_⟩
   have:=hcell i (by omega)
   have e:(⟨b,off,none⟩:Addr).add i=⟨b,off+i,none⟩:=by by_cases h:i=0 <;> simp [Addr.add,h]
   rw [e] at this;rw [this]
   simp [List.getD_eq_getElem?_getD,hi]

theorem zdB (l:List Int) (k:Nat) (h:k < l.length):l.take (k+1)=l.take k++[l.getD k 0]:=by
 rw [List.take_succ_eq_append_getElem h]; simp [h]

theorem zin {a b:List Int} (hl:a.length=b.length) (h:a.take a.length=b.take a.length):a=b:=by
 rw [List.take_length,hl,List.take_length] at h; exact h

theorem ne_at {a b:List Int} (k:Nat) (h:¬a.getD k 0=b.getD k 0):¬a=b:=by
 intro e; exact h (by rw [e])

theorem zM {a b:Bool} (h:a=b):Ending.returned (.bool a)=.returned (.bool b):=by rw [h]
theorem znP {k:IntKind} {a b:Int} (h:a=b):Ending.returned (.int k a)=.returned (.int k b):=by rw [h]

theorem zcz {w0 w:World} {g:Nat} (h:w0.grownBy w (some g)) (j:Nat) (u:Value):w0.grownBy (w.setCell ⟨g,j,none⟩ u) (some g) where
 os:=h.os
 tape:=h.tape
 output:=h.output
 size:=by have:=h.size; simpa using this
 block:=fun k hk hne=>by
  rw [Below.heap_setCell _ _ _ _ (by intro e; exact hne (by rw [e]))];exact h.block k hk hne

theorem zl (w:World) (o:Obj):Below w.heap.size w (w.alloc o):=(Below.refl _ _).alloc (Nat.le_refl _) o

theorem zab (w:World) (o p:Obj):Below w.heap.size w ((w.alloc o).alloc p):=(zl w o).alloc (by simp) p

theorem zbh (w:World) (o p q:Obj):Below w.heap.size w (((w.alloc o).alloc p).alloc q):=(zab w o p).alloc (by simp; omega) q

theorem zy (w:World) (o:Obj):(w.alloc o).heap[w.heap.size]? = some o:=by show (w.heap.push o)[w.heap.size]? = _; simp

theorem zd8 {w w1:World} {o:Obj} (hb:Below (w.alloc o).heap.size (w.alloc o) w1):w1.heap[w.heap.size]? = some o:=by
 rw [hb.block _ (by simp)]; exact zy w o

theorem zcD {w w1:World} {o p:Obj} (hb:Below ((w.alloc o).alloc p).heap.size ((w.alloc o).alloc p) w1):w1.heap[w.heap.size]? = some o∧w1.heap[w.heap.size+1]? = some p:=by
 refine ⟨?_, ?_⟩
 ·have:=zl (w.alloc o) p
  exact zd8 (w:=w) (o:=o) ((this.trans (hb.mono this.size)))
 ·have:=zd8 (w:=w.alloc o) (o:=p) hb; simpa using this

theorem zbR {w w1:World} {o p q:Obj} (hb:Below (((w.alloc o).alloc p).alloc q).heap.size (((w.alloc o).alloc p).alloc q) w1):w1.heap[w.heap.size]? = some o∧w1.heap[w.heap.size+1]? = some p∧w1.heap[w.heap.size+1+1]? = some q:=by
 have t:=zl ((w.alloc o).alloc p) q;have u:=zcD (w:=w) (o:=o) (p:=p) (t.trans (hb.mono t.size));refine ⟨u.1,u.2, ?_⟩
 have:=zd8 (w:=(w.alloc o).alloc p) (o:=q) hb; simpa using this

theorem zns {w:World} {C:Nat} {t:TypeId} {c0 c1 c2 c3:Value} (h:w.heap[C]? = some (.cells #[c0,c1,c2,c3] t)) :
  (w.cell? ⟨C,0,none⟩=some c0∧w.cell? ⟨C,1,none⟩=some c1∧w.cell? ⟨C,2,none⟩=some c2∧w.cell? ⟨C,3,none⟩=some c3) ∧
  (w.frozen? ⟨C,0,none⟩=false∧w.frozen? ⟨C,1,none⟩=false∧w.frozen? ⟨C,2,none⟩=false∧w.frozen? ⟨C,3,none⟩=false):=by
 refine ⟨⟨?_, ?_, ?_, ?_⟩, ?_, ?_, ?_, ?_⟩ <;> simp [World.cell?,World.frozen?,h]

theorem zr {B:Nat} {a w:World} (h:Below B a w) {g:Nat} (hB:B≤g) (j:Nat) (u:Value):Below B a (w.setCell ⟨g,j,none⟩ u):=h.setCell (p:=⟨g,j,none⟩) hB u

theorem undrew {B n:Nat} {w w':World} (h:Below B (w.drewN n) w'):Below B w w':=⟨h.os,h.tape,h.output,h.size,h.block⟩

theorem za {w w':World} {i:Nat} {o:Obj} (h:w.heap[i]? = some o) (hb:Below w.heap.size w w'):w'.heap[i]? = some o:=by
 by_cases hlt:i < w.heap.size
 ·rw [hb.block i hlt]; exact h
 ·rw [Array.getElem?_eq_none (by omega)] at h; cases h

theorem zG {w:World} {C:Nat} {t:TypeId} {c0 c1 c2 c3 c4:Value} (h:w.heap[C]? = some (.cells #[c0,c1,c2,c3,c4] t)) :
  (w.cell? ⟨C,0,none⟩=some c0∧w.cell? ⟨C,1,none⟩=some c1∧w.cell? ⟨C,2,none⟩=some c2∧w.cell? ⟨C,3,none⟩=some c3∧w.cell? ⟨C,4,none⟩=some c4) ∧
  (w.frozen? ⟨C,0,none⟩=false∧w.frozen? ⟨C,1,none⟩=false∧w.frozen? ⟨C,2,none⟩=false∧w.frozen? ⟨C,3,none⟩=false∧w.frozen? ⟨C,4,none⟩=false):=by
 refine ⟨⟨?_, ?_, ?_, ?_, ?_⟩, ?_, ?_, ?_, ?_, ?_⟩ <;> simp [World.cell?,World.frozen?,h]

theorem zB {w:World} {b j:Nat} {cur:Array Value} {t:TypeId} (h:w.heap[b]? = some (.cells cur t)) (u:Value):(w.setCell ⟨b,j,none⟩ u).heap[b]? = some (.cells (cur.setIfInBounds j u) t):=heap_setCell_same w b j cur t u h

theorem zar {w:World} {i b j:Nat} {o:Obj} {u:Value} (h:w.heap[i]? = some o) (hne:i≠b):(w.setCell ⟨b,j,none⟩ u).heap[i]? = some o:=by rw [Below.heap_setCell _ _ _ _ hne]; exact h

theorem zaC {w:World} {C:Nat} {t:TypeId} {c0 c1:Value} (h:w.heap[C]? = some (.cells #[c0,c1] t)) :
  (w.cell? ⟨C,0,none⟩=some c0∧w.cell? ⟨C,1,none⟩=some c1)∧(w.frozen? ⟨C,0,none⟩=false∧w.frozen? ⟨C,1,none⟩=false):=by
 refine ⟨⟨?_, ?_⟩, ?_, ?_⟩ <;> simp [World.cell?,World.frozen?,h]

theorem zki {w:World} {b:Nat} {c0 c1:Value} {t:TypeId} (h:w.heap[b]? = some (.cells #[c0,c1] t)) (u:Value):(w.setCell ⟨b,1,none⟩ u).heap[b]? = some (.cells #[c0,u] t):=by
 have:=heap_setCell_same w b 1 #[c0,c1] t u h
 simpa using this

theorem zI {a b c:World} {row:Option Nat} (h:a.grownBy b row) (k:b.grownBy c row):a.grownBy c row :=
 ⟨k.os.trans h.os,k.tape.trans h.tape,k.output.trans h.output,Nat.le_trans h.size k.size,fun i hi hn=>(k.block i (Nat.lt_of_lt_of_le hi h.size) hn).trans (h.block i hi hn)⟩

theorem zcy {a b:World} {row:Option Nat} (h:Below a.heap.size a b):a.grownBy b row:=⟨h.os,h.tape,h.output,h.size,fun k hk _=>h.block k hk⟩

theorem zj {w:World} {rb:Nat} (j:Nat) (u:Value):w.grownBy (w.setCell ⟨rb,j,none⟩ u) (some rb):=zcz (World.grownBy.refl _ _) j u

theorem zaJ {w:World} {C:Nat} {t:TypeId} {c0 c1 c2:Value} (h:w.heap[C]? = some (.cells #[c0,c1,c2] t)) :
  (w.cell? ⟨C,0,none⟩=some c0∧w.cell? ⟨C,1,none⟩=some c1∧w.cell? ⟨C,2,none⟩=some c2)∧(w.frozen? ⟨C,0,none⟩=false∧w.frozen? ⟨C,1,none⟩=false∧w.frozen? ⟨C,2,none⟩=false):=by
 refine ⟨⟨?_, ?_, ?_⟩, ?_, ?_, ?_⟩ <;> simp [World.cell?,World.frozen?,h]

theorem ze {w w':World} {row:Option Nat} {i:Nat} {o:Obj} (h:w.heap[i]? = some o) (hg:w.grownBy w' row) (hne:∀k,row=some k→k≠i):w'.heap[i]? = some o:=by
 by_cases hlt:i < w.heap.size
 ·rw [hg.block i hlt (fun e=>hne i e.symm rfl)]; exact h
 ·rw [Array.getElem?_eq_none (by omega)] at h; cases h

theorem zae {B:Nat} {a w:World} (h:Below B a w) {g:Nat} (hB:B≤g) (c0 c1 c2 c3 c4:Value):Below B a (((((w.setCell ⟨g,0,none⟩ c0).setCell ⟨g,1,none⟩ c1).setCell ⟨g,2,none⟩ c2).setCell ⟨g,3,none⟩ c3).setCell ⟨g,4,none⟩ c4) :=
 zr (zr (zr (zr (zr h hB 0 c0) hB 1 c1) hB 2 c2) hB 3 c3) hB 4 c4

theorem zc {w W W':World} (a:Below w.heap.size w W) (b:Below W.heap.size W W'):Below w.heap.size w W':=a.trans (b.mono a.size)

theorem zcx {w W:World} (a:Below w.heap.size w W) (o:Obj):Below w.heap.size w (W.alloc o):=zc a (zl W o)

theorem zq {w W:World} (a:Below w.heap.size w W):Below w.heap.size w W.drew:=a.drew

theorem zmJ {a b c:World} {rb:Nat} (h:Below a.heap.size a b) (hg:b.grownBy c (some rb)) (hr:a.heap.size≤rb):Below a.heap.size a c:=h.grown hg h.size (by intro k hk; cases hk; exact hr)

section
open Go.RowKit

structure Flat (α:Type) where
 k:Nat
 cs:α→List Value
 len:∀x,(cs x).length=k
 pos:0 < k
 one:∀x,∀v∈cs x,v.oneCell'=true

variable {α:Type}

def Flat.all (F:Flat α) (l:List α):List Value:=l.flatMap F.cs

theorem Flat.all_cons (F:Flat α) (x:α) (l:List α):F.all (x::l)=F.cs x++F.all l:=by simp [Flat.all]
theorem Flat.all_append (F:Flat α) (a b:List α):F.all (a++b)=F.all a++F.all b:=by simp [Flat.all]
theorem Flat.all_one (F:Flat α) (x:α):F.all [x]=F.cs x:=by simp [Flat.all]
theorem Flat.all_length (F:Flat α) (l:List α):(F.all l).length=l.length*F.k:=by
 induction l with
 | nil=>simp [Flat.all]
 | cons x l ih=>rw [F.all_cons,List.length_append,ih,F.len,List.length_cons,Nat.add_mul]; omega
theorem Flat.all_oneCell (F:Flat α) (l:List α):∀u∈F.all l,u.oneCell'=true:=by
 intro u hu;obtain ⟨x,_,hx⟩:=List.mem_flatMap.1 hu;exact F.one x u hx

theorem Flat.all_at (F:Flat α):∀(l:List α) (i:Nat) (x:α),l[i]? = some x→∀(j:Nat) (v:Value),(F.cs x)[j]? = some v→(F.all l)[i*F.k+j]? = some v
 | [],i,x,h,_,_,_=>by simp at h
 | y::l,0,x,h,j,v,hv=>by
  simp at h
  subst h;have hj:=(List.getElem?_eq_some_iff.1 hv).1;rw [F.all_cons,Nat.zero_mul,Nat.zero_add,List.getElem?_append_left hj];exact hv
 | y::l,i+1,x,h,j,v,hv=>by
  have h':l[i]? = some x:=by simpa using h
  rw [F.all_cons,List.getElem?_append_right (by rw [F.len,Nat.add_mul]; omega),F.len];rw [show (i+1)*F.k+j - F.k=i*F.k+j by rw [Nat.add_mul]; omega];exact Flat.all_at F l i x h' j v hv

structure GRow (F:Flat α) (w:World) (ao:Option Addr) (len cap:Nat) (l:List α):Prop where
 size:l.length=len
 le:len≤cap
 top:cap≤maxLen
 nil:ao=none→cap=0
 cell:len=0∨∃b off,ao=some ⟨b,off,none⟩∧∀(i:Nat) (x:α),l[i]? = some x→∀(j:Nat) (v:Value),(F.cs x)[j]? = some v→w.cell? ⟨b,off+i*F.k+j,none⟩=some v

theorem zdh (F:Flat α) (w:World):GRow F w none 0 0 []:=⟨rfl,Nat.le_refl _,Nat.zero_le _,fun _=>rfl,.inl rfl⟩

theorem GRow.below {F:Flat α} {w w':World} {ao:Option Addr} {len cap:Nat} {l:List α} (h:GRow F w ao len cap l) (hb:Below w.heap.size w w'):GRow F w' ao len cap l where
 size:=h.size
 le:=h.le
 top:=h.top
 nil:=h.nil
 cell:=by
  rcases h.cell with h0 | ⟨b,off,ha,hc⟩
  ·exact .inl h0
  ·exact .inr ⟨b,off,ha,fun i x hi j v hv=>(hb.cell (zp (hc i x hi j v hv))).trans (hc i x hi j v hv)⟩

theorem GRow.at {F:Flat α} {w:World} {ao:Option Addr} {len cap:Nat} {l:List α} (h:GRow F w ao len cap l) (i:Nat) (hi:i < len):∃x b off,l[i]? = some x∧ao=some ⟨b,off,none⟩∧∀(j:Nat) (v:Value),(F.cs x)[j]? = some v→w.cell? ⟨b,off+i*F.k+j,none⟩=some v:=by
 have hl:=h.size;rcases h.cell with h0 | ⟨b,off,ha,hc⟩
 ·omega
 ·have hx:l[i]? = some l[i]:=List.getElem?_eq_getElem (by omega);exact ⟨_,b,off,hx,ha,hc i _ hx⟩

theorem zh {w w':World} {base k:Nat} {e:TypeId} {v:Value} {n:Nat} {xs:List Value} (h:w.ownsRow base e k v n xs) (hb:Below w.heap.size w w'):w'.ownsRow base e k v n xs:=by
 obtain ⟨hl,h | ⟨g,cap,cur,rfl,hg,hh,h1,h2,h3,h4⟩⟩:=h
 ·exact ⟨hl,.inl h⟩
 ·refine ⟨hl,.inr ⟨g,cap,cur,rfl,hg, ?_,h1,h2,h3,h4⟩⟩;rw [hb.block g ?_]
  ·exact hh
  ·by_cases hlt:g < w.heap.size
   ·exact hlt
   ·rw [Array.getElem?_eq_none (by omega)] at hh
    simp at hh

theorem zH {w:World} {base k:Nat} {e:TypeId} {v:Value} {n:Nat} {xs:List Value} (h:w.ownsRow base e k v n xs) {base':Nat} (hle:base'≤base):w.ownsRow base' e k v n xs:=by
 obtain ⟨hl,h | ⟨g,cap,cur,rfl,hg,hh,h1,h2,h3,h4⟩⟩:=h
 ·exact ⟨hl,.inl h⟩
 ·exact ⟨hl,.inr ⟨g,cap,cur,rfl,by omega,hh,h1,h2,h3,h4⟩⟩

theorem zcq {w:World} {base k:Nat} {e:TypeId} {v:Value} {n:Nat} {xs:List Value} (h:w.ownsRow base e k v n xs):∃ao cap,v=.slice ao n cap:=by
 rcases h.2 with ⟨rfl,rfl⟩ | ⟨g,cap,cur,rfl,_⟩
 ·exact ⟨none,0,rfl⟩
 ·exact ⟨_,cap,rfl⟩

theorem zt {w w':World} {base k:Nat} {e:TypeId} {v:Value} {n:Nat} {xs:List Value} (h:w.ownsRow base e k v n xs) {g:Nat} (hg:w.grownBy w' (some g)) (hne:∀b,v.ownBlock=some b→b≠g):w'.ownsRow base e k v n xs:=by
 refine h.kept hg ?_;cases hv:v.ownBlock with
 | none=>exact .inl rfl
 | some b=>exact .inr (by intro h; cases h; exact hne _ hv rfl)

theorem zC {F:Flat α} {w:World} {base:Nat} {T:TypeId} {ao:Option Addr} {n cap:Nat} {l:List α} (h:w.ownsRow base T F.k (.slice ao n cap) n (F.all l)):GRow F w ao n cap l:=by
 have hl:l.length=n:=by
  have:=h.1
  rw [F.all_length] at this;exact Nat.eq_of_mul_eq_mul_right F.pos this
 rcases h.2 with ⟨e,rfl⟩ | ⟨g,cap',cur,e,hg,hh,h1,h2,h3,h4⟩
 ·cases e;exact ⟨hl,Nat.le_refl _,Nat.zero_le _,fun _=>rfl,.inl rfl⟩
 ·cases e;refine ⟨hl,h1,h2,(by intro h; cases h),.inr ⟨g,0,rfl,fun i x hi j v hv => ?_⟩⟩;have hx:=F.all_at l i x hi j v hv;have hlt:=(List.getElem?_eq_some_iff.1 hx).1;rw [F.all_length] at hlt;rw [Nat.zero_add,h.cellAt _ (by rw [← hl]; exact hlt)];exact hx

theorem GRow.news {F:Flat α} {w:World} {b off n cap:Nat} {l:List α} (h:GRow F w (some ⟨b,off,none⟩) n cap l):∀(j:Nat) (u:Value),(F.all l)[j]? = some u→w.cell? ((⟨b,off,none⟩:Addr).add j)=some u:=by
 intro j u hu;have hj:=(List.getElem?_eq_some_iff.1 hu).1;rw [F.all_length] at hj;have hp:=F.pos;have hi:j / F.k < l.length:=Nat.div_lt_of_lt_mul (by rw [Nat.mul_comm]; exact hj);rcases h.cell with h0 | ⟨b',off',e,hc⟩
 ·have:=h.size
  rw [this,h0] at hi;exact absurd hi (Nat.not_lt_zero _)
 ·cases e;have hx:l[j / F.k]? = some l[j / F.k]:=List.getElem?_eq_getElem hi;have hm:j % F.k < (F.cs l[j / F.k]).length:=by rw [F.len]; exact Nat.mod_lt _ hp
  have hv:=List.getElem?_eq_getElem hm;have ha:=F.all_at l _ _ hx _ _ hv;have hd:j / F.k*F.k+j % F.k=j:=by rw [Nat.mul_comm]; exact Nat.div_add_mod j F.k
  rw [hd] at ha;have hc:=hc _ _ hx _ _ hv;rw [zi5];rw [show off+j=off+j / F.k*F.k+j % F.k by omega,hc,← ha,hu]

theorem zdI {P:Program} {T:TypeId} {z:Value} {k b:Nat} (h:(P.info? T).map (fun i=>(i.zero,i.size,i.bytes))=some (some z,k,b)):∃i,P.info? T=some i∧i.zero=some z∧i.size=k∧i.bytes=b:=by
 cases hi:P.info? T with
 | none=>rw [hi] at h; simp at h
 | some i =>
  rw [hi] at h
  simp at h
  exact ⟨i,rfl,h.1,h.2.1,h.2.2⟩

theorem zK {F:Flat α} {P:Program} (w:World) {ops:Array Oper} {rest:List Oper} {o:Oper} {a:Act} {Q:Exit→Act→World→Prop} (hgd:o.guard=none)
  (s x:Operand) (t T:TypeId) (ho:o.op=Op.call { callee:=Callee.builtin Builtin.append,args:=#[s,x],argTypes:=#[t,t] }) (base:Nat) {Z:Value} {by8:Nat}
  (ht:P.underlying t=some (TypeDesc.slice T)) (hinfo:(P.info? T).map (fun i=>(i.zero,i.size,i.bytes))=some (some Z,F.k,by8)) (hZ:Z.cells.size=F.k) (hb8:by8≤1024)
  (v:Value) (n:Nat) (xs:List α) (hs:a.eval s=v) (hown:w.ownsRow base T F.k v n (F.all xs)) (ao:Option Addr) (m c:Nat) (zs:List α)
  (hx:a.eval x=.slice ao m c) (hrow:GRow F w ao m c zs) (hsm:n+m≤137438953472) (hbase:base≤w.heap.size)
  (h:∀ao' cap' w',w'.ownsRow base T F.k (.slice ao' (n+m) cap') (n+m) (F.all (xs++zs))→GRow F w' ao' (n+m) cap' (xs++zs)→w.grownBy w' v.ownBlock→Below base w w'→wpList P ops Q rest (a.put o.dst (.slice ao' (n+m) cap')) w') :
  wpList P ops Q (o::rest) a w:=by
 obtain ⟨i0,hi,hz0,hz1,hz2⟩:=zdI hinfo;rcases ao with _ | ad
 ·have hc0:=hrow.nil rfl;have hm0:m=0:=by have:=hrow.le; omega
  subst hc0 hm0;have hz:zs=[]:=List.eq_nil_of_length_eq_zero hrow.size;subst hz;refine wpList_append_own_none hgd s x t ho base T i0 F.k ht hi v n (F.all xs) hs hown hx ?_;obtain ⟨ao',cap',rfl⟩:=zcq hown
  have:=h ao' cap' w (by simpa using hown) (by simpa using zC hown) (World.grownBy.refl _ _) (Below.refl _ _)
  simpa using this
 ·have hnews:∀(j:Nat) (u:Value),(F.all zs)[j]? = some u→w.cell? (ad.add j)=some u:=by
   intro j u hu;rcases hrow.cell with h0 | ⟨b,off,e,_⟩
   ·have hl:=(List.getElem?_eq_some_iff.1 hu).1;rw [F.all_length,hrow.size,h0,Nat.zero_mul] at hl;omega
   ·cases e;exact hrow.news j u hu
  have hB:(n+m)*by8≤140737488355328:=Nat.le_trans (Nat.mul_le_mul hsm hb8) (by omega);refine wpList_append_own w hgd s x t ho base T i0 Z F.k by8 ht hi hz0 hz1 hz2 hZ F.pos v n (F.all xs) hs hown ad m c (F.all zs) hx (by rw [F.all_length,hrow.size]) hnews (F.all_oneCell zs) (by unfold maxLen; omega) hB hbase ?_;intro v' w' how hgr _;rw [← F.all_append] at how;have hlt:=hown.lt;obtain ⟨ao',cap',rfl⟩:=zcq how;exact h ao' cap' w' how (zC how) hgr ((Below.refl _ _).grown hgr hbase (by intro k hk; exact (hlt k hk).1))

theorem zi {F:Flat α} {P:Program} {ops:Array Oper} {o:Oper} {a:Act} {w:World} {K:Act→World→Prop} {Q:Exit→Act→World→Prop} {E:Prop} (hgd:o.guard=none)
  (s x:Operand) (t T:TypeId) (ho:o.op=Op.call { callee:=Callee.builtin Builtin.append,args:=#[s,x],argTypes:=#[t,t] }) (base:Nat) {Z:Value} {by8:Nat}
  (ht:P.underlying t=some (TypeDesc.slice T)) (hinfo:(P.info? T).map (fun i=>(i.zero,i.size,i.bytes))=some (some Z,F.k,by8)) (hZ:Z.cells.size=F.k) (hb8:by8≤1024)
  (v:Value) (n:Nat) (xs:List α) (hs:a.eval s=v) (hown:w.ownsRow base T F.k v n (F.all xs)) (ao:Option Addr) (m c:Nat) (zs:List α)
  (hx:a.eval x=.slice ao m c) (hrow:GRow F w ao m c zs) (hsm:n+m≤137438953472) (hbase:base≤w.heap.size)
  (h:∀ao' cap' w',w'.ownsRow base T F.k (.slice ao' (n+m) cap') (n+m) (F.all (xs++zs))→GRow F w' ao' (n+m) cap' (xs++zs)→w.grownBy w' v.ownBlock→Below base w w'→K (a.put o.dst (.slice ao' (n+m) cap')) w') :
  if Region.wanted o (yielded ops a.tmps)=true then Oper.wp P o a w K Q else E:=by
 have hw:Region.wanted o (yielded ops a.tmps)=true:=by simp [Region.wanted,hgd]
 rw [if_pos hw];obtain ⟨i0,hi,hz0,hz1,hz2⟩:=zdI hinfo;rcases ao with _ | ad
 ·have hc0:=hrow.nil rfl;have hm0:m=0:=by have:=hrow.le; omega
  subst hc0 hm0;have hz:zs=[]:=List.eq_nil_of_length_eq_zero hrow.size;subst hz;obtain ⟨ao',cap',rfl⟩:=zcq hown;have hrun:=run_append_owned_none (P:=P) w base t o.type T i0 F.k ht hi (.slice ao' n cap') n (F.all xs) hown;have hk:K (a.put o.dst (.slice ao' n cap')) w:=by simpa using h ao' cap' w (by simpa using hown) (by simpa using zC hown) (World.grownBy.refl _ _) (Below.refl _ _)
  unfold Oper.wp
  simp [execOp,ho,resolve,invoke,builtin,hs,hx,hrun,Result.andThen]
  exact hk
 ·have hnews:∀(j:Nat) (u:Value),(F.all zs)[j]? = some u→w.cell? (ad.add j)=some u:=by
   intro j u hu;rcases hrow.cell with h0 | ⟨b,off,e,_⟩
   ·have hl:=(List.getElem?_eq_some_iff.1 hu).1;rw [F.all_length,hrow.size,h0,Nat.zero_mul] at hl;omega
   ·cases e;exact hrow.news j u hu
  have hB:(n+m)*by8≤140737488355328:=Nat.le_trans (Nat.mul_le_mul hsm hb8) (by omega);refine wp_append_own w s x t ho base T i0 Z F.k by8 ht hi hz0 hz1 hz2 hZ F.pos v n (F.all xs) hs hown ad m c (F.all zs) hx (by rw [F.all_length,hrow.size]) hnews (F.all_oneCell zs) (by unfold maxLen; omega) hB hbase ?_;intro v' w' how hgr _;rw [← F.all_append] at how;have hlt:=hown.lt;obtain ⟨ao',cap',rfl⟩:=zcq how;exact h ao' cap' w' how (zC how) hgr ((Below.refl _ _).grown hgr hbase (by intro k hk; exact (hlt k hk).1))

theorem zb8 (F:Flat α) (w:World) (x:α) (cs:Array Value) (T:TypeId) (h:cs.toList=F.cs x):GRow F (w.alloc (.cells cs T)) (some ⟨w.heap.size,0,none⟩) 1 1 [x]:=by
 refine ⟨rfl,Nat.le_refl _,by unfold maxLen; omega,(by intro h; cases h),.inr ⟨w.heap.size,0,rfl,fun i y hi j v hv => ?_⟩⟩;have hi0:i=0:=by
  have:=(List.getElem?_eq_some_iff.1 hi).1
  simp at this
  exact this
 subst hi0
 simp at hi
 subst hi;rw [Nat.zero_mul,Nat.zero_add];rw [← h] at hv;have hb:=zy w (.cells cs T);simp only [World.cell?,hb]
 simpa using hv

theorem zaG (F:Flat α) (w w':World) (T:TypeId) (b:Nat) (h:w'.heap[b]? = some (.cells #[] T)) (hb:w.heap.size≤b):w'.ownsRow w.heap.size T F.k (.slice (some ⟨b,0,none⟩) 0 0) 0 (F.all []) :=
 ⟨by simp [Flat.all],.inr ⟨b,0,#[],rfl,hb,h,Nat.le_refl _,Nat.zero_le _,by simp,by simp [Flat.all]⟩⟩

section
variable {H:Type} {enc:TypeId × Value→H} {P:Program} {w:World}

end

end

section
open Go.RowKit

variable {α:Type}

theorem Flat.all_set (F:Flat α) (pre:List α) (x x':α) (post:List α) (j:Nat) (u:Value) (hj:j < F.k) (h:(F.cs x).set j u=F.cs x'):(F.all (pre++x::post)).set (pre.length*F.k+j) u=F.all (pre++x'::post):=by
 rw [F.all_append,F.all_cons,List.set_append_right _ _ (by rw [F.all_length]; omega),F.all_length,Nat.add_sub_cancel_left,List.set_append_left _ _ (by rw [F.len]; exact hj),h,F.all_append,F.all_cons]

theorem zS {F:Flat α} {w:World} {base g n cap:Nat} {T:TypeId} {pre post:List α} {x x':α} (h:w.ownsRow base T F.k (.slice (some ⟨g,0,none⟩) n cap) n (F.all (pre++x::post))) (j:Nat) (u:Value) (hj:j < F.k) (hx:(F.cs x).set j u=F.cs x') :
  (w.setCell ⟨g,pre.length*F.k+j,none⟩ u).ownsRow base T F.k (.slice (some ⟨g,0,none⟩) n cap) n (F.all (pre++x'::post)):=by
 have:=(h.stored (pre.length*F.k+j) u).1
 rw [F.all_set pre x x' post j u hj hx] at this;exact this

theorem zL {w w':World} {base k:Nat} {e:TypeId} {v:Value} {n:Nat} {xs:List Value} (h:w.ownsRow base e k v n xs) {row:Option Nat} (hg:w.grownBy w' row) (hlt:∀b,row=some b→b < base):w'.ownsRow base e k v n xs:=by
 refine h.kept hg ?_;cases hv:v.ownBlock with
 | none=>exact .inl rfl
 | some b =>
  refine .inr (fun e => ?_);have h1:=(h.lt b hv).1;have h2:=hlt b e.symm;omega

theorem zaf {F:Flat α} {w:World} {base g n cap:Nat} {T:TypeId} {l:List α} (h:w.ownsRow base T F.k (.slice (some ⟨g,0,none⟩) n cap) n (F.all l)) {i:Nat} {x:α} (hx:l[i]? = some x) {j:Nat} {v:Value} (hv:(F.cs x)[j]? = some v):w.cell? ⟨g,i*F.k+j,none⟩=some v∧w.frozen? ⟨g,i*F.k+j,none⟩=false:=by
 have ha:=F.all_at l i x hx j v hv;have hlt:=(List.getElem?_eq_some_iff.1 ha).1;have h1:=h.1;refine ⟨?_,h.frozenAt _⟩;rw [h.cellAt _ (by rw [← h1]; exact hlt)];exact ha

theorem zkM {F:Flat α} {w:World} {base n cap:Nat} {T:TypeId} {ao:Option Addr} {l:List α} (h:w.ownsRow base T F.k (.slice ao n cap) n (F.all l)) (hn:0 < n):∃g,ao=some ⟨g,0,none⟩∧base≤g∧g < w.heap.size:=by
 have hlt:=h.lt;rcases h.2 with ⟨e,h0⟩ | ⟨g,cap',cur,e,hg,_⟩
 ·omega
 ·cases e;exact ⟨g,rfl,hg,(hlt g rfl).2⟩

end

theorem zi9 {w:World} {o:Obj} {i:Nat} (h:i=w.heap.size):(w.alloc o).heap[i]? = some o:=by subst h; exact zy w o

theorem zbn {w:World} {o:Obj} {i:Nat} (h:w.heap[i]? = some o):w.drew.heap[i]? = some o:=h

structure Piece where
 ao:Option Addr
 len:Nat
 cap:Nat
 zs:List Int

def tot (ps:List Piece) (k:Nat):Nat:=((ps.take k).map Piece.len).sum
def flat (ps:List Piece) (k:Nat):List Int:=((ps.take k).map Piece.zs).flatten

def clip (n:Int):Int:=if 2147483647 < n then 2147483647 else if n < -2147483648 then -2147483648 else n

def ints:Nat→Int→List Int→List Int
 | 0,_,out=>out
 | f+1,n,out=>if n < -128∨127 < n then ints f (n / 256) (n / 256 % 256::out) else out

def zhV (n:Int):List Int:=ints 3 (clip n) [clip n % 256]

def lenB (n:Nat):List Int:=if n < 128 then [(n:Int)] else [129,(n:Int)]
def zhW (b:List Int) (tag:Int) (body:List Int):List Int :=
 if tag < 0∨255 < tag∨250 < body.length then b else b++([tag]++lenB body.length++body)

def sgn (b:Int):Int:=if 127 < b then b - 256 else b
def val (zs:List Int):Nat→Int
 | 0=>sgn (zs.getD 0 0)
 | k+1=>val zs k*256+zs.getD (k+1) 0

structure VD where
 r:Int
 c:Int
 h:Int
 b:Int
 p:Int

def okVc (r c h b p:Int):Bool:=decide (1≤r∧r≤99) && (decide (0≤c∧c≤100000) && (decide (0≤h∧h≤10) && (decide (1≤b∧b≤99) && decide (0≤p∧p≤7))))
def znl (r c h b p:Int):List Int:=zhW (zhW (zhW (zhW (zhW [] 2 (zhV r)) 2 (zhV c)) 2 (zhV h)) 2 (zhV b)) 2 (zhV p)
def putVc (r c h b p:Int):List Int:=if okVc r c h b p=true then znl r c h b p else []

theorem zgu {r c h b p:Int} (k:okVc r c h b p=true):(1≤r∧r≤99)∧(0≤c∧c≤100000)∧(0≤h∧h≤10)∧(1≤b∧b≤99)∧(0≤p∧p≤7):=by
 unfold okVc at k;simp only [Bool.and_eq_true,decide_eq_true_eq] at k;exact k

theorem zg (x lo hi:Int) (w:World) :
  Calls Tryz.prog 54 #[.int .i64 x,.int .i64 lo,.int .i64 hi] w fun e w'=>e=.returned (.bool (decide (lo≤x) && decide (x≤hi)))∧w'=w:=by
 by_cases h1:lo≤x
 ·go_enter Tryz.func54,Tryz.ntmps54;go_wp2;go_ret;exact ⟨zM (by simp [h1]),rfl⟩
 ·go_enter Tryz.func54,Tryz.ntmps54;go_wp2;go_ret;exact ⟨zM (by rw [decide_eq_false (show ¬lo≤x by omega)]; rfl),rfl⟩

theorem zk7 (R C H B P:Int):okVc R C H B P=((decide (1≤R) && decide (R≤99)) && ((decide (0≤C) && decide (C≤100000)) && ((decide (0≤H) && decide (H≤10)) && ((decide (1≤B) && decide (B≤99)) && (decide (0≤P) && decide (P≤7)))))):=by
 unfold okVc;have e1:∀a x b:Int,decide (a≤x∧x≤b)=(decide (a≤x) && decide (x≤b)):=fun a x b=>by rw [Bool.eq_iff_iff]; simp
 rw [e1,e1,e1,e1,e1]

theorem zav (R C H B P:Int) (w:World) :
  Calls Tryz.prog 100 #[.agg #[.int .i64 R,.int .i64 C,.int .i64 H,.int .i64 B,.int .i64 P]] w fun e w'=>e=.returned (.bool (okVc R C H B P))∧Below w.heap.size w w':=by
 generalize hP:okVc R C H B P=Q;rw [zk7] at hP;cases t1:(decide (1≤R) && decide (R≤99))
 ·have e:Q=false:=by rw [← hP,t1]; rfl
  subst e;have T1:=hide t1;clear hP t1;go_enter Tryz.func100,Tryz.ntmps100;(go_wp2_with fail);refine (zg R 1 99 _).mono ?_;rintro e w1 ⟨rfl,rfl⟩;rw [T1.out];go_wp2;go_ret;exact ⟨rfl,zl _ _⟩
 cases t2:(decide (0≤C) && decide (C≤100000))
 ·have e:Q=false:=by rw [← hP,t1,t2]; rfl
  subst e;have T1:=hide t1;have T2:=hide t2;clear hP t1 t2;go_enter Tryz.func100,Tryz.ntmps100;(go_wp2_with fail);refine (zg R 1 99 _).mono ?_;rintro e w1 ⟨rfl,rfl⟩;rw [T1.out];(go_wp2_with fail);refine (zg C 0 100000 _).mono ?_;rintro e w2 ⟨rfl,rfl⟩;rw [T2.out];go_wp2;go_ret;exact ⟨rfl,zl _ _⟩
 cases t3:(decide (0≤H) && decide (H≤10))
 ·have e:Q=false:=by rw [← hP,t1,t2,t3]; rfl
  subst e;have T1:=hide t1;have T2:=hide t2;have T3:=hide t3;clear hP t1 t2 t3;go_enter Tryz.func100,Tryz.ntmps100;(go_wp2_with fail);refine (zg R 1 99 _).mono ?_;rintro e w1 ⟨rfl,rfl⟩;rw [T1.out];(go_wp2_with fail);refine (zg C 0 100000 _).mono ?_;rintro e w2 ⟨rfl,rfl⟩;rw [T2.out];(go_wp2_with fail);refine (zg H 0 10 _).mono ?_;rintro e w3 ⟨rfl,rfl⟩;rw [T3.out];go_wp2;go_ret;exact ⟨rfl,zl _ _⟩
 cases t4:(decide (1≤B) && decide (B≤99))
 ·have e:Q=false:=by rw [← hP,t1,t2,t3,t4]; rfl
  subst e;have T1:=hide t1;have T2:=hide t2;have T3:=hide t3;have T4:=hide t4;clear hP t1 t2 t3 t4;go_enter Tryz.func100,Tryz.ntmps100;(go_wp2_with fail);refine (zg R 1 99 _).mono ?_;rintro e w1 ⟨rfl,rfl⟩;rw [T1.out];(go_wp2_with fail);refine (zg C 0 100000 _).mono ?_;rintro e w2 ⟨rfl,rfl⟩;rw [T2.out];(go_wp2_with fail);refine (zg H 0 10 _).mono ?_;rintro e w3 ⟨rfl,rfl⟩;rw [T3.out];(go_wp2_with fail);refine (zg B 1 99 _).mono ?_;rintro e w4 ⟨rfl,rfl⟩;rw [T4.out];go_wp2;go_ret;exact ⟨rfl,zl _ _⟩
 cases t5:(decide (0≤P) && decide (P≤7))
 ·have e:Q=false:=by rw [← hP,t1,t2,t3,t4,t5]; rfl
  subst e;have T1:=hide t1;have T2:=hide t2;have T3:=hide t3;have T4:=hide t4;have T5:=hide t5;clear hP t1 t2 t3 t4 t5;go_enter Tryz.func100,Tryz.ntmps100;(go_wp2_with fail);refine (zg R 1 99 _).mono ?_;rintro e w1 ⟨rfl,rfl⟩;rw [T1.out];(go_wp2_with fail);refine (zg C 0 100000 _).mono ?_;rintro e w2 ⟨rfl,rfl⟩;rw [T2.out];(go_wp2_with fail);refine (zg H 0 10 _).mono ?_;rintro e w3 ⟨rfl,rfl⟩;rw [T3.out];(go_wp2_with fail);refine (zg B 1 99 _).mono ?_;rintro e w4 ⟨rfl,rfl⟩;rw [T4.out];(go_wp2_with fail);refine (zg P 0 7 _).mono ?_;rintro e w5 ⟨rfl,rfl⟩;rw [T5.out];go_wp2;go_ret;exact ⟨rfl,zl _ _⟩
 have e:Q=true:=by rw [← hP,t1,t2,t3,t4,t5]; rfl
 subst e;have T1:=hide t1;have T2:=hide t2;have T3:=hide t3;have T4:=hide t4;have T5:=hide t5;clear hP t1 t2 t3 t4 t5;go_enter Tryz.func100,Tryz.ntmps100;go_wp2_with fail
 refine (zg R 1 99 _).mono ?_;rintro e w1 ⟨rfl,rfl⟩;rw [T1.out];go_wp2_with fail
 refine (zg C 0 100000 _).mono ?_;rintro e w2 ⟨rfl,rfl⟩;rw [T2.out];go_wp2_with fail
 refine (zg H 0 10 _).mono ?_;rintro e w3 ⟨rfl,rfl⟩;rw [T3.out];go_wp2_with fail
 refine (zg B 1 99 _).mono ?_;rintro e w4 ⟨rfl,rfl⟩;rw [T4.out];go_wp2_with fail
 refine (zg P 0 7 _).mono ?_;rintro e w5 ⟨rfl,rfl⟩;rw [T5.out];go_wp2;go_ret;exact ⟨rfl,zl _ _⟩

def zaL (R C B P R' C' B' P':Int):Bool :=
 if (R != R')=true then decide (R < R') else if (C != C')=true then decide (C < C') else if (B != B')=true then decide (B < B') else decide (P < P')

theorem zbz (R C H B P R' C' H' B' P':Int) (w:World) :
  Calls Tryz.prog 154 #[.agg #[.int .i64 R,.int .i64 C,.int .i64 H,.int .i64 B,.int .i64 P],.agg #[.int .i64 R',.int .i64 C',.int .i64 H',.int .i64 B',.int .i64 P']] w fun e w'=>e=.returned (.bool (zaL R C B P R' C' B' P'))∧Below w.heap.size w w':=by
 cases t1:(R != R')
 ·cases t2:(C != C')
  ·cases t3:(B != B')
   ·have e:zaL R C B P R' C' B' P'=decide (P < P'):=by unfold zaL; rw [t1,t2,t3]; rfl
    rw [e];clear e;go_enter Tryz.func154,Tryz.ntmps154;go_wp2;go_ret;exact ⟨rfl,zab _ _ _⟩
   ·have e:zaL R C B P R' C' B' P'=decide (B < B'):=by unfold zaL; rw [t1,t2,t3]; rfl
    rw [e];clear e;go_enter Tryz.func154,Tryz.ntmps154;go_wp2;go_ret;exact ⟨rfl,zab _ _ _⟩
  ·have e:zaL R C B P R' C' B' P'=decide (C < C'):=by unfold zaL; rw [t1,t2]; rfl
   rw [e];clear e;go_enter Tryz.func154,Tryz.ntmps154;go_wp2;go_ret;exact ⟨rfl,zab _ _ _⟩
 ·have e:zaL R C B P R' C' B' P'=decide (R < R'):=by unfold zaL; rw [t1]; rfl
  rw [e];clear e;go_enter Tryz.func154,Tryz.ntmps154;go_wp2;go_ret;exact ⟨rfl,zab _ _ _⟩

def zaR (R C H B P k:Int):Bool:=okVc R C H B P && ((decide (1≤k) && decide (k≤1000)) && okVc R (C+k) (H+1) B P)

theorem zc9 (R C H B P k:Int) (w:World) :
  Calls Tryz.prog 153 #[.agg #[.int .i64 R,.int .i64 C,.int .i64 H,.int .i64 B,.int .i64 P],.int .i64 k] w fun e w'=>e=.returned (.tuple #[if zaR R C H B P k=true then .agg #[.int .i64 R,.int .i64 (C+k),.int .i64 (H+1),.int .i64 B,.int .i64 P] else .agg #[.int .i64 R,.int .i64 C,.int .i64 H,.int .i64 B,.int .i64 P],.bool (zaR R C H B P k)])∧Below w.heap.size w w':=by
 have q2:=zab w (.cells #[.int .i64 R,.int .i64 C,.int .i64 H,.int .i64 B,.int .i64 P] 51) (.cells #[.int .i64 0,.int .i64 0,.int .i64 0,.int .i64 0,.int .i64 0] 51);cases t1:okVc R C H B P
 ·have e:zaR R C H B P k=false:=by unfold zaR; rw [t1]; rfl
  rw [e,if_neg (by simp)];have T1:=hide t1;clear e t1;go_enter Tryz.func153,Tryz.ntmps153;(go_wp2_with fail);refine (zav R C H B P _).mono ?_;rintro e w1 ⟨rfl,hb1⟩;rw [T1.out];obtain ⟨k0,k1⟩:=zcD hb1;obtain ⟨⟨x0,x1,x2,x3,x4⟩,f0,f1,f2,f3,f4⟩:=zG k0;obtain ⟨⟨y0,y1,y2,y3,y4⟩,g0,g1,g2,g3,g4⟩:=zG k1;have HB:=hide (zc q2 hb1);clear hb1 k0 k1;go_wp2;exact bodyPost_ret (v:=.tuple #[.agg #[.int .i64 R,.int .i64 C,.int .i64 H,.int .i64 B,.int .i64 P],.bool false]) (by simp [results,Tryz.results153,go_sem, *]) rfl ⟨rfl,zae HB.out (by omega) _ _ _ _ _⟩
 cases t2:(decide (1≤k) && decide (k≤1000))
 ·have e:zaR R C H B P k=false:=by unfold zaR; rw [t1,t2]; rfl
  rw [e,if_neg (by simp)];have T1:=hide t1;have T2:=hide t2;clear e t1 t2;go_enter Tryz.func153,Tryz.ntmps153;(go_wp2_with fail);refine (zav R C H B P _).mono ?_;rintro e w1 ⟨rfl,hb1⟩;rw [T1.out];obtain ⟨k0,k1⟩:=zcD hb1;obtain ⟨⟨x0,x1,x2,x3,x4⟩,f0,f1,f2,f3,f4⟩:=zG k0;obtain ⟨⟨y0,y1,y2,y3,y4⟩,g0,g1,g2,g3,g4⟩:=zG k1;have HB:=hide (zc q2 hb1);clear hb1 k0 k1;(go_wp2_with fail);refine (zg k 1 1000 _).mono ?_;rintro e w2 ⟨rfl,rfl⟩;rw [T2.out];go_wp2;exact bodyPost_ret (v:=.tuple #[.agg #[.int .i64 R,.int .i64 C,.int .i64 H,.int .i64 B,.int .i64 P],.bool false]) (by simp [results,Tryz.results153,go_sem, *]) rfl ⟨rfl,zae HB.out (by omega) _ _ _ _ _⟩
 obtain ⟨-,o2,o3,-,-⟩:=zgu t1;have hk:1≤k∧k≤1000:=by simpa using t2
 have es:zaR R C H B P k=okVc R (C+k) (H+1) B P:=by unfold zaR; rw [t1,t2]; rfl
 rw [es];clear es;cases t3:okVc R (C+k) (H+1) B P
 ·rw [if_neg (by simp)];have T1:=hide t1;have T2:=hide t2;have T3:=hide t3;clear t1 t2 t3;go_enter Tryz.func153,Tryz.ntmps153;(go_wp2_with fail);refine (zav R C H B P _).mono ?_;rintro e w1 ⟨rfl,hb1⟩;rw [T1.out];obtain ⟨k0,k1⟩:=zcD hb1;obtain ⟨⟨x0,x1,x2,x3,x4⟩,f0,f1,f2,f3,f4⟩:=zG k0;have HB:=hide (zc q2 hb1);have K0:=hide k0;have K1:=hide k1;clear hb1 k0 k1;(go_wp2_with fail);refine (zg k 1 1000 _).mono ?_;rintro e w2 ⟨rfl,rfl⟩;rw [T2.out];have lt0:=(Array.getElem?_eq_some_iff.1 K0.out).1;have ne1:¬w.heap.size=w2.heap.size:=by omega
  have ne2:¬w2.heap.size=w.heap.size:=by omega
  (go_wp2_with fail);refine (zav R (C+k) (H+1) B P _).mono ?_;rintro e w3 ⟨rfl,hb3⟩;rw [T3.out];clear x0 x1 x2 x3 x4 f0 f1 f2 f3 f4;have b3:=zc (zl w2 _) hb3;obtain ⟨⟨x0,x1,x2,x3,x4⟩,f0,f1,f2,f3,f4⟩:=zG (za K0.out b3);obtain ⟨⟨y0,y1,y2,y3,y4⟩,g0,g1,g2,g3,g4⟩:=zG (za K1.out b3);have HB3:=hide (zc HB.out b3);clear hb3 b3;go_wp2;exact bodyPost_ret (v:=.tuple #[.agg #[.int .i64 R,.int .i64 C,.int .i64 H,.int .i64 B,.int .i64 P],.bool false]) (by simp [results,Tryz.results153,go_sem, *]) rfl ⟨rfl,zae HB3.out (by omega) _ _ _ _ _⟩
 ·rw [if_pos rfl];have T1:=hide t1;have T2:=hide t2;have T3:=hide t3;clear t1 t2 t3;go_enter Tryz.func153,Tryz.ntmps153;(go_wp2_with fail);refine (zav R C H B P _).mono ?_;rintro e w1 ⟨rfl,hb1⟩;rw [T1.out];obtain ⟨k0,k1⟩:=zcD hb1;obtain ⟨⟨x0,x1,x2,x3,x4⟩,f0,f1,f2,f3,f4⟩:=zG k0;have HB:=hide (zc q2 hb1);have K0:=hide k0;have K1:=hide k1;clear hb1 k0 k1;(go_wp2_with fail);refine (zg k 1 1000 _).mono ?_;rintro e w2 ⟨rfl,rfl⟩;rw [T2.out];have lt0:=(Array.getElem?_eq_some_iff.1 K0.out).1;have ne1:¬w.heap.size=w2.heap.size:=by omega
  have ne2:¬w2.heap.size=w.heap.size:=by omega
  (go_wp2_with fail);refine (zav R (C+k) (H+1) B P _).mono ?_;rintro e w3 ⟨rfl,hb3⟩;rw [T3.out];clear x0 x1 x2 x3 x4 f0 f1 f2 f3 f4;have b3:=zc (zl w2 _) hb3;obtain ⟨⟨x0,x1,x2,x3,x4⟩,f0,f1,f2,f3,f4⟩:=zG (za (zy w2 _) hb3);obtain ⟨⟨y0,y1,y2,y3,y4⟩,g0,g1,g2,g3,g4⟩:=zG (za K1.out b3);have HB3:=hide (zc HB.out b3);clear hb3 b3;go_wp2;exact bodyPost_ret (v:=.tuple #[.agg #[.int .i64 R,.int .i64 (C+k),.int .i64 (H+1),.int .i64 B,.int .i64 P],.bool true]) (by simp [results,Tryz.results153,go_sem, *]) rfl ⟨rfl,zae HB3.out (by omega) _ _ _ _ _⟩

structure PT where
 up:Bool
 k:Int
 has:Bool
 v:VD

def ptF:Flat PT where
 k:=8
 cs:=fun x=>[.bool x.up,.int .i64 x.k,.bool x.has,.int .i64 x.v.r,.int .i64 x.v.c,.int .i64 x.v.h,.int .i64 x.v.b,.int .i64 x.v.p]
 len:=fun _=>rfl
 pos:=by decide
 one:=fun _ v hv=>by
  simp only [List.mem_cons,List.not_mem_nil,or_false] at hv;rcases hv with rfl | rfl | rfl | rfl | rfl | rfl | rfl | rfl <;> rfl

theorem pt_at {w:World} {ao:Option Addr} {len cap:Nat} {l:List PT} (h:GRow ptF w ao len cap l) (i:Nat) (hi:i < len):∃(x:PT) (b off:Nat),l[i]? = some x∧ao=some ⟨b,off,none⟩ ∧
  w.cell? ⟨b,off+i*8,none⟩=some (.bool x.up)∧w.cell? ⟨b,off+i*8+1,none⟩=some (.int .i64 x.k)∧w.cell? ⟨b,off+i*8+2,none⟩=some (.bool x.has) ∧
  w.cell? ⟨b,off+i*8+3,none⟩=some (.int .i64 x.v.r)∧w.cell? ⟨b,off+i*8+4,none⟩=some (.int .i64 x.v.c)∧w.cell? ⟨b,off+i*8+5,none⟩=some (.int .i64 x.v.h)∧w.cell? ⟨b,off+i*8+6,none⟩=some (.int .i64 x.v.b)∧w.cell? ⟨b,off+i*8+7,none⟩=some (.int .i64 x.v.p):=by
 obtain ⟨x,b,off,hx,ha,hc⟩:=h.at i hi;exact ⟨x,b,off,hx,ha,hc 0 _ rfl,hc 1 _ rfl,hc 2 _ rfl,hc 3 _ rfl,hc 4 _ rfl,hc 5 _ rfl,hc 6 _ rfl,hc 7 _ rfl⟩

def zeQ (v:VD):Bool:=v.r == 0 && (v.c == 0 && (v.h == 0 && (v.b == 0 && v.p == 0)))
def okVd (v:VD):Bool:=okVc v.r v.c v.h v.b v.p
def ptOk (x:PT):Bool:=(decide (1≤x.k) && decide (x.k≤1000)) && ((x.up || !x.has) && (if x.has then okVd x.v else zeQ x.v))

def stepV (v:VD) (k:Int):VD:=⟨v.r,v.c+k,v.h+1,v.b,v.p⟩
def zb6 (v:VD) (k:Int):Bool:=zaR v.r v.c v.h v.b v.p k
def lessV (u v:VD):Bool:=zaL u.r u.c u.b u.p v.r v.c v.b v.p

def offers (id:Int) (x:PT):Bool:=x.up && (x.has && (zb6 x.v x.k && decide (x.v.r < id)))

def zbd (id:Int) (s:Option (VD × Nat)) (i:Nat) (x:PT):Option (VD × Nat) :=
 if offers id x=true then
  match s with
  | none=>some (stepV x.v x.k,i)
  | some (f,j)=>if lessV (stepV x.v x.k) f=true then some (stepV x.v x.k,i) else some (f,j)
 else s
def zaY (id:Int) (l:List PT):Nat→Option (VD × Nat)
 | 0=>none
 | k+1=>match l[k]? with
  | some x=>zbd id (zaY id l k) k x
  | none=>zaY id l k
def zO (id:Int) (l:List PT):Option (VD × Nat):=zaY id l l.length

def bestV (id:Int):Option (VD × Nat)→VD
 | none=>⟨id,0,0,id,0⟩
 | some (f,_)=>⟨f.r,f.c,f.h,id,0⟩
def bestP:Option (VD × Nat)→Int
 | none => -1
 | some (_,j)=>(j:Int)
def fromV:Option (VD × Nat)→VD
 | none=>⟨0,0,0,0,0⟩
 | some (f,_)=>f

theorem zdG {id:Int} {l:List PT} {k:Nat} {x:PT} (h:l[k]? = some x):zaY id l (k+1)=zbd id (zaY id l k) k x:=by
 rw [zaY,h]

theorem zbE {id:Int} {s:Option (VD × Nat)} {i:Nat} {x:PT} (h:offers id x=false):zbd id s i x=s:=by
 unfold zbd;rw [if_neg (by simp [h])]

def sayV (id:Int) (l:List PT) (port:Int):VD:=⟨(bestV id (zO id l)).r,(bestV id (zO id l)).c,(bestV id (zO id l)).h,id,port⟩

def zcT (id:Int) (l:List PT) (i:Nat) (x:PT):Int :=
 if x.up=false then 4
 else if bestP (zO id l)=(i:Int) then 1
 else if (!x.has || lessV (sayV id l i) x.v)=true then 2
 else 3
def zaw (id:Int) (l:List PT) (port:Int):Int :=
 if (decide (0≤port) && decide (port≤(l.length:Int) - 1))=true then
  match l[port.toNat]? with
  | some x=>zcT id l port.toNat x
  | none=>4
 else 4

def za3 (id:Int) (l:List PT):Nat→Int
 | 0=>0
 | k+1=>if zaw id l (k:Int)≤2 then bits .or .i64 (za3 id l k) (2 ^ k) else za3 id l k
def zah (id:Int) (l:List PT):Int:=za3 id l (min l.length 6)

end Go.Proofs.YtkaefmfopejbaaaGreat
