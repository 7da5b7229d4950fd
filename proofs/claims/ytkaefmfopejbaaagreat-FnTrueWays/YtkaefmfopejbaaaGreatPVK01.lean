/-
  Packed: SetMath WaySum Base Help Mem Flat FlatOwn.
-/
import Derived.Test.YtkaefmfopejbaaaGreatRows
import Derived.WalkKit
import Derived.WalkSpells
import Derived.WalkLawsBesides
import Derived.Deep.QuietTactic
import Derived.BigQuiet
import Derived.Laws.AppendOwnNone
import Derived.Deep.RegionWith
import Derived.Deep.RegionLaw
import Derived.Deep.RegionHeld
import Derived.Lib.SmallJoins
namespace Go.Proofs.YtkaefmfopejbaaaGreat
set_option maxRecDepth 100000
set_option maxHeartbeats 16000000
open Go.RowKit

theorem zb {w w1:World} {o:Obj} (h:w.alloc o=w1):Below w.heap.size w w1:=h▸(Below.refl _ _).alloc (Nat.le_refl _) o

theorem zk {w w1:World} {o:Obj} (h:w.alloc o=w1):w1.heap[w.heap.size]? = some o:=by
 subst h
 show (w.heap.push o)[w.heap.size]? = _
 simp

abbrev zcc (W:World) (b j:Nat) (v:Value):Prop:=W.cell? ⟨b,j,none⟩=some v

theorem lA {α:Type} (l:List α) (i:Nat) (a:α):l.toArray.setIfInBounds i a=(l.set i a).toArray:=List.setIfInBounds_toArray ..

theorem lB {α:Type} (a b:α) (l:List α):(a::l).set 0 b=b::l:=List.set_cons_zero

theorem lC {α:Type} (a b:α) (l:List α) (n:Nat):(a::l).set (n+1) b=a::l.set n b:=List.set_cons_succ

section


structure T3 where
 r:Int
 c:Int
 h:Int

structure Gr (m:Nat) (id:Nat→Int) (E:Nat→Nat→Nat→Int→Prop):Prop where
 lt:∀u v q k,E u v q k→u < m∧v < m
 cost:∀u v q k,E u v q k→1≤k∧k≤1000
 apart:∀u v,u < m→v < m→id u=id v→u=v
 port:∀u v q k,E u v q k→q < 8
 pos:∀u,u < m→0≤id u
 six:m≤6

def Wlk (E:Nat→Nat→Nat→Int→Prop) (x:Nat):Nat→Nat→Int→Prop
 | 0,u,c=>u=x∧c=0
 | h+1,u,c=>∃v q k c',Wlk E x h v c'∧E u v q k∧c=c'+k

def Least (E:Nat→Nat→Nat→Int→Prop) (x u:Nat) (c:Int):Prop:=(∃h,Wlk E x h u c)∧∀h c',Wlk E x h u c'→c≤c'

def Tree (E:Nat→Nat→Nat→Int→Prop) (id:Nat→Int) (x:Nat):Nat→Nat→Int→Prop
 | 0,u,c=>u=x∧c=0
 | n+1,u,c=>Least E x u c∧∃v q k,E u v q k∧Tree E id x n v (c - k)∧∀v' q' k',E u v' q' k'→(∃h,Wlk E x h v' (c - k'))→id v < id v'∨(id v=id v'∧q≤q')

section
variable {m:Nat} {id:Nat→Int} {E:Nat→Nat→Nat→Int→Prop}

theorem zcl (g:Gr m id E) {x:Nat}:∀{h u:Nat} {c:Int},Wlk E x h u c→0≤c∧c≤1000*h∧(h=0∨1≤c)
 | 0,u,c,hw=>by
  obtain ⟨-,rfl⟩:=hw;omega
 | h+1,u,c,hw=>by
  obtain ⟨v,q,k,c',hv,he,rfl⟩:=hw
  have:=zcl g hv
  have:=g.cost _ _ _ _ he
  omega

theorem zeQ {P:Nat→Prop}:∀n,P n→∃k,P k∧∀j,P j→k≤j:=by
 intro n
 induction n using Nat.strongRecOn with
 | ind n ih =>
  intro hn;by_cases h:∃j,j < n∧P j
  ·obtain ⟨j,hj,hp⟩:=h;exact ih j hj hp
  ·exact ⟨n,hn,fun j hj=>Nat.le_of_not_lt (fun hc=>h ⟨j,hc,hj⟩)⟩

theorem zfC (g:Gr m id E) {x u h:Nat} {c:Int} (hw:Wlk E x h u c):∃c',Least E x u c'∧c'≤c:=by
 obtain ⟨k,⟨h',hk⟩,hl⟩:=zeQ (P:=fun n=>∃h,Wlk E x h u (n:Int)) c.toNat ⟨h,by
  have:=zcl g hw
  rw [show ((c.toNat:Nat):Int)=c by omega];exact hw⟩
 have key:∀h c',Wlk E x h u c'→(k:Int)≤c':=fun h2 c' hw2=>by
  have h3:=zcl g hw2
  have:=hl c'.toNat ⟨h2,by rw [show ((c'.toNat:Nat):Int)=c' by omega]; exact hw2⟩
  omega
 exact ⟨k,⟨⟨h',hk⟩,key⟩,key _ _ hw⟩

theorem zbq {x u:Nat} {c c':Int} (h:Least E x u c) (h':Least E x u c'):c=c':=by
 obtain ⟨⟨a,ha⟩,hl⟩:=h;obtain ⟨⟨b,hb⟩,hl'⟩:=h'
 have:=hl _ _ hb
 have:=hl' _ _ ha
 omega

theorem zcO (g:Gr m id E) (x:Nat):Least E x x 0:=⟨⟨0,rfl,rfl⟩,fun _ _ hw=>(zcl g hw).1⟩

theorem zbT {x u v q:Nat} {c k:Int} (h:Least E x u c) (he:E u v q k) {j:Nat} (hw:Wlk E x j v (c - k)):Least E x v (c - k) :=
 ⟨⟨j,hw⟩,fun j' c' hw'=>by
  have:=h.2 (j'+1) (c'+k) ⟨v,q,k,c',hw',he,rfl⟩
  omega⟩

theorem zgR (g:Gr m id E) {x:Nat}:∀{n u:Nat} {c:Int},Tree E id x n u c→Least E x u c
 | 0,u,c,h=>by
  obtain ⟨rfl,rfl⟩:=h;exact zcO g _
 | n+1,u,c,h=>h.1

theorem zgk {x:Nat}:∀{n u:Nat} {c:Int},Tree E id x n u c→Wlk E x n u c
 | 0,u,c,h=>h
 | n+1,u,c,h=>by
  obtain ⟨-,v,q,k,he,ht,-⟩:=h;exact ⟨v,q,k,c - k,zgk ht,he,by omega⟩

theorem zgS (g:Gr m id E) {x:Nat}:∀(n:Nat) {u:Nat} {c:Int},c.toNat=n→Least E x u c→∃k,Tree E id x k u c:=by
 intro n
 induction n using Nat.strongRecOn with
 | ind n ih =>
  intro u c hc hl;obtain ⟨⟨h,hw⟩,hle⟩:=hl;cases h with
  | zero=>exact ⟨0,hw⟩
  | succ h =>
   obtain ⟨v0,q0,k0,c0,hv,he,rfl⟩:=hw;have hP:∃v q k,E u v q k∧(∃h,Wlk E x h v (c0+k0 - k))∧(id v).toNat*8+q=(id v0).toNat*8+q0:=⟨v0,q0,k0,he,⟨h,by rw [show c0+k0 - k0=c0 by omega]; exact hv⟩,rfl⟩;obtain ⟨z,⟨v,q,k,he',⟨j,hw'⟩,hz⟩,hmin⟩:=zeQ (P:=fun z=>∃v q k,E u v q k∧(∃h,Wlk E x h v (c0+k0 - k))∧(id v).toNat*8+q=z) _ hP;have hL:Least E x u (c0+k0):=⟨⟨h+1,v0,q0,k0,c0,hv,he,rfl⟩,hle⟩;have hk:=g.cost _ _ _ _ he';have hp:=zcl g hw';obtain ⟨n',ht⟩:=ih (c0+k0 - k).toNat (by omega) rfl (zbT hL he' hw');refine ⟨n'+1,hL,v,q,k,he',ht,fun v' q' k' he2 hw2 => ?_⟩;have h1:=hmin _ ⟨v',q',k',he2,hw2,rfl⟩;have q1:=g.port _ _ _ _ he';have q2:=g.port _ _ _ _ he2;have p1:=g.pos _ (g.lt _ _ _ _ he').2;have p2:=g.pos _ (g.lt _ _ _ _ he2).2;omega

theorem zdu:∀(k:Nat) (l:List Nat),l.Nodup→(∀y∈l,y < k)→l.length≤k
 | 0,l,_,h=>by
  cases l with
  | nil=>simp
  | cons a l=>have:=h a (by simp); omega
 | k+1,l,hn,h=>by
  have h1:=zdu k (l.filter (fun y=>y != k)) (hn.filter _) (fun y hy=>by
   obtain ⟨ha,hb⟩:=List.mem_filter.1 hy
   have:=h y ha
   simp at hb
   omega)
  have h2:(l.filter (fun y => !(y != k))).length≤1:=by
   have e:l.filter (fun y => !(y != k))=l.filter (fun y=>y == k):=List.filter_congr (fun y _=>by cases hy:(y == k) <;> simp [bne,hy]);rw [e,← List.count_eq_length_filter];exact List.nodup_iff_count.1 hn k
  have h3:l.length=(l.filter (fun y=>y != k)).length+(l.filter (fun y => !(y != k))).length:=by
   clear h1 h2 h hn
   induction l with
   | nil=>rfl
   | cons a l ih =>
    by_cases ha:a=k
    ·subst ha
     simp at ih ⊢
     omega
    ·have e:(a != k)=true:=by simp [ha]
     rw [List.filter_cons,List.filter_cons,e]
     simp at ih ⊢
     omega
  omega

theorem ze8 (g:Gr m id E) {x:Nat} (hx:x < m):∀{n u:Nat} {c:Int},Tree E id x n u c→u < m→∃L:List Nat,L.length=n∧(u::L).Nodup∧∀y∈L,y < m∧∃c',c' < c∧Least E x y c'
 | 0,u,c,h,hu=>⟨[],rfl,by simp,by simp⟩
 | n+1,u,c,h,hu=>by
  obtain ⟨hL,v,q,k,he,ht,-⟩:=h;obtain ⟨L,hl,hn,ha⟩:=ze8 g hx ht (g.lt _ _ _ _ he).2;have hk:=g.cost _ _ _ _ he;have hall:∀y∈v::L,y < m∧∃c',c' < c∧Least E x y c':=by
   intro y hy;rcases List.mem_cons.1 hy with rfl | hy
   ·exact ⟨(g.lt _ _ _ _ he).2,c - k,by omega,zgR g ht⟩
   ·obtain ⟨h1,c',h2,h3⟩:=ha y hy;exact ⟨h1,c',by omega,h3⟩
  refine ⟨v::L,by simp [hl],List.nodup_cons.2 ⟨fun hm => ?_,hn⟩,hall⟩;obtain ⟨-,c',h2,h3⟩:=hall u hm
  have:=zbq h3 hL
  omega

theorem zhD (g:Gr m id E) {x n u:Nat} {c:Int} (hx:x < m) (h:Tree E id x n u c) (hu:u < m):n≤5:=by
 obtain ⟨L,hl,hn,ha⟩:=ze8 g hx h hu
 have:=zdu m (u::L) hn (fun y hy=>by
  rcases List.mem_cons.1 hy with rfl | hy
  ·exact hu
  ·exact (ha y hy).1)
 have:=g.six
 simp at *
 omega

variable {B:Nat→Nat→T3}

end

end

section


structure TN where
 b:Nat
 p:Nat
 o:Nat
 s:Int

structure HP where
 f:Nat
 t:Nat
 c:Int

section
variable {m:Nat} {id:Nat→Int} {E:Nat→Nat→Nat→Int→Prop}

def TrOk (m:Nat) (E:Nat→Nat→Nat→Int→Prop) (b:Nat):List TN→Prop
 | []=>False
 | [n]=>n.p=b∧n.p < m∧n.o=2 ^ b∧n.s=0
 | n::n'::r=>TrOk m E b (n'::r)∧n.p < m∧(∃q k,E n'.p n.p q k∧n.s=n'.s+k)∧n.p∉(n'::r).map TN.p∧n.o=n'.o ||| 2 ^ n.p

theorem zcH {x y q:Nat} {k:Int}:∀{h u:Nat} {c:Int},Wlk E x h u c→E x y q k→Wlk E y (h+1) u (c+k)
 | 0,u,c,hw,he=>by
  obtain ⟨rfl,rfl⟩:=hw;exact ⟨y,q,k,0,⟨rfl,rfl⟩,he,rfl⟩
 | h+1,u,c,hw,he=>by
  obtain ⟨v,q',k',c',hv,he',rfl⟩:=hw;exact ⟨v,q',k',c'+k,zcH hv he,he',by omega⟩

theorem zhC {b:Nat}:∀{n:TN} {r:List TN},TrOk m E b (n::r)→∃h,Wlk E n.p h b n.s
 | n,[],h=>by
  obtain ⟨h1,-,-,h3⟩:=h;exact ⟨0,h1.symm,h3⟩
 | n,n'::r,h=>by
  obtain ⟨h1,-,⟨q,k,h3,h4⟩,-⟩:=h;obtain ⟨j,hj⟩:=zhC h1;exact ⟨j+1,by rw [h4]; exact zcH hj h3⟩

theorem zfO {b:Nat}:∀{l:List TN},TrOk m E b l→(l.map TN.p).Nodup∧∀y∈l.map TN.p,y < m
 | [],h=>h.elim
 | [n],h=>⟨by simp,by intro y hy; simp at hy; subst hy; exact h.2.1⟩
 | n::n'::r,h=>by
  obtain ⟨h1,h2,-,h4,-⟩:=h;obtain ⟨i1,i2⟩:=zfO h1;refine ⟨?_, ?_⟩
  ·rw [List.map_cons,List.nodup_cons];exact ⟨h4,i1⟩
  ·intro y hy;rw [List.map_cons,List.mem_cons] at hy;rcases hy with rfl | hy
   ·exact h2
   ·exact i2 y hy

theorem zgj {b:Nat} {l:List TN} (g:Gr m id E) (h:TrOk m E b l):l.length≤6:=by
 obtain ⟨h1,h2⟩:=zfO h
 have:=zdu m _ h1 h2
 rw [List.length_map] at this;exact Nat.le_trans this g.six

theorem zc3 (y z:Nat):(2 ^ y).testBit z=decide (y=z):=by
 rw [Nat.testBit_two_pow]

theorem zhB {b:Nat}:∀{n:TN} {r:List TN},TrOk m E b (n::r)→∀z,n.o.testBit z=true↔z∈(n::r).map TN.p
 | n,[],h=>fun z=>by
  obtain ⟨h1,-,h2,-⟩:=h;rw [h2,zc3,← h1]
  simp [eq_comm]
 | n,n'::r,h=>fun z=>by
  obtain ⟨h1,-,-,-,h5⟩:=h;have ih:=zhB h1 z;rw [h5,Nat.testBit_or,Bool.or_eq_true,ih,zc3,List.map_cons (a:=n),List.mem_cons];simp only [decide_eq_true_eq]
  constructor
  ·rintro (h | rfl)
   ·exact .inr h
   ·exact .inl rfl
  ·rintro (rfl | h)
   ·exact .inr rfl
   ·exact .inl h

theorem zc7 {b:Nat} (g:Gr m id E):∀{n:TN} {r:List TN},TrOk m E b (n::r)→n.p < 6∧n.o < 64∧0≤n.s∧n.s≤1000*(r.length:Int)
 | n,[],h=>by
  obtain ⟨h1,h2,h3,h4⟩:=h;have h6:=g.six;refine ⟨by omega, ?_,by omega,by rw [h4]; simp⟩;rw [h3];exact Nat.lt_of_lt_of_le (Nat.pow_lt_pow_right (by omega) (show b < 6 by omega)) (by omega)
 | n,n'::r,h=>by
  obtain ⟨h1,h2,⟨q,k,h3,h4⟩,-,h5⟩:=h;obtain ⟨i1,i2,i3,i4⟩:=zc7 g h1;have h6:=g.six;have hk:=g.cost _ _ _ _ h3;refine ⟨by omega, ?_,by omega,by rw [List.length_cons]; omega⟩;rw [h5];exact Nat.or_lt_two_pow (n:=6) i2 (Nat.pow_lt_pow_right (by omega) (show n.p < 6 by omega))

def zan:List TN→Nat × Nat
 | []=>(0,0)
 | n::_=>(n.p,n.o)
def zao:List TN→Int
 | []=>0
 | n::_=>n.s
def pathOf (l:List TN):List Nat:=l.map TN.p

def Done (E:Nat→Nat→Nat→Int→Prop) (g:Nat × Nat→Option Int) (a:Nat × Nat) (v:Int):Prop :=
 ∀y q k,E a.1 y q k→a.2.testBit y=false→∃v',g (y,a.2 ||| 2 ^ y)=some v'∧v'≤v+k

structure Srch (m:Nat) (E:Nat→Nat→Nat→Int→Prop) (b:Nat) (work:List (List TN)) (g:Nat × Nat→Option Int):Prop where
 ok:∀t∈work,TrOk m E b t
 at':∀t∈work,∃v,g (zan t)=some v∧v≤zao t
 true':∀a v,g a=some v→∃t,TrOk m E b t∧zan t=a∧zao t=v
 first:∃v,g (b,2 ^ b)=some v∧v≤0
 done:∀a v,g a=some v→(∃t∈work,zan t=a∧zao t=v)∨Done E g a v

theorem zgm [DecidableEq (Nat × Nat)] {g:Nat × Nat→Option Int} {a c:Nat × Nat} {v s:Int} (h:g a=some v) (hs:∀u,g c=some u→s≤u):∃v',(if a=c then some s else g a)=some v'∧v'≤v:=by
 by_cases e:a=c
 ·subst e;rw [if_pos rfl];exact ⟨s,rfl,hs v h⟩
 ·rw [if_neg e];exact ⟨v,h,Int.le_refl _⟩

theorem Srch.push {b:Nat} {work:List (List TN)} {g:Nat × Nat→Option Int} (h:Srch m E b work g) {t:List TN} (ht:TrOk m E b t) (hs:∀u,g (zan t)=some u→zao t < u) :
  Srch m E b (work++[t]) (fun x=>if x=zan t then some (zao t) else g x) where
 ok:=by
  intro u hu;rcases List.mem_append.1 hu with hu | hu
  ·exact h.ok u hu
  ·rw [List.mem_singleton] at hu;subst hu;exact ht
 at':=by
  intro u hu;rcases List.mem_append.1 hu with hu | hu
  ·obtain ⟨v,h1,h2⟩:=h.at' u hu;obtain ⟨v',h3,h4⟩:=zgm (c:=zan t) (s:=zao t) h1 (fun x hx=>Int.le_of_lt (hs x hx));exact ⟨v',h3,by omega⟩
  ·rw [List.mem_singleton] at hu;subst hu;exact ⟨zao u,if_pos rfl,Int.le_refl _⟩
 true':=by
  intro a v hv;by_cases e:a=zan t
  ·subst e;rw [if_pos rfl] at hv;cases hv;exact ⟨t,ht,rfl,rfl⟩
  ·rw [if_neg e] at hv;exact h.true' a v hv
 first:=by
  obtain ⟨v,h1,h2⟩:=h.first;obtain ⟨v',h3,h4⟩:=zgm (c:=zan t) (s:=zao t) h1 (fun x hx=>Int.le_of_lt (hs x hx));exact ⟨v',h3,by omega⟩
 done:=by
  intro a v hv;by_cases e:a=zan t
  ·subst e;rw [if_pos rfl] at hv;cases hv;exact .inl ⟨t,List.mem_append_right _ (List.mem_singleton.2 rfl),rfl,rfl⟩
  ·rw [if_neg e] at hv;rcases h.done a v hv with ⟨u,h1,h2⟩ | hd
   ·exact .inl ⟨u,List.mem_append_left _ h1,h2⟩
   ·refine .inr (fun y q k he hb => ?_);obtain ⟨v1,h3,h4⟩:=hd y q k he hb;obtain ⟨v',h5,h6⟩:=zgm (c:=zan t) (s:=zao t) h3 (fun x hx=>Int.le_of_lt (hs x hx));exact ⟨v',h5,by omega⟩

theorem Srch.skip {b:Nat} {t:List TN} {work:List (List TN)} {g:Nat × Nat→Option Int} (h:Srch m E b (t::work) g) {v0:Int} (hg:g (zan t)=some v0) (hlt:v0 < zao t):Srch m E b work g where
 ok:=fun u hu=>h.ok u (List.mem_cons_of_mem _ hu)
 at':=fun u hu=>h.at' u (List.mem_cons_of_mem _ hu)
 true':=h.true'
 first:=h.first
 done:=by
  intro a v hv;rcases h.done a v hv with ⟨u,h1,h2,h3⟩ | hd
  ·rcases List.mem_cons.1 h1 with rfl | h1
   ·rw [← h2,hg] at hv;cases hv;omega
   ·exact .inl ⟨u,h1,h2,h3⟩
  ·exact .inr hd

def On (E:Nat→Nat→Nat→Int→Prop) (n:TN) (r:List TN) (L:List (List TN)):Prop :=
 ∀y q k,E n.p y q k→y∉(n::r).map TN.p→∃t'∈L,zan t'=(y,n.o ||| 2 ^ y)∧zao t'=n.s+k

theorem Srch.off {b:Nat} {n:TN} {r:List TN} {work:List (List TN)} {g:Nat × Nat→Option Int} (h:Srch m E b ((n::r)::work) g) {L:List (List TN)} (hL:On E n r L) (ht:∀t'∈L,∃v,g (zan t')=some v∧v≤zao t'):Srch m E b work g where
 ok:=fun u hu=>h.ok u (List.mem_cons_of_mem _ hu)
 at':=fun u hu=>h.at' u (List.mem_cons_of_mem _ hu)
 true':=h.true'
 first:=h.first
 done:=by
  intro a v hv;rcases h.done a v hv with ⟨u,h1,h2,h3⟩ | hd
  ·rcases List.mem_cons.1 h1 with rfl | h1
   ·refine .inr (fun y q k he hb => ?_);rw [← h2] at he hb ⊢;have hn:y∉(n::r).map TN.p:=fun hm=>by
     have:=(zhB (h.ok _ (List.mem_cons_self ..)) y).2 hm
     have hb:n.o.testBit y=false:=hb;rw [this] at hb;cases hb
    obtain ⟨t',m1,m2,m3⟩:=hL y q k he hn;obtain ⟨v',m4,m5⟩:=ht t' m1;rw [m2] at m4;have h3:n.s=v:=h3;exact ⟨v',m4,by omega⟩
   ·exact .inl ⟨u,h1,h2,h3⟩
  ·exact .inr hd

theorem zhy (g0:Gr m id E) {b x:Nat} {g:Nat × Nat→Option Int} (h:Srch m E b [] g):∀(n:Nat) {u o:Nat} {v c:Int},c.toNat=n→Least E x u c→g (u,o)=some v→(∀z,o.testBit z=true→∃cz,Least E x z cz∧c≤cz)→∃o' v',g (x,o')=some v'∧v'≤v+c:=by
 intro n
 induction n using Nat.strongRecOn with
 | ind n ih =>
  intro u o v c hc hl hg hz;obtain ⟨⟨j,hw⟩,hle⟩:=hl;cases j with
  | zero =>
   obtain ⟨rfl,rfl⟩:=hw;exact ⟨o,v,hg,by omega⟩
  | succ j =>
   obtain ⟨y,q,k,c',hv,he,rfl⟩:=hw;have hL:Least E x u (c'+k):=⟨⟨j+1,y,q,k,c',hv,he,rfl⟩,hle⟩;have hk:=g0.cost _ _ _ _ he;have hp:=zcl g0 hv;have hy:Least E x y c':=by
    have:=zbT hL he (j:=j) (by rw [show c'+k - k=c' by omega]; exact hv)
    rwa [show c'+k - k=c' by omega] at this
   have hnb:o.testBit y=false:=by
    cases hb:o.testBit y with
    | false=>rfl
    | true =>
     obtain ⟨cz,h1,h2⟩:=hz y hb
     have:=zbq hy h1
     omega
   rcases h.done (u,o) v hg with ⟨t,h1,-⟩ | hd
   ·cases h1
   ·obtain ⟨v',h3,h4⟩:=hd y q k he hnb;obtain ⟨o2,v2,h5,h6⟩:=ih c'.toNat (by omega) rfl hy h3 (fun z hb=>by
     dsimp only at hb;rw [Nat.testBit_or,Bool.or_eq_true,zc3,decide_eq_true_eq] at hb;rcases hb with hb | rfl
     ·obtain ⟨cz,a1,a2⟩:=hz z hb;exact ⟨cz,a1,by omega⟩
     ·exact ⟨c',hy,Int.le_refl _⟩)
    exact ⟨o2,v2,h5,by omega⟩

theorem zgM (g0:Gr m id E) {b x:Nat} {g:Nat × Nat→Option Int} (h:Srch m E b [] g) {c:Int} (hl:Least E x b c):(∃o v,g (x,o)=some v∧v≤c)∧∀o v,g (x,o)=some v→c≤v:=by
 refine ⟨?_,fun o v hv => ?_⟩
 ·obtain ⟨v0,h1,h2⟩:=h.first;obtain ⟨o',v',h3,h4⟩:=zhy g0 h _ rfl hl h1 (fun z hz=>by
   rw [zc3,decide_eq_true_eq] at hz;subst hz;exact ⟨c,hl,Int.le_refl _⟩)
  exact ⟨o',v',h3,by omega⟩
 ·obtain ⟨t,h1,h2,h3⟩:=h.true' _ _ hv;cases t with
  | nil=>exact h1.elim
  | cons n r =>
   obtain ⟨j,hj⟩:=zhC h1;have e:n.p=x:=congrArg Prod.fst h2;have h3:n.s=v:=h3;rw [e] at hj
   have:=hl.2 _ _ hj
   omega

theorem zgN {b:Nat} (hb:b < m) (B:Nat):Srch m E b [[⟨B,b,2 ^ b,0⟩]] (fun x=>if x=(b,2 ^ b) then some 0 else none) where
 ok:=by
  intro t ht;rw [List.mem_singleton] at ht;subst ht;exact ⟨rfl,hb,rfl,rfl⟩
 at':=by
  intro t ht;rw [List.mem_singleton] at ht;subst ht;exact ⟨0,if_pos rfl,Int.le_refl _⟩
 true':=by
  intro a v hv;by_cases e:a=(b,2 ^ b)
  ·subst e;rw [if_pos rfl] at hv;cases hv;exact ⟨[⟨B,b,2 ^ b,0⟩],⟨rfl,hb,rfl,rfl⟩,rfl,rfl⟩
  ·rw [if_neg e] at hv;cases hv
 first:=⟨0,if_pos rfl,Int.le_refl _⟩
 done:=by
  intro a v hv;by_cases e:a=(b,2 ^ b)
  ·subst e;rw [if_pos rfl] at hv;cases hv;exact .inl ⟨_,List.mem_singleton.2 rfl,rfl,rfl⟩
  ·rw [if_neg e] at hv;cases hv

def wgt (t:List TN):Nat:=20 ^ (6 - t.length)
def wgts (l:List (List TN)):Nat:=(l.map wgt).sum

theorem zb2 (t:List TN) (l:List (List TN)):wgts (t::l)=wgt t+wgts l:=by simp [wgts]
theorem zhK (l:List (List TN)) (t:List TN):wgts (l++[t])=wgts l+wgt t:=by simp [wgts,List.sum_append]
theorem zeF (t:List TN):0 < wgt t:=Nat.pow_pos (by omega)
theorem ziv {t t':List TN} (h:t'.length=t.length+1) (h6:t'.length≤6):20*wgt t'=wgt t:=by
 unfold wgt;rw [show 6 - t.length=(6 - t'.length)+1 by omega,Nat.pow_succ,Nat.mul_comm]
end

end

def cB (zs:List Int):List Value:=zs.map (Value.int .u8)

def Byt (zs:List Int):Prop:=∀z∈zs,0≤z∧z≤255

theorem zgX (zs:List Int):(cB zs).length=zs.length:=by simp [cB]
theorem zjb (a b:List Int):cB (a++b)=cB a++cB b:=by simp [cB]
theorem zjc (zs:List Int) (j:Nat) (h:j < zs.length):(cB zs)[j]? = some (.int .u8 (zs.getD j 0)):=by
 simp [cB,List.getElem?_map,List.getElem?_eq_getElem h]

structure Row (w:World) (ao:Option Addr) (len cap:Nat) (zs:List Int):Prop where
 size:zs.length=len
 le:len≤cap
 top:cap≤maxLen
 nil:ao=none→cap=0
 byte:Byt zs
 cell:len=0∨∃b off,ao=some ⟨b,off,none⟩∧∀i,i < len→w.cell? ⟨b,off+i,none⟩=some (.int .u8 (zs.getD i 0))

theorem zp {w:World} {a:Addr} {v:Value} (h:w.cell? a=some v):a.block < w.heap.size:=by
 unfold World.cell? at h;by_cases hb:a.block < w.heap.size
 ·exact hb
 ·rw [Array.getElem?_eq_none (by omega)] at h
  simp at h

theorem Row.below {w w':World} {ao:Option Addr} {len cap:Nat} {zs:List Int} (h:Row w ao len cap zs) (hb:Below w.heap.size w w'):Row w' ao len cap zs where
 size:=h.size
 le:=h.le
 top:=h.top
 nil:=h.nil
 byte:=h.byte
 cell:=by
  rcases h.cell with h0 | ⟨b,off,ha,hc⟩
  ·exact .inl h0
  ·exact .inr ⟨b,off,ha,fun i hi=>by rw [hb.cell (zp (hc i hi))]; exact hc i hi⟩

theorem zfg {B:Nat} {a w:World} (h:Below B a w) (n:Nat):Below B a (w.drewN n) :=
 ⟨h.os,h.tape,h.output,h.size,h.block⟩

theorem zed (b off j:Nat):(⟨b,off,none⟩:Addr).add j=⟨b,off+j,none⟩:=by
 by_cases h:j=0 <;> simp [Addr.add,h]

theorem Row.news {w:World} {ao:Option Addr} {len cap:Nat} {zs:List Int} (h:Row w ao len cap zs) (ad:Addr) (ha:ao=some ad) (j:Nat) (u:Value) (hu:(cB zs)[j]? = some u):w.cell? (ad.add j)=some u:=by
 have hj:j < zs.length:=by
  by_cases hlt:j < zs.length
  ·exact hlt
  ·rw [List.getElem?_eq_none (by rw [zgX]; omega)] at hu;cases hu
 rw [zjc _ _ hj] at hu;rcases h.cell with h0 | ⟨b,off,hb,hc⟩
 ·have:=h.size; omega
 ·rw [ha] at hb;cases hb;rw [← hu];rw [zed]; exact hc j (by have:=h.size; omega)

theorem hide {p:Prop} (h:p):Hid p:=h

theorem zg7 {zs:List Int} (h:Byt zs) (j:Nat):0≤zs.getD j 0∧zs.getD j 0≤255:=by
 by_cases hj:j < zs.length
 ·rw [List.getD_eq_getElem?_getD,List.getElem?_eq_getElem hj]; exact h _ (List.getElem_mem hj)
 ·rw [List.getD_eq_getElem?_getD,List.getElem?_eq_none (by omega)]; simp

theorem Row.at {w:World} {ao:Option Addr} {len cap:Nat} {zs:List Int} (h:Row w ao len cap zs) (hp:0 < len):∃b off,ao=some ⟨b,off,none⟩∧∀i,i < len→w.cell? ⟨b,off+i,none⟩=some (.int .u8 (zs.getD i 0)):=by
 rcases h.cell with h0 | h0
 ·omega
 ·exact h0

theorem Byt.at {zs:List Int} (h:Byt zs) (j:Nat):0≤zs.getD j 0∧zs.getD j 0≤255:=zg7 h j

theorem zi0 (w:World):Row w none 0 0 []:=⟨rfl,Nat.le_refl _,Nat.zero_le _,fun _=>rfl,(by intro z hz; cases hz),.inl rfl⟩

theorem zii {w:World} {x:Addr} {len cap:Nat} {zs:List Int} (hl:len≤cap) (hm:cap≤maxLen) (hz:zs.length=cap) (hcell:∀i,i < zs.length→w.cell? (x.add i)=some (.int .u8 (zs.getD i 0))) (hwz:∀n∈zs,(Lit.int .u8 n).wf=true):Row w (some x) len cap (zs.take len) where
 size:=by simp; omega
 le:=hl
 top:=hm
 nil:=by intro h; cases h
 byte:=by
  intro z h
  have:=hwz z (List.mem_of_mem_take h)
  simp [Lit.wf,IntKind.min,IntKind.max,IntKind.bits,IntKind.signed] at this
  omega
 cell:=by
  by_cases h0:len=0
  ·exact .inl h0
  ·have hc0:=hcell 0 (by omega);obtain ⟨b,off,spot⟩:=x;have hspot:spot=none:=by simpa [Addr.add] using World.cell?_spot hc0
   subst hspot;refine .inr ⟨b,off,rfl,fun i hi => ?_⟩
   have:=hcell i (by omega)
   have e:(⟨b,off,none⟩:Addr).add i=⟨b,off+i,none⟩:=by by_cases h:i=0 <;> simp [Addr.add,h]
   rw [e] at this;rw [this]
   simp [List.getD_eq_getElem?_getD,hi]

theorem zai {a b:Bool} (h:a=b):Ending.returned (.bool a)=.returned (.bool b):=by rw [h]
theorem zjz {k:IntKind} {a b:Int} (h:a=b):Ending.returned (.int k a)=.returned (.int k b):=by rw [h]

theorem zbx {w0 w:World} {g:Nat} (h:w0.grownBy w (some g)) (j:Nat) (u:Value):w0.grownBy (w.setCell ⟨g,j,none⟩ u) (some g) where
 os:=h.os
 tape:=h.tape
 output:=h.output
 size:=by have:=h.size; simpa using this
 block:=fun k hk hne=>by
  rw [Below.heap_setCell _ _ _ _ (by intro e; exact hne (by rw [e]))];exact h.block k hk hne

theorem zhp {w w':World} {base:Nat} {e:TypeId} {v:Value} {n:Nat} {xs:List Value} {row:Option Nat} (h:w.ownsRow base e 1 v n xs) (hg:w.grownBy w' row) (hr:∀k,row=some k→k < base):w'.ownsRow base e 1 v n xs:=by
 refine h.kept hg ?_;cases hv:v.ownBlock with
 | none=>exact .inl rfl
 | some k =>
  refine .inr ?_;intro e
  have:=hr k e.symm
  have:=(h.lt k hv).1
  omega

theorem zn (w:World) (o:Obj):Below w.heap.size w (w.alloc o):=(Below.refl _ _).alloc (Nat.le_refl _) o

theorem zay (w:World) (o p:Obj):Below w.heap.size w ((w.alloc o).alloc p):=(zn w o).alloc (by simp) p

theorem zfh (w:World) (o p q:Obj):Below w.heap.size w (((w.alloc o).alloc p).alloc q):=(zay w o p).alloc (by simp; omega) q

theorem zT (w:World) (o:Obj):(w.alloc o).heap[w.heap.size]? = some o:=by show (w.heap.push o)[w.heap.size]? = _; simp

theorem zcu {w w1:World} {o:Obj} (hb:Below (w.alloc o).heap.size (w.alloc o) w1):w1.heap[w.heap.size]? = some o:=by
 rw [hb.block _ (by simp)]; exact zT w o

theorem zcv {w w1:World} {o p:Obj} (hb:Below ((w.alloc o).alloc p).heap.size ((w.alloc o).alloc p) w1):w1.heap[w.heap.size]? = some o∧w1.heap[w.heap.size+1]? = some p:=by
 refine ⟨?_, ?_⟩
 ·have:=zn (w.alloc o) p
  exact zcu (w:=w) (o:=o) ((this.trans (hb.mono this.size)))
 ·have:=zcu (w:=w.alloc o) (o:=p) hb; simpa using this

theorem zgA {w w1:World} {o p q:Obj} (hb:Below (((w.alloc o).alloc p).alloc q).heap.size (((w.alloc o).alloc p).alloc q) w1):w1.heap[w.heap.size]? = some o∧w1.heap[w.heap.size+1]? = some p∧w1.heap[w.heap.size+1+1]? = some q:=by
 have t:=zn ((w.alloc o).alloc p) q;have u:=zcv (w:=w) (o:=o) (p:=p) (t.trans (hb.mono t.size));refine ⟨u.1,u.2, ?_⟩
 have:=zcu (w:=(w.alloc o).alloc p) (o:=q) hb; simpa using this

theorem zy {B:Nat} {a w:World} (h:Below B a w) {g:Nat} (hB:B≤g) (j:Nat) (u:Value):Below B a (w.setCell ⟨g,j,none⟩ u):=h.setCell (p:=⟨g,j,none⟩) hB u

theorem za {w w':World} {i:Nat} {o:Obj} (h:w.heap[i]? = some o) (hb:Below w.heap.size w w'):w'.heap[i]? = some o:=by
 by_cases hlt:i < w.heap.size
 ·rw [hb.block i hlt]; exact h
 ·rw [Array.getElem?_eq_none (by omega)] at h; cases h

theorem zZ {w:World} {C:Nat} {t:TypeId} {c0 c1 c2 c3 c4:Value} (h:w.heap[C]? = some (.cells #[c0,c1,c2,c3,c4] t)) :
  (w.cell? ⟨C,0,none⟩=some c0∧w.cell? ⟨C,1,none⟩=some c1∧w.cell? ⟨C,2,none⟩=some c2∧w.cell? ⟨C,3,none⟩=some c3∧w.cell? ⟨C,4,none⟩=some c4) ∧
  (w.frozen? ⟨C,0,none⟩=false∧w.frozen? ⟨C,1,none⟩=false∧w.frozen? ⟨C,2,none⟩=false∧w.frozen? ⟨C,3,none⟩=false∧w.frozen? ⟨C,4,none⟩=false):=by
 refine ⟨⟨?_, ?_, ?_, ?_, ?_⟩, ?_, ?_, ?_, ?_, ?_⟩ <;> simp [World.cell?,World.frozen?,h]

theorem zD {w:World} {b j:Nat} {cur:Array Value} {t:TypeId} (h:w.heap[b]? = some (.cells cur t)) (u:Value):(w.setCell ⟨b,j,none⟩ u).heap[b]? = some (.cells (cur.setIfInBounds j u) t):=heap_setCell_same w b j cur t u h

theorem zaV {w:World} {i b j:Nat} {o:Obj} {u:Value} (h:w.heap[i]? = some o) (hne:i≠b):(w.setCell ⟨b,j,none⟩ u).heap[i]? = some o:=by rw [Below.heap_setCell _ _ _ _ hne]; exact h

theorem zbP {w:World} {C:Nat} {t:TypeId} {c0 c1:Value} (h:w.heap[C]? = some (.cells #[c0,c1] t)) :
  (w.cell? ⟨C,0,none⟩=some c0∧w.cell? ⟨C,1,none⟩=some c1)∧(w.frozen? ⟨C,0,none⟩=false∧w.frozen? ⟨C,1,none⟩=false):=by
 refine ⟨⟨?_, ?_⟩, ?_, ?_⟩ <;> simp [World.cell?,World.frozen?,h]

theorem zgK {w:World} {b:Nat} {c0 c1:Value} {t:TypeId} (h:w.heap[b]? = some (.cells #[c0,c1] t)) (u:Value):(w.setCell ⟨b,1,none⟩ u).heap[b]? = some (.cells #[c0,u] t):=by
 have:=heap_setCell_same w b 1 #[c0,c1] t u h
 simpa using this

theorem zL {a b c:World} {row:Option Nat} (h:a.grownBy b row) (k:b.grownBy c row):a.grownBy c row :=
 ⟨k.os.trans h.os,k.tape.trans h.tape,k.output.trans h.output,Nat.le_trans h.size k.size,fun i hi hn=>(k.block i (Nat.lt_of_lt_of_le hi h.size) hn).trans (h.block i hi hn)⟩

theorem zj {w:World} {rb:Nat} (j:Nat) (u:Value):w.grownBy (w.setCell ⟨rb,j,none⟩ u) (some rb):=zbx (World.grownBy.refl _ _) j u

theorem ze {w w':World} {row:Option Nat} {i:Nat} {o:Obj} (h:w.heap[i]? = some o) (hg:w.grownBy w' row) (hne:∀k,row=some k→k≠i):w'.heap[i]? = some o:=by
 by_cases hlt:i < w.heap.size
 ·rw [hg.block i hlt (fun e=>hne i e.symm rfl)]; exact h
 ·rw [Array.getElem?_eq_none (by omega)] at h; cases h

theorem zau {B:Nat} {a w:World} (h:Below B a w) {g:Nat} (hB:B≤g) (c0 c1 c2 c3 c4:Value):Below B a (((((w.setCell ⟨g,0,none⟩ c0).setCell ⟨g,1,none⟩ c1).setCell ⟨g,2,none⟩ c2).setCell ⟨g,3,none⟩ c3).setCell ⟨g,4,none⟩ c4) :=
 zy (zy (zy (zy (zy h hB 0 c0) hB 1 c1) hB 2 c2) hB 3 c3) hB 4 c4

theorem Row.set {w:World} {b off len cap:Nat} {zs:List Int} (h:Row w (some ⟨b,off,none⟩) len cap zs) {P:Nat} (hP:¬b=P) (j:Nat) (u:Value):Row (w.setCell ⟨P,j,none⟩ u) (some ⟨b,off,none⟩) len cap zs where
 size:=h.size
 le:=h.le
 top:=h.top
 nil:=h.nil
 byte:=h.byte
 cell:=by
  rcases h.cell with h0 | ⟨b',off',e,hc⟩
  ·exact .inl h0
  ·cases e;refine .inr ⟨b,off,rfl,fun i hi => ?_⟩;rw [World.cell?_setCell_far w ⟨P,j,none⟩ ⟨b,off+i,none⟩ u (fun e=>hP e.symm)];exact hc i hi

theorem zc {w W W':World} (a:Below w.heap.size w W) (b:Below W.heap.size W W'):Below w.heap.size w W':=a.trans (b.mono a.size)

theorem zG {w W:World} (a:Below w.heap.size w W):Below w.heap.size w W.drew:=a.drew

section
open Go.RowKit

structure Flat (α:Type) where
 k:Nat
 cs:α→List Value
 len:∀x,(cs x).length=k
 pos:0 < k
 one:∀x,∀v∈cs x,v.oneCell'=true

variable {α:Type}

def Flat.all (F:Flat α) (l:List α):List Value:=l.flatMap F.cs

theorem Flat.all_cons (F:Flat α) (x:α) (l:List α):F.all (x::l)=F.cs x++F.all l:=by simp [Flat.all]
theorem Flat.all_append (F:Flat α) (a b:List α):F.all (a++b)=F.all a++F.all b:=by simp [Flat.all]
theorem Flat.all_one (F:Flat α) (x:α):F.all [x]=F.cs x:=by simp [Flat.all]
theorem Flat.all_length (F:Flat α) (l:List α):(F.all l).length=l.length*F.k:=by
 induction l with
 | nil=>simp [Flat.all]
 | cons x l ih=>rw [F.all_cons,List.length_append,ih,F.len,List.length_cons,Nat.add_mul]; omega
theorem Flat.all_oneCell (F:Flat α) (l:List α):∀u∈F.all l,u.oneCell'=true:=by
 intro u hu;obtain ⟨x,_,hx⟩:=List.mem_flatMap.1 hu;exact F.one x u hx

theorem Flat.all_at (F:Flat α):∀(l:List α) (i:Nat) (x:α),l[i]? = some x→∀(j:Nat) (v:Value),(F.cs x)[j]? = some v→(F.all l)[i*F.k+j]? = some v
 | [],i,x,h,_,_,_=>by simp at h
 | y::l,0,x,h,j,v,hv=>by
  simp at h
  subst h;have hj:=(List.getElem?_eq_some_iff.1 hv).1;rw [F.all_cons,Nat.zero_mul,Nat.zero_add,List.getElem?_append_left hj];exact hv
 | y::l,i+1,x,h,j,v,hv=>by
  have h':l[i]? = some x:=by simpa using h
  rw [F.all_cons,List.getElem?_append_right (by rw [F.len,Nat.add_mul]; omega),F.len];rw [show (i+1)*F.k+j - F.k=i*F.k+j by rw [Nat.add_mul]; omega];exact Flat.all_at F l i x h' j v hv

structure GRow (F:Flat α) (w:World) (ao:Option Addr) (len cap:Nat) (l:List α):Prop where
 size:l.length=len
 le:len≤cap
 top:cap≤maxLen
 nil:ao=none→cap=0
 cell:len=0∨∃b off,ao=some ⟨b,off,none⟩∧∀(i:Nat) (x:α),l[i]? = some x→∀(j:Nat) (v:Value),(F.cs x)[j]? = some v→w.cell? ⟨b,off+i*F.k+j,none⟩=some v

theorem zcp (F:Flat α) (w:World):GRow F w none 0 0 []:=⟨rfl,Nat.le_refl _,Nat.zero_le _,fun _=>rfl,.inl rfl⟩

theorem GRow.below {F:Flat α} {w w':World} {ao:Option Addr} {len cap:Nat} {l:List α} (h:GRow F w ao len cap l) (hb:Below w.heap.size w w'):GRow F w' ao len cap l where
 size:=h.size
 le:=h.le
 top:=h.top
 nil:=h.nil
 cell:=by
  rcases h.cell with h0 | ⟨b,off,ha,hc⟩
  ·exact .inl h0
  ·exact .inr ⟨b,off,ha,fun i x hi j v hv=>(hb.cell (zp (hc i x hi j v hv))).trans (hc i x hi j v hv)⟩

theorem GRow.at {F:Flat α} {w:World} {ao:Option Addr} {len cap:Nat} {l:List α} (h:GRow F w ao len cap l) (i:Nat) (hi:i < len):∃x b off,l[i]? = some x∧ao=some ⟨b,off,none⟩∧∀(j:Nat) (v:Value),(F.cs x)[j]? = some v→w.cell? ⟨b,off+i*F.k+j,none⟩=some v:=by
 have hl:=h.size;rcases h.cell with h0 | ⟨b,off,ha,hc⟩
 ·omega
 ·have hx:l[i]? = some l[i]:=List.getElem?_eq_getElem (by omega);exact ⟨_,b,off,hx,ha,hc i _ hx⟩

theorem zi {w w':World} {base k:Nat} {e:TypeId} {v:Value} {n:Nat} {xs:List Value} (h:w.ownsRow base e k v n xs) (hb:Below w.heap.size w w'):w'.ownsRow base e k v n xs:=by
 obtain ⟨hl,h | ⟨g,cap,cur,rfl,hg,hh,h1,h2,h3,h4⟩⟩:=h
 ·exact ⟨hl,.inl h⟩
 ·refine ⟨hl,.inr ⟨g,cap,cur,rfl,hg, ?_,h1,h2,h3,h4⟩⟩;rw [hb.block g ?_]
  ·exact hh
  ·by_cases hlt:g < w.heap.size
   ·exact hlt
   ·rw [Array.getElem?_eq_none (by omega)] at hh
    simp at hh

theorem zB {w:World} {base k:Nat} {e:TypeId} {v:Value} {n:Nat} {xs:List Value} (h:w.ownsRow base e k v n xs) {base':Nat} (hle:base'≤base):w.ownsRow base' e k v n xs:=by
 obtain ⟨hl,h | ⟨g,cap,cur,rfl,hg,hh,h1,h2,h3,h4⟩⟩:=h
 ·exact ⟨hl,.inl h⟩
 ·exact ⟨hl,.inr ⟨g,cap,cur,rfl,by omega,hh,h1,h2,h3,h4⟩⟩

theorem zbn {w:World} {base k:Nat} {e:TypeId} {v:Value} {n:Nat} {xs:List Value} (h:w.ownsRow base e k v n xs):∃ao cap,v=.slice ao n cap:=by
 rcases h.2 with ⟨rfl,rfl⟩ | ⟨g,cap,cur,rfl,_⟩
 ·exact ⟨none,0,rfl⟩
 ·exact ⟨_,cap,rfl⟩

theorem zo {w w':World} {base k:Nat} {e:TypeId} {v:Value} {n:Nat} {xs:List Value} (h:w.ownsRow base e k v n xs) {g:Nat} (hg:w.grownBy w' (some g)) (hne:∀b,v.ownBlock=some b→b≠g):w'.ownsRow base e k v n xs:=by
 refine h.kept hg ?_;cases hv:v.ownBlock with
 | none=>exact .inl rfl
 | some b=>exact .inr (by intro h; cases h; exact hne _ hv rfl)

theorem zA {F:Flat α} {w:World} {base:Nat} {T:TypeId} {ao:Option Addr} {n cap:Nat} {l:List α} (h:w.ownsRow base T F.k (.slice ao n cap) n (F.all l)):GRow F w ao n cap l:=by
 have hl:l.length=n:=by
  have:=h.1
  rw [F.all_length] at this;exact Nat.eq_of_mul_eq_mul_right F.pos this
 rcases h.2 with ⟨e,rfl⟩ | ⟨g,cap',cur,e,hg,hh,h1,h2,h3,h4⟩
 ·cases e;exact ⟨hl,Nat.le_refl _,Nat.zero_le _,fun _=>rfl,.inl rfl⟩
 ·cases e;refine ⟨hl,h1,h2,(by intro h; cases h),.inr ⟨g,0,rfl,fun i x hi j v hv => ?_⟩⟩;have hx:=F.all_at l i x hi j v hv;have hlt:=(List.getElem?_eq_some_iff.1 hx).1;rw [F.all_length] at hlt;rw [Nat.zero_add,h.cellAt _ (by rw [← hl]; exact hlt)];exact hx

theorem GRow.news {F:Flat α} {w:World} {b off n cap:Nat} {l:List α} (h:GRow F w (some ⟨b,off,none⟩) n cap l):∀(j:Nat) (u:Value),(F.all l)[j]? = some u→w.cell? ((⟨b,off,none⟩:Addr).add j)=some u:=by
 intro j u hu;have hj:=(List.getElem?_eq_some_iff.1 hu).1;rw [F.all_length] at hj;have hp:=F.pos;have hi:j / F.k < l.length:=Nat.div_lt_of_lt_mul (by rw [Nat.mul_comm]; exact hj);rcases h.cell with h0 | ⟨b',off',e,hc⟩
 ·have:=h.size
  rw [this,h0] at hi;exact absurd hi (Nat.not_lt_zero _)
 ·cases e;have hx:l[j / F.k]? = some l[j / F.k]:=List.getElem?_eq_getElem hi;have hm:j % F.k < (F.cs l[j / F.k]).length:=by rw [F.len]; exact Nat.mod_lt _ hp
  have hv:=List.getElem?_eq_getElem hm;have ha:=F.all_at l _ _ hx _ _ hv;have hd:j / F.k*F.k+j % F.k=j:=by rw [Nat.mul_comm]; exact Nat.div_add_mod j F.k
  rw [hd] at ha;have hc:=hc _ _ hx _ _ hv;rw [zed];rw [show off+j=off+j / F.k*F.k+j % F.k by omega,hc,← ha,hu]

theorem zce {P:Program} {T:TypeId} {z:Value} {k b:Nat} (h:(P.info? T).map (fun i=>(i.zero,i.size,i.bytes))=some (some z,k,b)):∃i,P.info? T=some i∧i.zero=some z∧i.size=k∧i.bytes=b:=by
 cases hi:P.info? T with
 | none=>rw [hi] at h; simp at h
 | some i =>
  rw [hi] at h
  simp at h
  exact ⟨i,rfl,h.1,h.2.1,h.2.2⟩

theorem zS {F:Flat α} {P:Program} (w:World) {ops:Array Oper} {rest:List Oper} {o:Oper} {a:Act} {Q:Exit→Act→World→Prop} (hgd:o.guard=none)
  (s x:Operand) (t T:TypeId) (ho:o.op=Op.call { callee:=Callee.builtin Builtin.append,args:=#[s,x],argTypes:=#[t,t] }) (base:Nat) {Z:Value} {by8:Nat}
  (ht:P.underlying t=some (TypeDesc.slice T)) (hinfo:(P.info? T).map (fun i=>(i.zero,i.size,i.bytes))=some (some Z,F.k,by8)) (hZ:Z.cells.size=F.k) (hb8:by8≤1024)
  (v:Value) (n:Nat) (xs:List α) (hs:a.eval s=v) (hown:w.ownsRow base T F.k v n (F.all xs)) (ao:Option Addr) (m c:Nat) (zs:List α)
  (hx:a.eval x=.slice ao m c) (hrow:GRow F w ao m c zs) (hsm:n+m≤137438953472) (hbase:base≤w.heap.size)
  (h:∀ao' cap' w',w'.ownsRow base T F.k (.slice ao' (n+m) cap') (n+m) (F.all (xs++zs))→GRow F w' ao' (n+m) cap' (xs++zs)→w.grownBy w' v.ownBlock→Below base w w'→wpList P ops Q rest (a.put o.dst (.slice ao' (n+m) cap')) w') :
  wpList P ops Q (o::rest) a w:=by
 obtain ⟨i0,hi,hz0,hz1,hz2⟩:=zce hinfo;rcases ao with _ | ad
 ·have hc0:=hrow.nil rfl;have hm0:m=0:=by have:=hrow.le; omega
  subst hc0 hm0;have hz:zs=[]:=List.eq_nil_of_length_eq_zero hrow.size;subst hz;refine wpList_append_own_none hgd s x t ho base T i0 F.k ht hi v n (F.all xs) hs hown hx ?_;obtain ⟨ao',cap',rfl⟩:=zbn hown
  have:=h ao' cap' w (by simpa using hown) (by simpa using zA hown) (World.grownBy.refl _ _) (Below.refl _ _)
  simpa using this
 ·have hnews:∀(j:Nat) (u:Value),(F.all zs)[j]? = some u→w.cell? (ad.add j)=some u:=by
   intro j u hu;rcases hrow.cell with h0 | ⟨b,off,e,_⟩
   ·have hl:=(List.getElem?_eq_some_iff.1 hu).1;rw [F.all_length,hrow.size,h0,Nat.zero_mul] at hl;omega
   ·cases e;exact hrow.news j u hu
  have hB:(n+m)*by8≤140737488355328:=Nat.le_trans (Nat.mul_le_mul hsm hb8) (by omega);refine wpList_append_own w hgd s x t ho base T i0 Z F.k by8 ht hi hz0 hz1 hz2 hZ F.pos v n (F.all xs) hs hown ad m c (F.all zs) hx (by rw [F.all_length,hrow.size]) hnews (F.all_oneCell zs) (by unfold maxLen; omega) hB hbase ?_;intro v' w' how hgr _;rw [← F.all_append] at how;have hlt:=hown.lt;obtain ⟨ao',cap',rfl⟩:=zbn how;exact h ao' cap' w' how (zA how) hgr ((Below.refl _ _).grown hgr hbase (by intro k hk; exact (hlt k hk).1))

theorem zh {F:Flat α} {P:Program} {ops:Array Oper} {o:Oper} {a:Act} {w:World} {K:Act→World→Prop} {Q:Exit→Act→World→Prop} {E:Prop} (hgd:o.guard=none)
  (s x:Operand) (t T:TypeId) (ho:o.op=Op.call { callee:=Callee.builtin Builtin.append,args:=#[s,x],argTypes:=#[t,t] }) (base:Nat) {Z:Value} {by8:Nat}
  (ht:P.underlying t=some (TypeDesc.slice T)) (hinfo:(P.info? T).map (fun i=>(i.zero,i.size,i.bytes))=some (some Z,F.k,by8)) (hZ:Z.cells.size=F.k) (hb8:by8≤1024)
  (v:Value) (n:Nat) (xs:List α) (hs:a.eval s=v) (hown:w.ownsRow base T F.k v n (F.all xs)) (ao:Option Addr) (m c:Nat) (zs:List α)
  (hx:a.eval x=.slice ao m c) (hrow:GRow F w ao m c zs) (hsm:n+m≤137438953472) (hbase:base≤w.heap.size)
  (h:∀ao' cap' w',w'.ownsRow base T F.k (.slice ao' (n+m) cap') (n+m) (F.all (xs++zs))→GRow F w' ao' (n+m) cap' (xs++zs)→w.grownBy w' v.ownBlock→Below base w w'→K (a.put o.dst (.slice ao' (n+m) cap')) w') :
  if Region.wanted o (yielded ops a.tmps)=true then Oper.wp P o a w K Q else E:=by
 have hw:Region.wanted o (yielded ops a.tmps)=true:=by simp [Region.wanted,hgd]
 rw [if_pos hw];obtain ⟨i0,hi,hz0,hz1,hz2⟩:=zce hinfo;rcases ao with _ | ad
 ·have hc0:=hrow.nil rfl;have hm0:m=0:=by have:=hrow.le; omega
  subst hc0 hm0;have hz:zs=[]:=List.eq_nil_of_length_eq_zero hrow.size;subst hz;obtain ⟨ao',cap',rfl⟩:=zbn hown;have hrun:=run_append_owned_none (P:=P) w base t o.type T i0 F.k ht hi (.slice ao' n cap') n (F.all xs) hown;have hk:K (a.put o.dst (.slice ao' n cap')) w:=by simpa using h ao' cap' w (by simpa using hown) (by simpa using zA hown) (World.grownBy.refl _ _) (Below.refl _ _)
  unfold Oper.wp
  simp [execOp,ho,resolve,invoke,builtin,hs,hx,hrun,Result.andThen]
  exact hk
 ·have hnews:∀(j:Nat) (u:Value),(F.all zs)[j]? = some u→w.cell? (ad.add j)=some u:=by
   intro j u hu;rcases hrow.cell with h0 | ⟨b,off,e,_⟩
   ·have hl:=(List.getElem?_eq_some_iff.1 hu).1;rw [F.all_length,hrow.size,h0,Nat.zero_mul] at hl;omega
   ·cases e;exact hrow.news j u hu
  have hB:(n+m)*by8≤140737488355328:=Nat.le_trans (Nat.mul_le_mul hsm hb8) (by omega);refine wp_append_own w s x t ho base T i0 Z F.k by8 ht hi hz0 hz1 hz2 hZ F.pos v n (F.all xs) hs hown ad m c (F.all zs) hx (by rw [F.all_length,hrow.size]) hnews (F.all_oneCell zs) (by unfold maxLen; omega) hB hbase ?_;intro v' w' how hgr _;rw [← F.all_append] at how;have hlt:=hown.lt;obtain ⟨ao',cap',rfl⟩:=zbn how;exact h ao' cap' w' how (zA how) hgr ((Below.refl _ _).grown hgr hbase (by intro k hk; exact (hlt k hk).1))

theorem zcq (F:Flat α) (w:World) (x:α) (cs:Array Value) (T:TypeId) (h:cs.toList=F.cs x):GRow F (w.alloc (.cells cs T)) (some ⟨w.heap.size,0,none⟩) 1 1 [x]:=by
 refine ⟨rfl,Nat.le_refl _,by unfold maxLen; omega,(by intro h; cases h),.inr ⟨w.heap.size,0,rfl,fun i y hi j v hv => ?_⟩⟩;have hi0:i=0:=by
  have:=(List.getElem?_eq_some_iff.1 hi).1
  simp at this
  exact this
 subst hi0
 simp at hi
 subst hi;rw [Nat.zero_mul,Nat.zero_add];rw [← h] at hv;have hb:=zT w (.cells cs T);simp only [World.cell?,hb]
 simpa using hv

theorem zaE (F:Flat α) (w w':World) (T:TypeId) (b:Nat) (h:w'.heap[b]? = some (.cells #[] T)) (hb:w.heap.size≤b):w'.ownsRow w.heap.size T F.k (.slice (some ⟨b,0,none⟩) 0 0) 0 (F.all []) :=
 ⟨by simp [Flat.all],.inr ⟨b,0,#[],rfl,hb,h,Nat.le_refl _,Nat.zero_le _,by simp,by simp [Flat.all]⟩⟩

section
variable {H:Type} {enc:TypeId × Value→H} {P:Program} {w:World}

end

end

section
open Go.RowKit

variable {α:Type}

theorem Flat.all_set (F:Flat α) (pre:List α) (x x':α) (post:List α) (j:Nat) (u:Value) (hj:j < F.k) (h:(F.cs x).set j u=F.cs x'):(F.all (pre++x::post)).set (pre.length*F.k+j) u=F.all (pre++x'::post):=by
 rw [F.all_append,F.all_cons,List.set_append_right _ _ (by rw [F.all_length]; omega),F.all_length,Nat.add_sub_cancel_left,List.set_append_left _ _ (by rw [F.len]; exact hj),h,F.all_append,F.all_cons]

theorem zF {F:Flat α} {w:World} {base g n cap:Nat} {T:TypeId} {pre post:List α} {x x':α} (h:w.ownsRow base T F.k (.slice (some ⟨g,0,none⟩) n cap) n (F.all (pre++x::post))) (j:Nat) (u:Value) (hj:j < F.k) (hx:(F.cs x).set j u=F.cs x') :
  (w.setCell ⟨g,pre.length*F.k+j,none⟩ u).ownsRow base T F.k (.slice (some ⟨g,0,none⟩) n cap) n (F.all (pre++x'::post)):=by
 have:=(h.stored (pre.length*F.k+j) u).1
 rw [F.all_set pre x x' post j u hj hx] at this;exact this

theorem zJ {w w':World} {base k:Nat} {e:TypeId} {v:Value} {n:Nat} {xs:List Value} (h:w.ownsRow base e k v n xs) {row:Option Nat} (hg:w.grownBy w' row) (hlt:∀b,row=some b→b < base):w'.ownsRow base e k v n xs:=by
 refine h.kept hg ?_;cases hv:v.ownBlock with
 | none=>exact .inl rfl
 | some b =>
  refine .inr (fun e => ?_);have h1:=(h.lt b hv).1;have h2:=hlt b e.symm;omega

theorem zU {F:Flat α} {w:World} {base g n cap:Nat} {T:TypeId} {l:List α} (h:w.ownsRow base T F.k (.slice (some ⟨g,0,none⟩) n cap) n (F.all l)) {i:Nat} {x:α} (hx:l[i]? = some x) {j:Nat} {v:Value} (hv:(F.cs x)[j]? = some v):w.cell? ⟨g,i*F.k+j,none⟩=some v∧w.frozen? ⟨g,i*F.k+j,none⟩=false:=by
 have ha:=F.all_at l i x hx j v hv;have hlt:=(List.getElem?_eq_some_iff.1 ha).1;have h1:=h.1;refine ⟨?_,h.frozenAt _⟩;rw [h.cellAt _ (by rw [← h1]; exact hlt)];exact ha

theorem zg6 {F:Flat α} {w:World} {base n cap:Nat} {T:TypeId} {ao:Option Addr} {l:List α} (h:w.ownsRow base T F.k (.slice ao n cap) n (F.all l)) (hn:0 < n):∃g,ao=some ⟨g,0,none⟩∧base≤g∧g < w.heap.size:=by
 have hlt:=h.lt;rcases h.2 with ⟨e,h0⟩ | ⟨g,cap',cur,e,hg,_⟩
 ·omega
 ·cases e;exact ⟨g,rfl,hg,(hlt g rfl).2⟩

end

end Go.Proofs.YtkaefmfopejbaaaGreat
