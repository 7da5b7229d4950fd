/-
  Packed: JoinM Draw Drawb PickBlk EvMem FdbEnt OidSame Big AtTwo.
-/
import Derived.Test.YtkaefmfopejbaaaGreatPAK02
namespace Go.Proofs.YtkaefmfopejbaaaGreat
set_option maxRecDepth 100000
set_option maxHeartbeats 16000000
open Go.RowKit

def inB (nb:Nat) (z:Int):Bool:=decide (0≤z) && decide (z≤(nb:Int) - 1)
def zcS (ls:List LK) (k:Int):Option LK:=if 0≤k then ls[k.toNat]? else none
def addTo (nb:Nat) (a b:Int) (o:List Int):List Int:=if (o.contains a && (!(o.contains b) && inB nb b))=true then o++[b] else o
def zdK (nb:Nat) (x:LK) (o:List Int):List Int:=addTo nb x.b x.a (addTo nb x.a x.b o)
def moreK (nb:Nat) (ls:List LK) (o:List Int) (k:Int):List Int:=match zcS ls k with
 | some x=>zdK nb x o
 | none=>o
def zb0 (nb:Nat) (ls:List LK) (l o:List Int):Nat→List Int
 | 0=>o
 | k+1=>match l[k]? with
  | some z=>moreK nb ls (zb0 nb ls l o k) z
  | none=>zb0 nb ls l o k
def moreL (nb:Nat) (ls:List LK) (l o:List Int):List Int:=zb0 nb ls l o l.length
def itTo (nb:Nat) (ls:List LK) (l:List Int) (b:Int):Nat→List Int
 | 0=>[b]
 | k+1=>moreL nb ls l (itTo nb ls l b k)
def zb9 (S:List Int):Nat→List Int
 | 0=>[]
 | k+1=>if S.contains (k:Int)=true then zb9 S k++[(k:Int)] else zb9 S k
def joined (nb:Nat) (ls:List LK) (b:Int) (l:List Int):List Int:=if inB nb b=true then zb9 (itTo nb ls l b nb) nb else []

/-! Each once,and each there. -/
def GoodL (nb:Nat) (o:List Int):Prop:=o.Nodup∧∀z∈o,0≤z∧z < (nb:Int)

theorem zgZ:∀(n:Nat) (l:List Int),l.Nodup→(∀z∈l,0≤z∧z < (n:Int))→l.length≤n
 | 0,l,_,h=>by
  cases l with
  | nil=>exact Nat.le_refl _
  | cons a l=>have:=h a (by simp); omega
 | n+1,l,hn,h=>by
  by_cases hm:(n:Int)∈l
  ·have h1:=zgZ n (l.erase (n:Int)) (hn.erase _) (fun z hz=>by
    have h2:=h z (List.mem_of_mem_erase hz);have h3:z≠(n:Int):=fun e=>by
     rw [e] at hz;exact (List.Nodup.not_mem_erase hn) hz
    omega)
   rw [List.length_erase_of_mem hm] at h1;omega
  ·have h1:=zgZ n l hn (fun z hz=>by
    have h2:=h z hz;have h3:z≠(n:Int):=fun e=>hm (e▸hz)
    omega)
   omega

theorem GoodL.len {nb:Nat} {o:List Int} (h:GoodL nb o):o.length≤nb:=zgZ nb o h.1 h.2

theorem zaU {nb:Nat} {z:Int}:inB nb z=true↔0≤z∧z < (nb:Int):=by
 unfold inB;simp only [Bool.and_eq_true,decide_eq_true_eq];omega

theorem zcu {nb:Nat} {a b:Int} {o:List Int} {z:Int}:z∈addTo nb a b o↔z∈o∨(z=b∧a∈o∧inB nb b=true):=by
 unfold addTo
 split
 ·rename_i h
  simp only [Bool.and_eq_true,List.contains_iff_mem,Bool.not_eq_true'] at h;simp only [List.mem_append,List.mem_singleton]
  constructor
  ·rintro (h1 | rfl)
   ·exact .inl h1
   ·exact .inr ⟨rfl,h.1,h.2.2⟩
  ·rintro (h1 | ⟨rfl,-⟩)
   ·exact .inl h1
   ·exact .inr rfl
 ·rename_i h
  constructor
  ·exact .inl
  ·rintro (h1 | ⟨rfl,ha,hb⟩)
   ·exact h1
   ·by_cases hm:z∈o
    ·exact hm
    ·refine absurd ?_ h;simp only [Bool.and_eq_true,List.contains_iff_mem,Bool.not_eq_true'];exact ⟨ha,by rw [← Bool.not_eq_true,List.contains_iff_mem]; exact hm,hb⟩

theorem zi4 {nb:Nat} {a b:Int} {o:List Int} (h:GoodL nb o):GoodL nb (addTo nb a b o):=by
 refine ⟨?_,fun z hz => ?_⟩
 ·unfold addTo
  split
  ·rename_i hc
   simp only [Bool.and_eq_true,Bool.not_eq_true'] at hc;have hb:b∉o:=by
    have:=hc.2.1
    rw [← Bool.not_eq_true,List.contains_iff_mem] at this;exact this
   rw [List.nodup_append];exact ⟨h.1,by simp,fun x hx y hy=>by simp at hy; rw [hy]; exact fun e=>hb (e▸hx)⟩
  ·exact h.1
 ·rcases zcu.1 hz with h1 | ⟨rfl,-,hb⟩
  ·exact h.2 z h1
  ·exact zaU.1 hb

theorem zib {nb:Nat} {a b:Int} {o:List Int}:o.length≤(addTo nb a b o).length:=by
 unfold addTo
 split
 ·simp
 ·exact Nat.le_refl _

theorem zi6 {nb:Nat} {a b:Int} {o:List Int} (h:(addTo nb a b o).length≤o.length):addTo nb a b o=o:=by
 unfold addTo at *;by_cases hc:(o.contains a && (!(o.contains b) && inB nb b))=true
 ·rw [if_pos hc,List.length_append,List.length_cons,List.length_nil] at h;omega
 ·rw [if_neg hc]

theorem zj6 {nb:Nat} {ls:List LK} {o:List Int} {k:Int} (h:GoodL nb o):GoodL nb (moreK nb ls o k):=by
 unfold moreK zdK
 split
 ·exact zi4 (zi4 h)
 ·exact h
theorem zhL {nb:Nat} {ls:List LK} {o:List Int} {k:Int}:o.length≤(moreK nb ls o k).length:=by
 unfold moreK zdK
 split
 ·exact Nat.le_trans zib zib
 ·exact Nat.le_refl _
theorem zk5 {nb:Nat} {ls:List LK} {o:List Int} {k z:Int} (h:z∈o):z∈moreK nb ls o k:=by
 unfold moreK zdK
 split
 ·exact zcu.2 (.inl (zcu.2 (.inl h)))
 ·exact h
theorem zj7 {nb:Nat} {ls:List LK} {o:List Int} {k:Int} (h:(moreK nb ls o k).length≤o.length):moreK nb ls o k=o:=by
 unfold moreK zdK at *
 split
 ·rename_i x hx
  rw [hx] at h;dsimp only at h;have h1:addTo nb x.a x.b o=o:=zi6 (Nat.le_trans zib h);rw [h1] at h ⊢;exact zi6 h
 ·rfl

theorem zdL {nb:Nat} {ls:List LK} {l o:List Int} (h:GoodL nb o):∀k,GoodL nb (zb0 nb ls l o k)
 | 0=>h
 | k+1=>by
  unfold zb0
  split
  ·exact zj6 (zdL h k)
  ·exact zdL h k
theorem zgt {nb:Nat} {ls:List LK} {l o:List Int}:∀k,o.length≤(zb0 nb ls l o k).length
 | 0=>Nat.le_refl _
 | k+1=>by
  unfold zb0
  split
  ·exact Nat.le_trans (zgt k) zhL
  ·exact zgt k
theorem zdM {nb:Nat} {ls:List LK} {l o:List Int}:∀k,(zb0 nb ls l o k).length≤o.length→zb0 nb ls l o k=o∧∀j,j < k→∀z,l[j]? = some z→moreK nb ls o z=o
 | 0,_=>⟨rfl,fun j hj=>absurd hj (by omega)⟩
 | k+1,h=>by
  unfold zb0 at h ⊢
  split at h
  ·rename_i z hz
   obtain ⟨e,hr⟩:=zdM k (Nat.le_trans zhL h);rw [e] at h ⊢;have e2:=zj7 h;refine ⟨e2,fun j hj y hy => ?_⟩;by_cases hk:j=k
   ·subst hk;rw [hz] at hy;cases hy;exact e2
   ·exact hr j (by omega) y hy
  ·rename_i hz
   obtain ⟨e,hr⟩:=zdM k h;refine ⟨e,fun j hj y hy => ?_⟩;by_cases hk:j=k
   ·subst hk;rw [hz] at hy;cases hy
   ·exact hr j (by omega) y hy

theorem zix {nb:Nat} {ls:List LK} {l:List Int} {b:Int} (hb:inB nb b=true):∀k,GoodL nb (itTo nb ls l b k)
 | 0=>⟨by simp [itTo],fun z hz=>by simp [itTo] at hz; rw [hz]; exact zaU.1 hb⟩
 | k+1=>zdL (zix hb k) _

def Clo (nb:Nat) (ls:List LK) (l:List Int) (S:Int→Prop):Prop:=∀k∈l,∀x,zcS ls k=some x→(S x.a→inB nb x.b=true→S x.b)∧(S x.b→inB nb x.a=true→S x.a)
def Rch (nb:Nat) (ls:List LK) (l:List Int) (b z:Int):Prop:=∀S:Int→Prop,S b→Clo nb ls l S→S z

theorem zmn {nb:Nat} {ls:List LK} {l o:List Int} (h:(moreL nb ls l o).length≤o.length):moreL nb ls l o=o∧Clo nb ls l (fun z=>z∈o):=by
 obtain ⟨e,hr⟩:=zdM l.length h;refine ⟨e,fun k hk x hx => ?_⟩;obtain ⟨j,hj,hjk⟩:=List.mem_iff_getElem.1 hk;have h1:=hr j hj k (by rw [List.getElem?_eq_getElem hj,hjk]);unfold moreK zdK at h1;rw [hx] at h1;dsimp only at h1;refine ⟨fun ha hb => ?_,fun hb ha => ?_⟩
 ·rw [← h1];exact zcu.2 (.inl (zcu.2 (.inr ⟨rfl,ha,hb⟩)))
 ·rw [← h1];exact zcu.2 (.inr ⟨rfl,zcu.2 (.inl hb),ha⟩)

theorem zkV {nb:Nat} {ls:List LK} {l:List Int} {b:Int}:∀k,k+1≤(itTo nb ls l b k).length∨(Clo nb ls l (fun z=>z∈itTo nb ls l b k)∧moreL nb ls l (itTo nb ls l b k)=itTo nb ls l b k)
 | 0=>.inl (by simp [itTo])
 | k+1=>by
  by_cases h:(moreL nb ls l (itTo nb ls l b k)).length≤(itTo nb ls l b k).length
  ·obtain ⟨e,hc⟩:=zmn h;refine .inr ?_
   show Clo nb ls l (fun z=>z∈moreL nb ls l (itTo nb ls l b k))∧moreL nb ls l (moreL nb ls l (itTo nb ls l b k))=moreL nb ls l (itTo nb ls l b k)
   rw [e];exact ⟨hc,e⟩
  ·rcases zkV (nb:=nb) (ls:=ls) (l:=l) (b:=b) k with h1 | ⟨hc,e⟩
   ·refine .inl ?_
    show k+1+1≤(moreL nb ls l (itTo nb ls l b k)).length
    omega
   ·rw [e] at h;exact absurd (Nat.le_refl _) h

theorem znA {nb:Nat} {ls:List LK} {l:List Int} {b:Int} (hb:inB nb b=true):Clo nb ls l (fun z=>z∈itTo nb ls l b nb):=by
 rcases zkV (nb:=nb) (ls:=ls) (l:=l) (b:=b) nb with h | ⟨h,-⟩
 ·have:=(zix (ls:=ls) (l:=l) hb nb).len
  omega
 ·exact h

theorem zhM {nb:Nat} {ls:List LK} {l o:List Int} {S:Int→Prop} (hS:Clo nb ls l S) (ho:∀z∈o,S z):∀k,∀z∈zb0 nb ls l o k,S z
 | 0=>ho
 | k+1=>by
  intro z hz;unfold zb0 at hz;have ih:=zhM hS ho k
  split at hz
  ·rename_i y hy
   unfold moreK at hz
   split at hz
   ·rename_i x hx
    have hc:=hS y (List.mem_of_getElem? hy) x hx;unfold zdK at hz;have key:∀u∈addTo nb x.a x.b (zb0 nb ls l o k),S u:=by
     intro u hu;rcases zcu.1 hu with h1 | ⟨rfl,ha,hb⟩
     ·exact ih u h1
     ·exact hc.1 (ih _ ha) hb
    rcases zcu.1 hz with h1 | ⟨rfl,ha,hb⟩
    ·exact key z h1
    ·exact hc.2 (key _ ha) hb
   ·exact ih z hz
  ·exact ih z hz

theorem it_in {nb:Nat} {ls:List LK} {l:List Int} {b:Int} {S:Int→Prop} (hb:S b) (hS:Clo nb ls l S):∀k,∀z∈itTo nb ls l b k,S z
 | 0=>fun z hz=>by simp [itTo] at hz; rw [hz]; exact hb
 | k+1=>zhM hS (it_in hb hS k) _

theorem zkW {nb:Nat} {ls:List LK} {l o:List Int} {z:Int} (h:z∈o):∀k,z∈zb0 nb ls l o k
 | 0=>h
 | k+1=>by
  unfold zb0
  split
  ·exact zk5 (zkW h k)
  ·exact zkW h k
theorem zkU {nb:Nat} {ls:List LK} {l:List Int} {b:Int}:∀k,b∈itTo nb ls l b k
 | 0=>by simp [itTo]
 | k+1=>zkW (zkU k) _

theorem zhD {nb:Nat} {ls:List LK} {l:List Int} {b z:Int} (hb:inB nb b=true):z∈itTo nb ls l b nb↔Rch nb ls l b z :=
 ⟨fun h _ h1 h2=>it_in h1 h2 nb z h,fun h=>h _ (zkU nb) (znA hb)⟩

theorem zdj {S:List Int}:∀{k:Nat} {z:Int},z∈zb9 S k↔z∈S∧0≤z∧z < (k:Int)
 | 0,z=>by simp [zb9]
 | k+1,z=>by
  unfold zb9;have ih:=@zdj S k z
  split
  ·rename_i h
   rw [List.contains_iff_mem] at h;rw [List.mem_append,List.mem_singleton,ih]
   constructor
   ·rintro (⟨h1,h2⟩ | rfl)
    ·exact ⟨h1,by omega⟩
    ·exact ⟨h,by omega⟩
   ·rintro ⟨h1,h2⟩;by_cases e:z=(k:Int)
    ·exact .inr e
    ·exact .inl ⟨h1,by omega⟩
  ·rename_i h
   rw [List.contains_iff_mem] at h;rw [ih]
   constructor
   ·rintro ⟨h1,h2⟩;exact ⟨h1,by omega⟩
   ·rintro ⟨h1,h2⟩;have e:z≠(k:Int):=fun e=>h (e▸h1)
    exact ⟨h1,by omega⟩
theorem zjl (S:List Int):∀k,(zb9 S k).length≤k
 | 0=>Nat.le_refl _
 | k+1=>by
  have:=zjl S k
  unfold zb9
  split
  ·simp; omega
  ·omega

theorem zdT (x m:Int) (h:0≤m∧m≤9223372036854775807):0≤bits .and .i64 x m∧bits .and .i64 x m≤m:=by
 have e2:(BitVec.ofInt 64 m).toNat=m.toNat:=by
  rw [BitVec.toNat_ofInt]
  have:((2 ^ 64:Nat):Int)=18446744073709551616:=by decide
  rw [this]; omega
 have e3:((BitVec.ofInt 64 x) &&& (BitVec.ofInt 64 m)).toNat≤m.toNat:=by
  rw [BitVec.toNat_and,e2]; exact Nat.and_le_right
 have e:bits .and .i64 x m=IntKind.i64.wrap (((BitVec.ofInt 64 x) &&& (BitVec.ofInt 64 m)).toNat:Int):=rfl;rw [e,IntKind.wrap_i64];omega

theorem zdJ {a b c:World} {C:Nat} (h:a.grownBy b (some C)) (k:b.grownBy c (some C)):a.grownBy c (some C) where
 os:=k.os.trans h.os
 tape:=k.tape.trans h.tape
 output:=k.output.trans h.output
 size:=Nat.le_trans h.size k.size
 block:=fun j hj hne=>(k.block j (Nat.lt_of_lt_of_le hj h.size) hne).trans (h.block j hj hne)

theorem zdt {a b:World} (C:Nat) (h:Below a.heap.size a b):a.grownBy b (some C) where
 os:=h.os
 tape:=h.tape
 output:=h.output
 size:=h.size
 block:=fun j hj _=>h.block j hj

theorem zdr {a b:World} {C B:Nat} (h:a.grownBy b (some C)) (hB:B≤C) (hs:C≤a.heap.size):Below B a b where
 os:=h.os
 tape:=h.tape
 output:=h.output
 size:=h.size
 block:=fun j hj=>h.block j (by omega) (by intro e; cases e; omega)

theorem zfj {a b:World} {C:Nat} (h:a.grownBy b (some C)) (n:Nat):a.grownBy (b.drewN n) (some C):=⟨h.os,h.tape,h.output,h.size,h.block⟩

structure Cur (w:World) (C:Nat) (a0:Option Addr) (l0 c0:Nat) (z0:List Int):Prop where
 row:∀w',Below C w w'→Row w' a0 l0 c0 z0
 small:l0≤1048576
 here:∃i h:Int,0≤i∧i≤l0∧w.heap[C]? = some (.cells #[.slice a0 l0 c0,.int .i64 i,.int .i64 h] 85)

theorem Cur.lt {w:World} {C:Nat} {a0:Option Addr} {l0 c0:Nat} {z0:List Int} (h:Cur w C a0 l0 c0 z0):C < w.heap.size:=by
 obtain ⟨i,x,_,_,e⟩:=h.here;by_cases hlt:C < w.heap.size
 ·exact hlt
 ·rw [Array.getElem?_eq_none (by omega)] at e; cases e

theorem Cur.below {w w':World} {C:Nat} {a0:Option Addr} {l0 c0:Nat} {z0:List Int} (h:Cur w C a0 l0 c0 z0) (hb:Below w.heap.size w w'):Cur w' C a0 l0 c0 z0 where
 row:=fun w2 h2=>h.row w2 ((hb.mono (Nat.le_of_lt h.lt)).trans h2)
 small:=h.small
 here:=by
  obtain ⟨i,x,h1,h2,e⟩:=h.here;exact ⟨i,x,h1,h2,by rw [hb.block C h.lt]; exact e⟩

theorem zkB (w:World) (a0:Option Addr) (l0 c0:Nat) (z0:List Int) (x:Int) (h0:Row w a0 l0 c0 z0) (hs:l0≤1048576):Cur (w.alloc (.cells #[.slice a0 l0 c0,.int .i64 0,.int .i64 x] 85)) w.heap.size a0 l0 c0 z0 where
 row:=fun w2 h2=>h0.below (((Below.refl _ _).alloc (Nat.le_refl _) _).trans h2)
 small:=hs
 here:=⟨0,x,by omega,by omega,by show (w.heap.push _)[w.heap.size]? = _; simp⟩

theorem Cur.drew {w:World} {C:Nat} {a0:Option Addr} {l0 c0:Nat} {z0:List Int} (h:Cur w C a0 l0 c0 z0) (n:Nat):Cur (w.drewN n) C a0 l0 c0 z0:=h.below (zdE (Below.refl _ _) n)

theorem zm2 (a0:Option Addr) (l0 c0:Nat) (z0:List Int) (w:World) (h0:Row w a0 l0 c0 z0) (hs:l0≤1048576) :
  Calls Tryz.prog 19 #[.slice a0 l0 c0] w fun e w'=>e=.returned (.pointer (some ⟨w.heap.size,0,none⟩))∧Cur w' w.heap.size a0 l0 c0 z0∧Below w.heap.size w w':=by
 have hby:=h0.byte;have hcell:=h0.cell;go_enter Tryz.func19,Tryz.ntmps19;go_wp2
 go_loop [3,4] (fun m i=>∃(k:Nat) (x:Int),k≤l0∧k≤4000∧i=.int .i64 k∧m=.int .i64 x∧0≤x∧x≤1073741823) (fun _ i=>l0 - (intOf i).toNat)
 case atStart=>exact ⟨0,_,Nat.zero_le _,by omega,rfl,rfl,by omega,by omega⟩
 case round =>
  obtain ⟨k,x,hk,hk4,rfl,rfl,hx0,hx1⟩:=hrel;by_cases hlt:k < l0
  ·by_cases hl4:k < 4000
   ·rcases hcell with h | ⟨b,off,rfl,hc⟩
    ·omega
    have cx:=hc k hlt;have bx:=hby.at k;clear hc;generalize z0.getD k 0=y at *;go_wp2
    go_round
    case rel=>exact ⟨k+1,_,by omega,by omega,by go_num,rfl,(zdT (x*137+y+11) 1073741823 (by omega)).1,(zdT (x*137+y+11) 1073741823 (by omega)).2⟩
    case measure=>simp [intOf]; omega
   ·have i1:¬(k:Int) < 4000:=by omega
    go_wp2;go_ret;exact ⟨rfl,zkB w a0 l0 c0 z0 x h0 hs,(Below.refl _ _).alloc (Nat.le_refl _) _⟩
  ·go_wp2;go_ret;exact ⟨rfl,zkB w a0 l0 c0 z0 x h0 hs,(Below.refl _ _).alloc (Nat.le_refl _) _⟩

structure Went (w w':World) (C:Nat) (a0:Option Addr) (l0 c0:Nat) (z0:List Int):Prop where
 cur:Cur w' C a0 l0 c0 z0
 grown:w.grownBy w' (some C)

theorem Cur.cells {w:World} {C:Nat} {c0 c1 c2:Value} (h:w.heap[C]? = some (.cells #[c0,c1,c2] 85)) :
  w.cell? ⟨C,0,none⟩=some c0∧w.cell? ⟨C,1,none⟩=some c1∧w.cell? ⟨C,2,none⟩=some c2∧(∀j,w.frozen? ⟨C,j,none⟩=false):=by
 refine ⟨?_, ?_, ?_,fun j => ?_⟩ <;> simp [World.cell?,World.frozen?,h]

theorem zlP {w:World} {C:Nat} {a0:Option Addr} {l0 c0:Nat} {z0:List Int} {i h:Int} (hc:Cur w C a0 l0 c0 z0) (hh:w.heap[C]? = some (.cells #[.slice a0 l0 c0,.int .i64 i,.int .i64 h] 85)) (H:Int) (hi:0≤i∧i≤l0) :
  (w.setCell ⟨C,2,none⟩ (.int .i64 H)).heap[C]? = some (.cells #[.slice a0 l0 c0,.int .i64 i,.int .i64 H] 85)∧w.grownBy (w.setCell ⟨C,2,none⟩ (.int .i64 H)) (some C)∧Cur (w.setCell ⟨C,2,none⟩ (.int .i64 H)) C a0 l0 c0 z0:=by
 have e:(w.setCell ⟨C,2,none⟩ (.int .i64 H)).heap[C]? = some (.cells #[.slice a0 l0 c0,.int .i64 i,.int .i64 H] 85):=by
  have:=hc.lt
  simp [World.setCell,Array.getElem?_modify,hh]
 have g:w.grownBy (w.setCell ⟨C,2,none⟩ (.int .i64 H)) (some C):=zcz (World.grownBy.refl _ _) 2 _;exact ⟨e,g,⟨fun w2 h2=>hc.row w2 ((zdr g (Nat.le_refl _) (Nat.le_of_lt hc.lt)).trans h2),hc.small,i,H,hi.1,hi.2,e⟩⟩

theorem zlO {w:World} {C:Nat} {a0:Option Addr} {l0 c0:Nat} {z0:List Int} {i h:Int} (hc:Cur w C a0 l0 c0 z0) (hh:w.heap[C]? = some (.cells #[.slice a0 l0 c0,.int .i64 i,.int .i64 h] 85)) (j:Int) (hj:0≤j∧j≤l0) :
  Went w (w.setCell ⟨C,1,none⟩ (.int .i64 j)) C a0 l0 c0 z0:=by
 have e:(w.setCell ⟨C,1,none⟩ (.int .i64 j)).heap[C]? = some (.cells #[.slice a0 l0 c0,.int .i64 j,.int .i64 h] 85):=by
  have:=hc.lt
  simp [World.setCell,Array.getElem?_modify,hh]
 have g:w.grownBy (w.setCell ⟨C,1,none⟩ (.int .i64 j)) (some C):=zcz (World.grownBy.refl _ _) 1 _;exact ⟨⟨fun w2 h2=>hc.row w2 ((zdr g (Nat.le_refl _) (Nat.le_of_lt hc.lt)).trans h2),hc.small,j,h,hj.1,hj.2,e⟩,g⟩

theorem zeW (C:Nat) (a0:Option Addr) (l0 c0:Nat) (z0:List Int) (w:World) (hc:Cur w C a0 l0 c0 z0) :
  Calls Tryz.prog 69 #[.pointer (some ⟨C,0,none⟩)] w fun e w'=>∃x:Int,e=.returned (.int .i64 x)∧0≤x∧x≤255∧Went w w' C a0 l0 c0 z0:=by
 obtain ⟨i,h,hi0,hi1,hh⟩:=hc.here;obtain ⟨k0,k1,k2,kf⟩:=Cur.cells hh;have kf2:=kf 2;clear kf;obtain ⟨k,rfl⟩:∃k:Nat,i=k:=⟨i.toNat,by omega⟩;go_enter Tryz.func69,Tryz.ntmps69;go_wp2;generalize wrap64 (wrap64 (h*6364136223846793005)+1442695040888963407)=H;have st:=zlP hc hh H ⟨hi0,hi1⟩;generalize w.setCell ⟨C,2,none⟩ (.int .i64 H)=W at *;obtain ⟨hW,hg,hcw⟩:=st;clear k0 k1 k2 kf2 hh hc;obtain ⟨k0,k1,k2,kf⟩:=Cur.cells hW;have kf1:=kf 1;clear kf;have hrow:=hcw.row W (Below.refl _ _);have hl0:=hcw.small;have hby:=hrow.byte;have hcell:=hrow.cell
 go_quiet (fail)
 go_wp2;have hx:=zdT (bits BinOp.xor IntKind.i64 (H / 8589934592) (H / 140737488355328)) 255 (by omega);generalize bits BinOp.and IntKind.i64 (bits BinOp.xor IntKind.i64 (H / 8589934592) (H / 140737488355328)) 255=x at *;by_cases hlt:k < l0
 ·rcases hcell with h | ⟨b,off,rfl,hc⟩
  ·omega
  have cx:=hc k hlt;have bx:=hby.at k;clear hc;generalize z0.getD k 0=y at *;have g1:(k:Int) < l0:=by omega
  go_quiet (fail)
  go_wp2
  go_quiet (fail)
  go_wp2;go_ret;refine ⟨_,rfl,(zdT _ 255 (by omega)).1,(zdT _ 255 (by omega)).2, ?_⟩;have t:=fun n=>zlO (hcw.drew n) (by exact hW) ((k:Int)+1) (by omega)
  exact ⟨(t _).cur,zdJ (zfj hg _) (t _).grown⟩
 ·have g1:¬(k:Int) < l0:=by omega
  go_quiet (fail)
  go_wp2;go_ret;exact ⟨x,rfl,hx.1,hx.2,hcw.drew _,zfj hg _⟩

theorem zjp (x n:Int) (hx:0≤x) (hn:0 < n):0≤x % n∧x % n < n∧x % n≤x:=by
 refine ⟨Int.emod_nonneg _ (by omega),Int.emod_lt_of_pos _ hn, ?_⟩;have h1:=Int.emod_add_mul_ediv x n;have h2:0≤x / n:=Int.ediv_nonneg hx (by omega);have h3:0≤n*(x / n):=Int.mul_nonneg (by omega) h2;omega

theorem Went.trans {a b c:World} {C:Nat} {a0:Option Addr} {l0 c0:Nat} {z0:List Int} (h:Went a b C a0 l0 c0 z0) (k:Went b c C a0 l0 c0 z0):Went a c C a0 l0 c0 z0:=⟨k.cur,zdJ h.grown k.grown⟩

theorem Went.made {a b c:World} {C:Nat} {a0:Option Addr} {l0 c0:Nat} {z0:List Int} (h:Went a b C a0 l0 c0 z0) (k:Below b.heap.size b c):Went a c C a0 l0 c0 z0:=⟨h.cur.below k,zdJ h.grown (zdt C k)⟩

theorem Went.start {a b:World} {C:Nat} {a0:Option Addr} {l0 c0:Nat} {z0:List Int} (h:Cur a C a0 l0 c0 z0) (k:Below a.heap.size a b):Went a b C a0 l0 c0 z0:=⟨h.below k,zdt C k⟩

theorem zaj (C:Nat) (a0:Option Addr) (l0 c0:Nat) (z0:List Int) (n:Int) (w:World) (hc:Cur w C a0 l0 c0 z0) (hn:n≤1099511627776) :
  Calls Tryz.prog 37 #[.pointer (some ⟨C,0,none⟩),.int .i64 n] w fun e w'=>∃x:Int,e=.returned (.int .i64 x)∧0≤x∧(0 < n→x < n)∧x≤16777215∧Went w w' C a0 l0 c0 z0:=by
 by_cases k0:n≤0
 ·go_enter Tryz.func37,Tryz.ntmps37;go_wp2;go_ret;exact ⟨0,rfl,by omega,by omega,by omega,Went.start hc (Below.refl _ _)⟩
 by_cases k1:n≤256
 ·go_enter Tryz.func37,Tryz.ntmps37;(go_wp2_with fail);refine (zeW C a0 l0 c0 z0 _ hc).mono ?_;rintro e w1 ⟨x,rfl,hx0,hx1,went⟩;have hne:(n == 0)=false:=by simp; omega
  go_wp2;go_ret;exact ⟨_,rfl,(zjp x n hx0 (by omega)).1,fun _=>(zjp x n hx0 (by omega)).2.1,by have:=(zjp x n hx0 (by omega)).2.2; omega,went⟩
 ·go_enter Tryz.func37,Tryz.ntmps37;(go_wp2_with fail);refine (zeW C a0 l0 c0 z0 _ hc).mono ?_;rintro e w1 ⟨x,rfl,hx0,hx1,went1⟩;(go_wp2_with fail);refine (zeW C a0 l0 c0 z0 _ went1.cur).mono ?_;rintro e w2 ⟨y,rfl,hy0,hy1,went2⟩;(go_wp2_with fail);refine (zeW C a0 l0 c0 z0 _ went2.cur).mono ?_;rintro e w3 ⟨z,rfl,hz0,hz1,went3⟩;have hne:(n == 0)=false:=by simp; omega
  go_wp2;go_ret;have hm:=zjp (x*65536+y*256+z) n (by omega) (by omega);exact ⟨_,rfl,hm.1,fun _=>hm.2.1,by omega,(went1.trans went2).trans went3⟩

theorem zjq (C:Nat) (a0:Option Addr) (l0 c0:Nat) (z0:List Int) (n:Int) (w:World) (hc:Cur w C a0 l0 c0 z0) (hn:n≤1099511627776) :
  Calls Tryz.prog 73 #[.pointer (some ⟨C,0,none⟩),.int .i64 n] w fun e w'=>∃x:Bool,e=.returned (.bool x)∧Went w w' C a0 l0 c0 z0:=by
 go_enter Tryz.func73,Tryz.ntmps73;go_wp2_with fail
 refine (zaj C a0 l0 c0 z0 n _ hc hn).mono ?_;rintro e w1 ⟨x,rfl,hx0,hx1,hx2,went⟩;go_wp2;go_ret;exact ⟨_,rfl,went⟩

theorem zmU (C:Nat) (a0:Option Addr) (l0 c0:Nat) (z0:List Int) (B n:Nat) (xs:List Int) (w:World) (hc:Cur w C a0 l0 c0 z0) (hB:C < B) (hcell:∀j,j < n→w.cell? ⟨B,j,none⟩=some (.int .i64 (xs.getD j 0))) (hxs:xs.length=n) (hn0:0 < n) (hn:n≤1000) :
  Calls Tryz.prog 41 #[.pointer (some ⟨C,0,none⟩),.slice (some ⟨B,0,none⟩) n n] w fun e w'=>∃x:Int,x∈xs∧e=.returned (.int .i64 x)∧Went w w' C a0 l0 c0 z0:=by
 have HC:=hide hcell;clear hcell;go_enter Tryz.func41,Tryz.ntmps41;go_wp2_with fail
 refine (zaj C a0 l0 c0 z0 n _ hc (by omega)).mono ?_;rintro e w1 ⟨x,rfl,hx0,hx1,hx2,went⟩;have hx1:=hx1 (by omega);obtain ⟨j,rfl⟩:∃j:Nat,x=j:=⟨x.toNat,by omega⟩;have cx:w1.cell? ⟨B,j,none⟩=some (.int .i64 (xs.getD j 0)):=went.grown.cell (HC.out j (by omega)) (by intro e; simp at e; omega);have hm:xs.getD j 0∈xs:=by
  rw [List.getD_eq_getElem?_getD,List.getElem?_eq_getElem (by omega)]; exact List.getElem_mem _
 generalize xs.getD j 0=y at *;go_wp2;go_ret;exact ⟨y,hm,rfl,went⟩

theorem Cur.belowAt {w w':World} {C B:Nat} {a0:Option Addr} {l0 c0:Nat} {z0:List Int} (h:Cur w C a0 l0 c0 z0) (hb:Below B w w') (hC:C < B):Cur w' C a0 l0 c0 z0 where
 row:=fun w2 h2=>h.row w2 ((hb.mono (Nat.le_of_lt hC)).trans h2)
 small:=h.small
 here:=by
  obtain ⟨i,x,h1,h2,e⟩:=h.here;exact ⟨i,x,h1,h2,by rw [hb.block C hC]; exact e⟩

theorem Went.madeAt {a b c:World} {C B:Nat} {a0:Option Addr} {l0 c0:Nat} {z0:List Int} (h:Went a b C a0 l0 c0 z0) (k:Below B b c) (hC:C < B) (hB:a.heap.size≤B):Went a c C a0 l0 c0 z0 where
 cur:=h.cur.belowAt k hC
 grown:=⟨k.os.trans h.grown.os,k.tape.trans h.grown.tape,k.output.trans h.grown.output,Nat.le_trans h.grown.size k.size,fun j hj hne=>(k.block j (by omega)).trans (h.grown.block j hj hne)⟩

theorem zef (C:Nat) (a0:Option Addr) (l0 c0:Nat) (z0:List Int) (xs:List Int) (g n:Nat) (w:World) (hc:Cur w C a0 l0 c0 z0) (hCg:C < g) {cs:Array Value} (hg:w.heap[g]? = some (.cells cs 3)) (hcs:cs=(xs.map (Value.int .i64)).toArray) (hn0:0 < xs.length) (hn:xs.length≤1000) (hnx:xs.length=n:=by rfl) :
  Calls Tryz.prog 41 #[.pointer (some ⟨C,0,none⟩),.slice (some ⟨g,0,none⟩) n n] w fun e w'=>∃x:Int,x∈xs∧e=.returned (.int .i64 x)∧Went w w' C a0 l0 c0 z0:=by
 subst hnx hcs;refine (zmU C a0 l0 c0 z0 g xs.length xs _ hc hCg (fun j hj => ?_) rfl hn0 hn).mono ?_
 ·simp only [World.cell?,hg]
  simp [hj]
 ·rintro e w' ⟨x,hx,rfl,went⟩;exact ⟨x,hx,rfl,went⟩

structure EV where
 kd:Int
 i:Int

def evF:Flat EV where
 k:=2
 cs:=fun x=>[.int .i64 x.kd,.int .i64 x.i]
 len:=fun _=>rfl
 pos:=by decide
 one:=fun _ v hv=>by
  simp only [List.mem_cons,List.not_mem_nil,or_false] at hv;rcases hv with rfl | rfl <;> rfl

theorem zkG {e:FE} (h:entOk e=true):e.Rng:=by
 rw [zho] at h;exact ⟨by omega,by omega,by omega,by omega⟩

theorem zeN (a1:Option Addr) (l1 c1:Nat) (z1:List Int) (a2:Option Addr) (l2 c2:Nat) (z2:List Int) (w:World) (h1:IRow w a1 l1 c1 z1) (h2:IRow w a2 l2 c2 z2) :
  Calls Tryz.prog 14 #[.slice a1 l1 c1,.slice a2 l2 c2] w fun e w'=>e=.returned (.bool (decide (z1=z2)))∧∃n,w'=w.drewN n:=by
 have m1:=h1.top; have m2:=h2.top; have s1:=h1.size; have s2:=h2.size; have e1:=h1.le; have e2:=h2.le
 unfold maxLen at m1 m2;by_cases hl:l1=l2
 ·subst hl;by_cases h0:l1=0
  ·subst h0;have hz:z1=z2:=by rw [List.eq_nil_of_length_eq_zero s1,List.eq_nil_of_length_eq_zero s2]
   go_enter Tryz.func14,Tryz.ntmps14;go_wp2
   go_loop [5] (fun i=>i=.int .i64 0) (fun _=>0)
   case atStart=>rfl
   case round =>
    subst hrel;go_wp2;go_ret;exact ⟨by simp,0,rfl⟩
  ·rcases h1.cell with h | ⟨b1,o1,rfl,g1⟩
   ·exact absurd h h0
   rcases h2.cell with h | ⟨b2,o2,rfl,g2⟩
   ·exact absurd h h0
   clear h1 h2;have G1:Hid (∀i,i < l1→w.cell? ⟨b1,o1+i,none⟩=some (.int .i64 (z1.getD i 0))):=g1;have G2:Hid (∀i,i < l1→w.cell? ⟨b2,o2+i,none⟩=some (.int .i64 (z2.getD i 0))):=g2;clear g1 g2;go_enter Tryz.func14,Tryz.ntmps14;go_wp2
   go_loopw [5] (fun i wr=>∃k:Nat,k≤l1∧i=.int .i64 k∧z1.take k=z2.take k∧∃n,wr=w.drewN n) (fun i _=>l1 - (intOf i).toNat)
   case atStart=>exact ⟨0,Nat.zero_le _,rfl,rfl,0,rfl⟩
   case round =>
    obtain ⟨k,hk,rfl,ht,n,rfl⟩:=hrel;have HT:Hid (z1.take k=z2.take k):=ht;clear ht;by_cases hlt:k < l1
    ·have c1:=G1.out k hlt;have c2:=G2.out k hlt;generalize hx:z1.getD k 0=x at c1;generalize hy:z2.getD k 0=y at c2;have HX:Hid (z1.getD k 0=x):=hx;have HY:Hid (z2.getD k 0=y):=hy;clear hx hy;by_cases hq:x=y
     ·subst hq;go_wp2
      go_quiet (fail)
      go_wp2
      go_roundw
      case rel=>exact ⟨k+1,by omega,by go_num,by rw [zdB _ _ (by omega),zdB _ _ (by omega),HT.out,HX.out,HY.out],_,rfl⟩
      case measure=>simp [intOf]; omega
     ·have hne:(x != y)=true:=by simp [hq]
      go_wp2
      go_quiet (fail)
      go_wp2;go_ret;exact ⟨zM (decide_eq_false (ne_at k (by rw [HX.out,HY.out]; exact hq))).symm,_,World.drewN_drewN _ _ _⟩
    ·go_wp2;go_ret;have hk':k=l1:=by omega
     exact ⟨zM (decide_eq_true (zin (by omega) (by rw [s1,← hk']; exact HT.out))).symm,_,rfl⟩
 ·have hne:((l1:Int) != (l2:Int))=true:=by simp; omega
  have hz:¬z1=z2:=by intro e; rw [e] at s1; omega
  go_enter Tryz.func14,Tryz.ntmps14;go_wp2;go_ret;exact ⟨zM (decide_eq_false hz).symm,0,rfl⟩

theorem znk (a0:Option Addr) (l0 c0:Nat) (w:World) (h:¬1048576 < l0):Calls Tryz.prog 5 #[.slice a0 l0 c0] w fun e w'=>e=.returned (.bool false)∧w'=w:=by
 have i1:¬(1048576:Int) < l0:=by omega
 go_enter Tryz.func5,Tryz.ntmps5;go_wp2;go_ret;exact ⟨rfl,rfl⟩

theorem zmI (a0:Option Addr) (l0 c0:Nat) (z0:List Int) (hs:l0≤1048576):∃x:Int,0≤x∧x≤255∧∀w,Row w a0 l0 c0 z0→Calls Tryz.prog 8 #[.slice a0 l0 c0,.int .i64 2] w fun e w'=>e=.returned (.int .i64 x)∧w'=w:=by
 by_cases h2:2 < l0
 ·by_cases hr:∃w,Row w a0 l0 c0 z0
  ·obtain ⟨w0,r0⟩:=hr;have hb:=zhr r0.byte 2;refine ⟨z0.getD 2 0,hb.1,hb.2,fun w h0 => ?_⟩;obtain ⟨b,off,rfl,hc⟩:=h0.at (by omega);have c2:=hc 2 h2;have hi:(2:Int) < (l0:Int):=by omega
   generalize z0.getD 2 0=y at *;have hw:IntKind.i64.wrap y=y:=by rw [IntKind.wrap_i64]; omega
   clear hc;go_enter Tryz.func8,Tryz.ntmps8;go_wp2;go_ret;exact ⟨rfl,rfl⟩
  ·exact ⟨0,by omega,by omega,fun w h=>absurd ⟨w,h⟩ hr⟩
 ·have hi:¬(2:Int) < (l0:Int):=by omega
  refine ⟨(62+(l0:Int)*7) % 256,by omega,by omega,fun w h0 => ?_⟩;go_enter Tryz.func8,Tryz.ntmps8;go_wp2;go_ret;exact ⟨rfl,rfl⟩

end Go.Proofs.YtkaefmfopejbaaaGreat
