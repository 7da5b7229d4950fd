/-
  Packed: BindD Base Help Mem Flat FlatOwn VecHelp Pieces Num Tlv VecMath FrameHelp VecSpec PtMem FdbMath FentMem VtabMath IBase.
-/
import Derived.Test.YtcpdkcdfnpcemabGreatRows
import Derived.WalkKit
import Derived.WalkSpells
import Derived.WalkLawsBesides
import Derived.Deep.QuietTactic
import Derived.BigQuiet
import Derived.Laws.AppendOwnNone
import Derived.Deep.RegionWith
import Derived.Deep.RegionLaw
import Derived.Deep.RegionHeld
import Derived.Lib.SmallJoins
namespace Go.Proofs.YtcpdkcdfnpcemabGreat
set_option maxRecDepth 100000
set_option maxHeartbeats 16000000
open Go.RowKit

theorem zb {w w1:World} {o:Obj} (h:w.alloc o=w1):Below w.heap.size w w1:=h▸(Below.refl _ _).alloc (Nat.le_refl _) o

theorem zk {w w1:World} {o:Obj} (h:w.alloc o=w1):w1.heap[w.heap.size]? = some o:=by
 subst h
 show (w.heap.push o)[w.heap.size]? = _
 simp

abbrev zcc (W:World) (b j:Nat) (v:Value):Prop:=W.cell? ⟨b,j,none⟩=some v

theorem lA {α:Type} (l:List α) (i:Nat) (a:α):l.toArray.setIfInBounds i a=(l.set i a).toArray:=List.setIfInBounds_toArray ..

theorem lB {α:Type} (a b:α) (l:List α):(a::l).set 0 b=b::l:=List.set_cons_zero

theorem lC {α:Type} (a b:α) (l:List α) (n:Nat):(a::l).set (n+1) b=a::l.set n b:=List.set_cons_succ

structure BD where
 o:List Int
 K:Int
 N:Int
 S:ByteArray
 z:List Int

def cB (zs:List Int):List Value:=zs.map (Value.int .u8)

theorem zj {w:World} {a:Addr} {v:Value} (h:w.cell? a=some v):a.block < w.heap.size:=by
 unfold World.cell? at h;by_cases hb:a.block < w.heap.size
 ·exact hb
 ·rw [Array.getElem?_eq_none (by omega)] at h
  simp at h

theorem zU {B:Nat} {a w:World} (h:Below B a w) (n:Nat):Below B a (w.drewN n) :=
 ⟨h.os,h.tape,h.output,h.size,h.block⟩

theorem zY {w w':World} {base:Nat} {e:TypeId} {v:Value} {n:Nat} {xs:List Value} (h:w.ownsRow base e 1 v n xs) (hb:Below w.heap.size w w'):w'.ownsRow base e 1 v n xs:=by
 obtain ⟨hl,h | ⟨g,cap,cur,rfl,hg,hh,h1,h2,h3,h4⟩⟩:=h
 ·exact ⟨hl,.inl h⟩
 ·refine ⟨hl,.inr ⟨g,cap,cur,rfl,hg, ?_,h1,h2,h3,h4⟩⟩;rw [hb.block g ?_]
  ·exact hh
  ·by_cases hlt:g < w.heap.size
   ·exact hlt
   ·rw [Array.getElem?_eq_none (by omega)] at hh
    simp at hh

theorem zbN {w:World} {base:Nat} {e:TypeId} {v:Value} {n:Nat} {xs:List Value} (h:w.ownsRow base e 1 v n xs) {base':Nat} (hle:base'≤base):w.ownsRow base' e 1 v n xs:=by
 obtain ⟨hl,h | ⟨g,cap,cur,rfl,hg,hh,h1,h2,h3,h4⟩⟩:=h
 ·exact ⟨hl,.inl h⟩
 ·exact ⟨hl,.inr ⟨g,cap,cur,rfl,by omega,hh,h1,h2,h3,h4⟩⟩

theorem zcb (b off j:Nat):(⟨b,off,none⟩:Addr).add j=⟨b,off+j,none⟩:=by
 by_cases h:j=0 <;> simp [Addr.add,h]

theorem hide {p:Prop} (h:p):Hid p:=h

theorem zG (l:List Int) (k:Nat) (h:k < l.length):l.take (k+1)=l.take k++[l.getD k 0]:=by
 rw [List.take_succ_eq_append_getElem h]; simp [h]

theorem zbx {a b:List Int} (hl:a.length=b.length) (h:a.take a.length=b.take a.length):a=b:=by
 rw [List.take_length,hl,List.take_length] at h; exact h

theorem ne_at {a b:List Int} (k:Nat) (h:¬a.getD k 0=b.getD k 0):¬a=b:=by
 intro e; exact h (by rw [e])

theorem zp {a b:Bool} (h:a=b):Ending.returned (.bool a)=.returned (.bool b):=by rw [h]
theorem zgU {k:IntKind} {a b:Int} (h:a=b):Ending.returned (.int k a)=.returned (.int k b):=by rw [h]

theorem zbG {w0 w:World} {g:Nat} (h:w0.grownBy w (some g)) (j:Nat) (u:Value):w0.grownBy (w.setCell ⟨g,j,none⟩ u) (some g) where
 os:=h.os
 tape:=h.tape
 output:=h.output
 size:=by have:=h.size; simpa using this
 block:=fun k hk hne=>by
  rw [Below.heap_setCell _ _ _ _ (by intro e; exact hne (by rw [e]))];exact h.block k hk hne

theorem zdJ {w w':World} {base:Nat} {e:TypeId} {v:Value} {n:Nat} {xs:List Value} {row:Option Nat} (h:w.ownsRow base e 1 v n xs) (hg:w.grownBy w' row) (hr:∀k,row=some k→k < base):w'.ownsRow base e 1 v n xs:=by
 refine h.kept hg ?_;cases hv:v.ownBlock with
 | none=>exact .inl rfl
 | some k =>
  refine .inr ?_;intro e
  have:=hr k e.symm
  have:=(h.lt k hv).1
  omega

theorem zg (w:World) (o:Obj):Below w.heap.size w (w.alloc o):=(Below.refl _ _).alloc (Nat.le_refl _) o

theorem zq (w:World) (o p:Obj):Below w.heap.size w ((w.alloc o).alloc p):=(zg w o).alloc (by simp) p

theorem z6 (w:World) (o p q:Obj):Below w.heap.size w (((w.alloc o).alloc p).alloc q):=(zq w o p).alloc (by simp; omega) q

theorem zz (w:World) (o:Obj):(w.alloc o).heap[w.heap.size]? = some o:=by show (w.heap.push o)[w.heap.size]? = _; simp

theorem zbI {w w1:World} {o:Obj} (hb:Below (w.alloc o).heap.size (w.alloc o) w1):w1.heap[w.heap.size]? = some o:=by
 rw [hb.block _ (by simp)]; exact zz w o

theorem za4 {w w1:World} {o p:Obj} (hb:Below ((w.alloc o).alloc p).heap.size ((w.alloc o).alloc p) w1):w1.heap[w.heap.size]? = some o∧w1.heap[w.heap.size+1]? = some p:=by
 refine ⟨?_, ?_⟩
 ·have:=zg (w.alloc o) p
  exact zbI (w:=w) (o:=o) ((this.trans (hb.mono this.size)))
 ·have:=zbI (w:=w.alloc o) (o:=p) hb; simpa using this

theorem zax {w w1:World} {o p q:Obj} (hb:Below (((w.alloc o).alloc p).alloc q).heap.size (((w.alloc o).alloc p).alloc q) w1):w1.heap[w.heap.size]? = some o∧w1.heap[w.heap.size+1]? = some p∧w1.heap[w.heap.size+1+1]? = some q:=by
 have t:=zg ((w.alloc o).alloc p) q;have u:=za4 (w:=w) (o:=o) (p:=p) (t.trans (hb.mono t.size));refine ⟨u.1,u.2, ?_⟩
 have:=zbI (w:=(w.alloc o).alloc p) (o:=q) hb; simpa using this

theorem zK {w:World} {C:Nat} {t:TypeId} {c0 c1 c2 c3:Value} (h:w.heap[C]? = some (.cells #[c0,c1,c2,c3] t)) :
  (w.cell? ⟨C,0,none⟩=some c0∧w.cell? ⟨C,1,none⟩=some c1∧w.cell? ⟨C,2,none⟩=some c2∧w.cell? ⟨C,3,none⟩=some c3) ∧
  (w.frozen? ⟨C,0,none⟩=false∧w.frozen? ⟨C,1,none⟩=false∧w.frozen? ⟨C,2,none⟩=false∧w.frozen? ⟨C,3,none⟩=false):=by
 refine ⟨⟨?_, ?_, ?_, ?_⟩, ?_, ?_, ?_, ?_⟩ <;> simp [World.cell?,World.frozen?,h]

theorem zl {B:Nat} {a w:World} (h:Below B a w) {g:Nat} (hB:B≤g) (j:Nat) (u:Value):Below B a (w.setCell ⟨g,j,none⟩ u):=h.setCell (p:=⟨g,j,none⟩) hB u

theorem zcq {a b c:World} {row:Option Nat} (h:Below a.heap.size a b) (k:b.grownBy c row):a.grownBy c row where
 os:=k.os.trans h.os
 tape:=k.tape.trans h.tape
 output:=k.output.trans h.output
 size:=Nat.le_trans h.size k.size
 block:=fun j hj hne=>(k.block j (Nat.lt_of_lt_of_le hj h.size) hne).trans (h.block j hj)

theorem undrew {B n:Nat} {w w':World} (h:Below B (w.drewN n) w'):Below B w w':=⟨h.os,h.tape,h.output,h.size,h.block⟩

theorem zd {w w':World} {i:Nat} {o:Obj} (h:w.heap[i]? = some o) (hb:Below w.heap.size w w'):w'.heap[i]? = some o:=by
 by_cases hlt:i < w.heap.size
 ·rw [hb.block i hlt]; exact h
 ·rw [Array.getElem?_eq_none (by omega)] at h; cases h

theorem zm {w:World} {C:Nat} {t:TypeId} {c0 c1 c2 c3 c4:Value} (h:w.heap[C]? = some (.cells #[c0,c1,c2,c3,c4] t)) :
  (w.cell? ⟨C,0,none⟩=some c0∧w.cell? ⟨C,1,none⟩=some c1∧w.cell? ⟨C,2,none⟩=some c2∧w.cell? ⟨C,3,none⟩=some c3∧w.cell? ⟨C,4,none⟩=some c4) ∧
  (w.frozen? ⟨C,0,none⟩=false∧w.frozen? ⟨C,1,none⟩=false∧w.frozen? ⟨C,2,none⟩=false∧w.frozen? ⟨C,3,none⟩=false∧w.frozen? ⟨C,4,none⟩=false):=by
 refine ⟨⟨?_, ?_, ?_, ?_, ?_⟩, ?_, ?_, ?_, ?_, ?_⟩ <;> simp [World.cell?,World.frozen?,h]

theorem zr {w:World} {b j:Nat} {cur:Array Value} {t:TypeId} (h:w.heap[b]? = some (.cells cur t)) (u:Value):(w.setCell ⟨b,j,none⟩ u).heap[b]? = some (.cells (cur.setIfInBounds j u) t):=heap_setCell_same w b j cur t u h

theorem zaz {w:World} {i b j:Nat} {o:Obj} {u:Value} (h:w.heap[i]? = some o) (hne:i≠b):(w.setCell ⟨b,j,none⟩ u).heap[i]? = some o:=by rw [Below.heap_setCell _ _ _ _ hne]; exact h

theorem zau {w:World} {C:Nat} {t:TypeId} {c0 c1:Value} (h:w.heap[C]? = some (.cells #[c0,c1] t)) :
  (w.cell? ⟨C,0,none⟩=some c0∧w.cell? ⟨C,1,none⟩=some c1)∧(w.frozen? ⟨C,0,none⟩=false∧w.frozen? ⟨C,1,none⟩=false):=by
 refine ⟨⟨?_, ?_⟩, ?_, ?_⟩ <;> simp [World.cell?,World.frozen?,h]

theorem zv {a b c:World} {row:Option Nat} (h:a.grownBy b row) (k:b.grownBy c row):a.grownBy c row :=
 ⟨k.os.trans h.os,k.tape.trans h.tape,k.output.trans h.output,Nat.le_trans h.size k.size,fun i hi hn=>(k.block i (Nat.lt_of_lt_of_le hi h.size) hn).trans (h.block i hi hn)⟩

theorem zbW {a b:World} {row:Option Nat} (h:Below a.heap.size a b):a.grownBy b row:=⟨h.os,h.tape,h.output,h.size,fun k hk _=>h.block k hk⟩

theorem zi {w:World} {rb:Nat} (j:Nat) (u:Value):w.grownBy (w.setCell ⟨rb,j,none⟩ u) (some rb):=zbG (World.grownBy.refl _ _) j u

theorem zev {w:World} {C:Nat} {t:TypeId} {c0 c1 c2:Value} (h:w.heap[C]? = some (.cells #[c0,c1,c2] t)) :
  (w.cell? ⟨C,0,none⟩=some c0∧w.cell? ⟨C,1,none⟩=some c1∧w.cell? ⟨C,2,none⟩=some c2)∧(w.frozen? ⟨C,0,none⟩=false∧w.frozen? ⟨C,1,none⟩=false∧w.frozen? ⟨C,2,none⟩=false):=by
 refine ⟨⟨?_, ?_, ?_⟩, ?_, ?_, ?_⟩ <;> simp [World.cell?,World.frozen?,h]

theorem zA {w w':World} {row:Option Nat} {i:Nat} {o:Obj} (h:w.heap[i]? = some o) (hg:w.grownBy w' row) (hne:∀k,row=some k→k≠i):w'.heap[i]? = some o:=by
 by_cases hlt:i < w.heap.size
 ·rw [hg.block i hlt (fun e=>hne i e.symm rfl)]; exact h
 ·rw [Array.getElem?_eq_none (by omega)] at h; cases h

theorem zJ {B:Nat} {a w:World} (h:Below B a w) {g:Nat} (hB:B≤g) (c0 c1 c2 c3:Value):Below B a ((((w.setCell ⟨g,0,none⟩ c0).setCell ⟨g,1,none⟩ c1).setCell ⟨g,2,none⟩ c2).setCell ⟨g,3,none⟩ c3) :=
 zl (zl (zl (zl h hB 0 c0) hB 1 c1) hB 2 c2) hB 3 c3

theorem zC {B:Nat} {a w:World} (h:Below B a w) {g:Nat} (hB:B≤g) (c0 c1 c2 c3 c4:Value):Below B a (((((w.setCell ⟨g,0,none⟩ c0).setCell ⟨g,1,none⟩ c1).setCell ⟨g,2,none⟩ c2).setCell ⟨g,3,none⟩ c3).setCell ⟨g,4,none⟩ c4) :=
 zl (zl (zl (zl (zl h hB 0 c0) hB 1 c1) hB 2 c2) hB 3 c3) hB 4 c4

theorem ze {w W W':World} (a:Below w.heap.size w W) (b:Below W.heap.size W W'):Below w.heap.size w W':=a.trans (b.mono a.size)

theorem zcZ {w W:World} (a:Below w.heap.size w W) (o:Obj):Below w.heap.size w (W.alloc o):=ze a (zg W o)

theorem zR {w W:World} (a:Below w.heap.size w W):Below w.heap.size w W.drew:=a.drew

theorem zfW {w W:World} (a:Below w.heap.size w W) (n:Nat):Below w.heap.size w (W.drewN n):=zU a n

theorem zgt {a b c:World} {rb:Nat} (h:Below a.heap.size a b) (hg:b.grownBy c (some rb)) (hr:a.heap.size≤rb):Below a.heap.size a c:=h.grown hg h.size (by intro k hk; cases hk; exact hr)

section
open Go.RowKit

structure Flat (α:Type) where
 k:Nat
 cs:α→List Value
 len:∀x,(cs x).length=k
 pos:0 < k
 one:∀x,∀v∈cs x,v.oneCell'=true

variable {α:Type}

def Flat.all (F:Flat α) (l:List α):List Value:=l.flatMap F.cs

theorem Flat.all_cons (F:Flat α) (x:α) (l:List α):F.all (x::l)=F.cs x++F.all l:=by simp [Flat.all]
theorem Flat.all_append (F:Flat α) (a b:List α):F.all (a++b)=F.all a++F.all b:=by simp [Flat.all]
theorem Flat.all_one (F:Flat α) (x:α):F.all [x]=F.cs x:=by simp [Flat.all]
theorem Flat.all_length (F:Flat α) (l:List α):(F.all l).length=l.length*F.k:=by
 induction l with
 | nil=>simp [Flat.all]
 | cons x l ih=>rw [F.all_cons,List.length_append,ih,F.len,List.length_cons,Nat.add_mul]; omega
theorem Flat.all_oneCell (F:Flat α) (l:List α):∀u∈F.all l,u.oneCell'=true:=by
 intro u hu;obtain ⟨x,_,hx⟩:=List.mem_flatMap.1 hu;exact F.one x u hx

theorem Flat.all_at (F:Flat α):∀(l:List α) (i:Nat) (x:α),l[i]? = some x→∀(j:Nat) (v:Value),(F.cs x)[j]? = some v→(F.all l)[i*F.k+j]? = some v
 | [],i,x,h,_,_,_=>by simp at h
 | y::l,0,x,h,j,v,hv=>by
  simp at h
  subst h;have hj:=(List.getElem?_eq_some_iff.1 hv).1;rw [F.all_cons,Nat.zero_mul,Nat.zero_add,List.getElem?_append_left hj];exact hv
 | y::l,i+1,x,h,j,v,hv=>by
  have h':l[i]? = some x:=by simpa using h
  rw [F.all_cons,List.getElem?_append_right (by rw [F.len,Nat.add_mul]; omega),F.len];rw [show (i+1)*F.k+j - F.k=i*F.k+j by rw [Nat.add_mul]; omega];exact Flat.all_at F l i x h' j v hv

structure GRow (F:Flat α) (w:World) (ao:Option Addr) (len cap:Nat) (l:List α):Prop where
 size:l.length=len
 le:len≤cap
 top:cap≤maxLen
 nil:ao=none→cap=0
 cell:len=0∨∃b off,ao=some ⟨b,off,none⟩∧∀(i:Nat) (x:α),l[i]? = some x→∀(j:Nat) (v:Value),(F.cs x)[j]? = some v→w.cell? ⟨b,off+i*F.k+j,none⟩=some v

theorem zeA (F:Flat α) (w:World):GRow F w none 0 0 []:=⟨rfl,Nat.le_refl _,Nat.zero_le _,fun _=>rfl,.inl rfl⟩

theorem GRow.below {F:Flat α} {w w':World} {ao:Option Addr} {len cap:Nat} {l:List α} (h:GRow F w ao len cap l) (hb:Below w.heap.size w w'):GRow F w' ao len cap l where
 size:=h.size
 le:=h.le
 top:=h.top
 nil:=h.nil
 cell:=by
  rcases h.cell with h0 | ⟨b,off,ha,hc⟩
  ·exact .inl h0
  ·exact .inr ⟨b,off,ha,fun i x hi j v hv=>(hb.cell (zj (hc i x hi j v hv))).trans (hc i x hi j v hv)⟩

theorem GRow.at {F:Flat α} {w:World} {ao:Option Addr} {len cap:Nat} {l:List α} (h:GRow F w ao len cap l) (i:Nat) (hi:i < len):∃x b off,l[i]? = some x∧ao=some ⟨b,off,none⟩∧∀(j:Nat) (v:Value),(F.cs x)[j]? = some v→w.cell? ⟨b,off+i*F.k+j,none⟩=some v:=by
 have hl:=h.size;rcases h.cell with h0 | ⟨b,off,ha,hc⟩
 ·omega
 ·have hx:l[i]? = some l[i]:=List.getElem?_eq_getElem (by omega);exact ⟨_,b,off,hx,ha,hc i _ hx⟩

theorem zD {w w':World} {base k:Nat} {e:TypeId} {v:Value} {n:Nat} {xs:List Value} (h:w.ownsRow base e k v n xs) (hb:Below w.heap.size w w'):w'.ownsRow base e k v n xs:=by
 obtain ⟨hl,h | ⟨g,cap,cur,rfl,hg,hh,h1,h2,h3,h4⟩⟩:=h
 ·exact ⟨hl,.inl h⟩
 ·refine ⟨hl,.inr ⟨g,cap,cur,rfl,hg, ?_,h1,h2,h3,h4⟩⟩;rw [hb.block g ?_]
  ·exact hh
  ·by_cases hlt:g < w.heap.size
   ·exact hlt
   ·rw [Array.getElem?_eq_none (by omega)] at hh
    simp at hh

theorem zbz {w:World} {base k:Nat} {e:TypeId} {v:Value} {n:Nat} {xs:List Value} (h:w.ownsRow base e k v n xs) {base':Nat} (hle:base'≤base):w.ownsRow base' e k v n xs:=by
 obtain ⟨hl,h | ⟨g,cap,cur,rfl,hg,hh,h1,h2,h3,h4⟩⟩:=h
 ·exact ⟨hl,.inl h⟩
 ·exact ⟨hl,.inr ⟨g,cap,cur,rfl,by omega,hh,h1,h2,h3,h4⟩⟩

theorem zcL {w:World} {base k:Nat} {e:TypeId} {v:Value} {n:Nat} {xs:List Value} (h:w.ownsRow base e k v n xs):∃ao cap,v=.slice ao n cap:=by
 rcases h.2 with ⟨rfl,rfl⟩ | ⟨g,cap,cur,rfl,_⟩
 ·exact ⟨none,0,rfl⟩
 ·exact ⟨_,cap,rfl⟩

theorem zaJ {w w':World} {base k:Nat} {e:TypeId} {v:Value} {n:Nat} {xs:List Value} (h:w.ownsRow base e k v n xs) {g:Nat} (hg:w.grownBy w' (some g)) (hne:∀b,v.ownBlock=some b→b≠g):w'.ownsRow base e k v n xs:=by
 refine h.kept hg ?_;cases hv:v.ownBlock with
 | none=>exact .inl rfl
 | some b=>exact .inr (by intro h; cases h; exact hne _ hv rfl)

theorem zT {F:Flat α} {w:World} {base:Nat} {T:TypeId} {ao:Option Addr} {n cap:Nat} {l:List α} (h:w.ownsRow base T F.k (.slice ao n cap) n (F.all l)):GRow F w ao n cap l:=by
 have hl:l.length=n:=by
  have:=h.1
  rw [F.all_length] at this;exact Nat.eq_of_mul_eq_mul_right F.pos this
 rcases h.2 with ⟨e,rfl⟩ | ⟨g,cap',cur,e,hg,hh,h1,h2,h3,h4⟩
 ·cases e;exact ⟨hl,Nat.le_refl _,Nat.zero_le _,fun _=>rfl,.inl rfl⟩
 ·cases e;refine ⟨hl,h1,h2,(by intro h; cases h),.inr ⟨g,0,rfl,fun i x hi j v hv => ?_⟩⟩;have hx:=F.all_at l i x hi j v hv;have hlt:=(List.getElem?_eq_some_iff.1 hx).1;rw [F.all_length] at hlt;rw [Nat.zero_add,h.cellAt _ (by rw [← hl]; exact hlt)];exact hx

theorem GRow.news {F:Flat α} {w:World} {b off n cap:Nat} {l:List α} (h:GRow F w (some ⟨b,off,none⟩) n cap l):∀(j:Nat) (u:Value),(F.all l)[j]? = some u→w.cell? ((⟨b,off,none⟩:Addr).add j)=some u:=by
 intro j u hu;have hj:=(List.getElem?_eq_some_iff.1 hu).1;rw [F.all_length] at hj;have hp:=F.pos;have hi:j / F.k < l.length:=Nat.div_lt_of_lt_mul (by rw [Nat.mul_comm]; exact hj);rcases h.cell with h0 | ⟨b',off',e,hc⟩
 ·have:=h.size
  rw [this,h0] at hi;exact absurd hi (Nat.not_lt_zero _)
 ·cases e;have hx:l[j / F.k]? = some l[j / F.k]:=List.getElem?_eq_getElem hi;have hm:j % F.k < (F.cs l[j / F.k]).length:=by rw [F.len]; exact Nat.mod_lt _ hp
  have hv:=List.getElem?_eq_getElem hm;have ha:=F.all_at l _ _ hx _ _ hv;have hd:j / F.k*F.k+j % F.k=j:=by rw [Nat.mul_comm]; exact Nat.div_add_mod j F.k
  rw [hd] at ha;have hc:=hc _ _ hx _ _ hv;rw [zcb];rw [show off+j=off+j / F.k*F.k+j % F.k by omega,hc,← ha,hu]

theorem zaL {P:Program} {T:TypeId} {z:Value} {k b:Nat} (h:(P.info? T).map (fun i=>(i.zero,i.size,i.bytes))=some (some z,k,b)):∃i,P.info? T=some i∧i.zero=some z∧i.size=k∧i.bytes=b:=by
 cases hi:P.info? T with
 | none=>rw [hi] at h; simp at h
 | some i =>
  rw [hi] at h
  simp at h
  exact ⟨i,rfl,h.1,h.2.1,h.2.2⟩

theorem zy {F:Flat α} {P:Program} (w:World) {ops:Array Oper} {rest:List Oper} {o:Oper} {a:Act} {Q:Exit→Act→World→Prop} (hgd:o.guard=none)
  (s x:Operand) (t T:TypeId) (ho:o.op=Op.call { callee:=Callee.builtin Builtin.append,args:=#[s,x],argTypes:=#[t,t] }) (base:Nat) {Z:Value} {by8:Nat}
  (ht:P.underlying t=some (TypeDesc.slice T)) (hinfo:(P.info? T).map (fun i=>(i.zero,i.size,i.bytes))=some (some Z,F.k,by8)) (hZ:Z.cells.size=F.k) (hb8:by8≤1024)
  (v:Value) (n:Nat) (xs:List α) (hs:a.eval s=v) (hown:w.ownsRow base T F.k v n (F.all xs)) (ao:Option Addr) (m c:Nat) (zs:List α)
  (hx:a.eval x=.slice ao m c) (hrow:GRow F w ao m c zs) (hsm:n+m≤137438953472) (hbase:base≤w.heap.size)
  (h:∀ao' cap' w',w'.ownsRow base T F.k (.slice ao' (n+m) cap') (n+m) (F.all (xs++zs))→GRow F w' ao' (n+m) cap' (xs++zs)→w.grownBy w' v.ownBlock→Below base w w'→wpList P ops Q rest (a.put o.dst (.slice ao' (n+m) cap')) w') :
  wpList P ops Q (o::rest) a w:=by
 obtain ⟨i0,hi,hz0,hz1,hz2⟩:=zaL hinfo;rcases ao with _ | ad
 ·have hc0:=hrow.nil rfl;have hm0:m=0:=by have:=hrow.le; omega
  subst hc0 hm0;have hz:zs=[]:=List.eq_nil_of_length_eq_zero hrow.size;subst hz;refine wpList_append_own_none hgd s x t ho base T i0 F.k ht hi v n (F.all xs) hs hown hx ?_;obtain ⟨ao',cap',rfl⟩:=zcL hown
  have:=h ao' cap' w (by simpa using hown) (by simpa using zT hown) (World.grownBy.refl _ _) (Below.refl _ _)
  simpa using this
 ·have hnews:∀(j:Nat) (u:Value),(F.all zs)[j]? = some u→w.cell? (ad.add j)=some u:=by
   intro j u hu;rcases hrow.cell with h0 | ⟨b,off,e,_⟩
   ·have hl:=(List.getElem?_eq_some_iff.1 hu).1;rw [F.all_length,hrow.size,h0,Nat.zero_mul] at hl;omega
   ·cases e;exact hrow.news j u hu
  have hB:(n+m)*by8≤140737488355328:=Nat.le_trans (Nat.mul_le_mul hsm hb8) (by omega);refine wpList_append_own w hgd s x t ho base T i0 Z F.k by8 ht hi hz0 hz1 hz2 hZ F.pos v n (F.all xs) hs hown ad m c (F.all zs) hx (by rw [F.all_length,hrow.size]) hnews (F.all_oneCell zs) (by unfold maxLen; omega) hB hbase ?_;intro v' w' how hgr _;rw [← F.all_append] at how;have hlt:=hown.lt;obtain ⟨ao',cap',rfl⟩:=zcL how;exact h ao' cap' w' how (zT how) hgr ((Below.refl _ _).grown hgr hbase (by intro k hk; exact (hlt k hk).1))

theorem zch (F:Flat α) (w:World) (x:α) (cs:Array Value) (T:TypeId) (h:cs.toList=F.cs x):GRow F (w.alloc (.cells cs T)) (some ⟨w.heap.size,0,none⟩) 1 1 [x]:=by
 refine ⟨rfl,Nat.le_refl _,by unfold maxLen; omega,(by intro h; cases h),.inr ⟨w.heap.size,0,rfl,fun i y hi j v hv => ?_⟩⟩;have hi0:i=0:=by
  have:=(List.getElem?_eq_some_iff.1 hi).1
  simp at this
  exact this
 subst hi0
 simp at hi
 subst hi;rw [Nat.zero_mul,Nat.zero_add];rw [← h] at hv;have hb:=zz w (.cells cs T);simp only [World.cell?,hb]
 simpa using hv

theorem zcY (F:Flat α) (w w':World) (T:TypeId) (b:Nat) (h:w'.heap[b]? = some (.cells #[] T)) (hb:w.heap.size≤b):w'.ownsRow w.heap.size T F.k (.slice (some ⟨b,0,none⟩) 0 0) 0 (F.all []) :=
 ⟨by simp [Flat.all],.inr ⟨b,0,#[],rfl,hb,h,Nat.le_refl _,Nat.zero_le _,by simp,by simp [Flat.all]⟩⟩

section
variable {H:Type} {enc:TypeId × Value→H} {P:Program} {w:World}

open Go.ChangeShapes Go.WideShapes Go.ChangeAt in
theorem zcx (z:α) (F:Flat α) (R:α→Prop) {ts tb:TypeId} (hs:P.underlying ts=some (.slice tb)) (hk:P.cellsOf tb=F.k)
  (hone:∀{fuel:Nat} {cs:List Value} {x:DataW H × List MemPlace},DataW.trod enc P w 0 (fun _=>true) true fuel tb cs=some x→∃y,cs=F.cs y∧R y)
  {fuel:Nat} {v:Value} {x:DataW H × List MemPlace} (h:DataW.trod enc P w 0 (fun _=>true) true fuel ts [v]=some x) :
  ∃ao len cap l,v=.slice ao len cap∧GRow F w ao len cap l∧∀x∈l,R x:=by
 rcases Go.Deep.open_slice hs h with ⟨hcs,_⟩ | ⟨a,len,cap,m,n,D,Pl,hcs,_,hl,hm,hmm,_,hx⟩
 ·simp only [List.cons.injEq,and_true] at hcs;subst hcs;exact ⟨none,0,0,[],rfl,zeA F w,(by intro x hx; cases hx)⟩
 ·simp only [List.cons.injEq,and_true] at hcs;subst hcs;have hmc:m=cap:=by simpa using hmm
  subst hmc;have each:∀i,i < m→∃y,R y∧∀j,j < F.k→w.cell? (a.add (i*F.k+j))=(F.cs y)[j]? := by
   intro i hi;obtain ⟨cs',h1,h2⟩:=hx i hi;rw [hk] at h1;obtain ⟨_,_,hcell⟩:=World.cells?_some h1;obtain ⟨y,rfl,hy⟩:=hone h2;refine ⟨y,hy,fun j hj => ?_⟩
   have:=hcell j hj
   rw [Go.Deep.add_add] at this;exact this
  have:Inhabited α:=⟨z⟩
  obtain ⟨q,hq⟩:=Go.Deep.choose_lt each;refine ⟨some a,len,m,(List.range len).map q,rfl,⟨by simp,hl,hm,(by intro h; cases h), ?_⟩,fun y hy => ?_⟩;rotate_left
  ·obtain ⟨i,hi,rfl⟩:=List.mem_map.1 hy;exact (hq i (by have:=List.mem_range.1 hi; omega)).1
  by_cases h0:len=0
  ·exact .inl h0
  ·obtain ⟨b,off,spot⟩:=a;have hp:=F.pos;have hspot:spot=none:=by
    have h1:=(hq 0 (by omega)).2 0 hp;have h2:0 < (F.cs (q 0)).length:=by rw [F.len]; exact hp
    rw [List.getElem?_eq_getElem h2] at h1
    simpa [Addr.add] using World.cell?_spot h1
   subst hspot;refine .inr ⟨b,off,rfl,fun i y hy j v hv => ?_⟩;have hi:i < len:=by
    have:=(List.getElem?_eq_some_iff.1 hy).1
    simpa using this
   have hy':q i=y:=by
    rw [List.getElem?_map,List.getElem?_range hi] at hy
    simpa using hy
   subst hy';have hj:=(List.getElem?_eq_some_iff.1 hv).1;rw [F.len] at hj;have c:=(hq i (by omega)).2 j hj;rw [zcb,hv] at c;rw [Nat.add_assoc];exact c
end

end

section
open Go.RowKit

variable {α:Type}

theorem Flat.all_set (F:Flat α) (pre:List α) (x x':α) (post:List α) (j:Nat) (u:Value) (hj:j < F.k) (h:(F.cs x).set j u=F.cs x'):(F.all (pre++x::post)).set (pre.length*F.k+j) u=F.all (pre++x'::post):=by
 rw [F.all_append,F.all_cons,List.set_append_right _ _ (by rw [F.all_length]; omega),F.all_length,Nat.add_sub_cancel_left,List.set_append_left _ _ (by rw [F.len]; exact hj),h,F.all_append,F.all_cons]

theorem zB {F:Flat α} {w:World} {base g n cap:Nat} {T:TypeId} {pre post:List α} {x x':α} (h:w.ownsRow base T F.k (.slice (some ⟨g,0,none⟩) n cap) n (F.all (pre++x::post))) (j:Nat) (u:Value) (hj:j < F.k) (hx:(F.cs x).set j u=F.cs x') :
  (w.setCell ⟨g,pre.length*F.k+j,none⟩ u).ownsRow base T F.k (.slice (some ⟨g,0,none⟩) n cap) n (F.all (pre++x'::post)):=by
 have:=(h.stored (pre.length*F.k+j) u).1
 rw [F.all_set pre x x' post j u hj hx] at this;exact this

theorem zco (F:Flat α) (z:α) (n:Nat):(madeCells (F.cs z).toArray (n*F.k)).toList=F.all (List.replicate n z):=by
 have hp:=F.pos
 apply List.ext_getElem?
 intro j;by_cases hj:j < n*F.k
 ·have hi:j / F.k < n:=Nat.div_lt_of_lt_mul (by rw [Nat.mul_comm]; exact hj);have hm:j % F.k < (F.cs z).length:=by rw [F.len]; exact Nat.mod_lt _ hp
  have hx:(List.replicate n z)[j / F.k]? = some z:=by rw [List.getElem?_replicate,if_pos hi]
  have hv:=List.getElem?_eq_getElem hm;have ha:=F.all_at _ _ _ hx _ _ hv;rw [show j / F.k*F.k+j % F.k=j by rw [Nat.mul_comm]; exact Nat.div_add_mod j F.k] at ha;rw [ha];simp only [madeCells,Array.toList_map,Array.toList_range,List.getElem?_map,List.getElem?_range hj,Option.map_some]
  simp [F.len]
  rw [hv]
  rfl
 ·rw [List.getElem?_eq_none (by simp [madeCells]; omega),List.getElem?_eq_none (by rw [F.all_length]; simp; omega)]

theorem z8 {w w':World} {base k:Nat} {e:TypeId} {v:Value} {n:Nat} {xs:List Value} (h:w.ownsRow base e k v n xs) {row:Option Nat} (hg:w.grownBy w' row) (hlt:∀b,row=some b→b < base):w'.ownsRow base e k v n xs:=by
 refine h.kept hg ?_;cases hv:v.ownBlock with
 | none=>exact .inl rfl
 | some b =>
  refine .inr (fun e => ?_);have h1:=(h.lt b hv).1;have h2:=hlt b e.symm;omega

theorem zM {F:Flat α} {w:World} {base g n cap:Nat} {T:TypeId} {l:List α} (h:w.ownsRow base T F.k (.slice (some ⟨g,0,none⟩) n cap) n (F.all l)) {i:Nat} {x:α} (hx:l[i]? = some x) {j:Nat} {v:Value} (hv:(F.cs x)[j]? = some v):w.cell? ⟨g,i*F.k+j,none⟩=some v∧w.frozen? ⟨g,i*F.k+j,none⟩=false:=by
 have ha:=F.all_at l i x hx j v hv;have hlt:=(List.getElem?_eq_some_iff.1 ha).1;have h1:=h.1;refine ⟨?_,h.frozenAt _⟩;rw [h.cellAt _ (by rw [← h1]; exact hlt)];exact ha

end

theorem ze1 (R C H B P:Int) (w:World) :
  Calls Tryz.prog 124 #[.agg #[.int .i64 R,.int .i64 C,.int .i64 H,.int .i64 B,.int .i64 P]] w fun e w'=>e=.returned (.agg #[.int .i64 R,.int .i64 C,.int .i64 H,.int .i64 B,.int .i64 P])∧Below w.heap.size w w':=by
 go_enter Tryz.func124,Tryz.ntmps124;go_wp2;exact bodyPost_ret (v:=.agg #[.int .i64 R,.int .i64 C,.int .i64 H,.int .i64 B,.int .i64 P]) (by simp [results,Tryz.results124,go_sem, *]) rfl ⟨rfl,z6 _ _ _ _⟩

theorem zeS (R C H B P:Int) (w:World) :
  Calls Tryz.prog 131 #[.agg #[.int .i64 R,.int .i64 C,.int .i64 H,.int .i64 B,.int .i64 P],.agg #[.int .i64 R,.int .i64 C,.int .i64 H,.int .i64 B,.int .i64 P]] w fun e w'=>e=.returned (.bool true)∧Below w.heap.size w w':=by
 go_enter Tryz.func131,Tryz.ntmps131;go_wp2;go_ret;exact ⟨rfl,zq _ _ _⟩

theorem zeu {w:World} {o:Obj} {i:Nat} (h:i=w.heap.size):(w.alloc o).heap[i]? = some o:=by subst h; exact zz w o

theorem zao {w:World} {o:Obj} {i:Nat} (h:w.heap[i]? = some o):w.drew.heap[i]? = some o:=h

structure Piece where
 ao:Option Addr
 len:Nat
 cap:Nat
 zs:List Int

def tot (ps:List Piece) (k:Nat):Nat:=((ps.take k).map Piece.len).sum
def flat (ps:List Piece) (k:Nat):List Int:=((ps.take k).map Piece.zs).flatten

def clip (n:Int):Int:=if 2147483647 < n then 2147483647 else if n < -2147483648 then -2147483648 else n

def ints:Nat→Int→List Int→List Int
 | 0,_,out=>out
 | f+1,n,out=>if n < -128∨127 < n then ints f (n / 256) (n / 256 % 256::out) else out

def zdK (n:Int):List Int:=ints 3 (clip n) [clip n % 256]

def lenB (n:Nat):List Int:=if n < 128 then [(n:Int)] else [129,(n:Int)]
def zdL (b:List Int) (tag:Int) (body:List Int):List Int :=
 if tag < 0∨255 < tag∨250 < body.length then b else b++([tag]++lenB body.length++body)

structure VD where
 r:Int
 c:Int
 h:Int
 b:Int
 p:Int

def okVc (r c h b p:Int):Bool:=decide (1≤r∧r≤99) && (decide (0≤c∧c≤100000) && (decide (0≤h∧h≤10) && (decide (1≤b∧b≤99) && decide (0≤p∧p≤7))))
def zgE (r c h b p:Int):List Int:=zdL (zdL (zdL (zdL (zdL [] 2 (zdK r)) 2 (zdK c)) 2 (zdK h)) 2 (zdK b)) 2 (zdK p)
def putVc (r c h b p:Int):List Int:=if okVc r c h b p=true then zgE r c h b p else []

theorem zcP {r c h b p:Int} (k:okVc r c h b p=true):(1≤r∧r≤99)∧(0≤c∧c≤100000)∧(0≤h∧h≤10)∧(1≤b∧b≤99)∧(0≤p∧p≤7):=by
 unfold okVc at k;simp only [Bool.and_eq_true,decide_eq_true_eq] at k;exact k

theorem zf (x lo hi:Int) (w:World) :
  Calls Tryz.prog 91 #[.int .i64 x,.int .i64 lo,.int .i64 hi] w fun e w'=>e=.returned (.bool (decide (lo≤x) && decide (x≤hi)))∧w'=w:=by
 by_cases h1:lo≤x
 ·go_enter Tryz.func91,Tryz.ntmps91;go_wp2;go_ret;exact ⟨zp (by simp [h1]),rfl⟩
 ·go_enter Tryz.func91,Tryz.ntmps91;go_wp2;go_ret;exact ⟨zp (by rw [decide_eq_false (show ¬lo≤x by omega)]; rfl),rfl⟩

theorem zfn (R C H B P:Int):okVc R C H B P=((decide (1≤R) && decide (R≤99)) && ((decide (0≤C) && decide (C≤100000)) && ((decide (0≤H) && decide (H≤10)) && ((decide (1≤B) && decide (B≤99)) && (decide (0≤P) && decide (P≤7)))))):=by
 unfold okVc;have e1:∀a x b:Int,decide (a≤x∧x≤b)=(decide (a≤x) && decide (x≤b)):=fun a x b=>by rw [Bool.eq_iff_iff]; simp
 rw [e1,e1,e1,e1,e1]

theorem zac (R C H B P:Int) (w:World) :
  Calls Tryz.prog 134 #[.agg #[.int .i64 R,.int .i64 C,.int .i64 H,.int .i64 B,.int .i64 P]] w fun e w'=>e=.returned (.bool (okVc R C H B P))∧Below w.heap.size w w':=by
 generalize hP:okVc R C H B P=Q;rw [zfn] at hP;cases t1:(decide (1≤R) && decide (R≤99))
 ·have e:Q=false:=by rw [← hP,t1]; rfl
  subst e;have T1:=hide t1;clear hP t1;go_enter Tryz.func134,Tryz.ntmps134;(go_wp2_with fail);refine (zf R 1 99 _).mono ?_;rintro e w1 ⟨rfl,rfl⟩;rw [T1.out];go_wp2;go_ret;exact ⟨rfl,zg _ _⟩
 cases t2:(decide (0≤C) && decide (C≤100000))
 ·have e:Q=false:=by rw [← hP,t1,t2]; rfl
  subst e;have T1:=hide t1;have T2:=hide t2;clear hP t1 t2;go_enter Tryz.func134,Tryz.ntmps134;(go_wp2_with fail);refine (zf R 1 99 _).mono ?_;rintro e w1 ⟨rfl,rfl⟩;rw [T1.out];(go_wp2_with fail);refine (zf C 0 100000 _).mono ?_;rintro e w2 ⟨rfl,rfl⟩;rw [T2.out];go_wp2;go_ret;exact ⟨rfl,zg _ _⟩
 cases t3:(decide (0≤H) && decide (H≤10))
 ·have e:Q=false:=by rw [← hP,t1,t2,t3]; rfl
  subst e;have T1:=hide t1;have T2:=hide t2;have T3:=hide t3;clear hP t1 t2 t3;go_enter Tryz.func134,Tryz.ntmps134;(go_wp2_with fail);refine (zf R 1 99 _).mono ?_;rintro e w1 ⟨rfl,rfl⟩;rw [T1.out];(go_wp2_with fail);refine (zf C 0 100000 _).mono ?_;rintro e w2 ⟨rfl,rfl⟩;rw [T2.out];(go_wp2_with fail);refine (zf H 0 10 _).mono ?_;rintro e w3 ⟨rfl,rfl⟩;rw [T3.out];go_wp2;go_ret;exact ⟨rfl,zg _ _⟩
 cases t4:(decide (1≤B) && decide (B≤99))
 ·have e:Q=false:=by rw [← hP,t1,t2,t3,t4]; rfl
  subst e;have T1:=hide t1;have T2:=hide t2;have T3:=hide t3;have T4:=hide t4;clear hP t1 t2 t3 t4;go_enter Tryz.func134,Tryz.ntmps134;(go_wp2_with fail);refine (zf R 1 99 _).mono ?_;rintro e w1 ⟨rfl,rfl⟩;rw [T1.out];(go_wp2_with fail);refine (zf C 0 100000 _).mono ?_;rintro e w2 ⟨rfl,rfl⟩;rw [T2.out];(go_wp2_with fail);refine (zf H 0 10 _).mono ?_;rintro e w3 ⟨rfl,rfl⟩;rw [T3.out];(go_wp2_with fail);refine (zf B 1 99 _).mono ?_;rintro e w4 ⟨rfl,rfl⟩;rw [T4.out];go_wp2;go_ret;exact ⟨rfl,zg _ _⟩
 cases t5:(decide (0≤P) && decide (P≤7))
 ·have e:Q=false:=by rw [← hP,t1,t2,t3,t4,t5]; rfl
  subst e;have T1:=hide t1;have T2:=hide t2;have T3:=hide t3;have T4:=hide t4;have T5:=hide t5;clear hP t1 t2 t3 t4 t5;go_enter Tryz.func134,Tryz.ntmps134;(go_wp2_with fail);refine (zf R 1 99 _).mono ?_;rintro e w1 ⟨rfl,rfl⟩;rw [T1.out];(go_wp2_with fail);refine (zf C 0 100000 _).mono ?_;rintro e w2 ⟨rfl,rfl⟩;rw [T2.out];(go_wp2_with fail);refine (zf H 0 10 _).mono ?_;rintro e w3 ⟨rfl,rfl⟩;rw [T3.out];(go_wp2_with fail);refine (zf B 1 99 _).mono ?_;rintro e w4 ⟨rfl,rfl⟩;rw [T4.out];(go_wp2_with fail);refine (zf P 0 7 _).mono ?_;rintro e w5 ⟨rfl,rfl⟩;rw [T5.out];go_wp2;go_ret;exact ⟨rfl,zg _ _⟩
 have e:Q=true:=by rw [← hP,t1,t2,t3,t4,t5]; rfl
 subst e;have T1:=hide t1;have T2:=hide t2;have T3:=hide t3;have T4:=hide t4;have T5:=hide t5;clear hP t1 t2 t3 t4 t5;go_enter Tryz.func134,Tryz.ntmps134;go_wp2_with fail
 refine (zf R 1 99 _).mono ?_;rintro e w1 ⟨rfl,rfl⟩;rw [T1.out];go_wp2_with fail
 refine (zf C 0 100000 _).mono ?_;rintro e w2 ⟨rfl,rfl⟩;rw [T2.out];go_wp2_with fail
 refine (zf H 0 10 _).mono ?_;rintro e w3 ⟨rfl,rfl⟩;rw [T3.out];go_wp2_with fail
 refine (zf B 1 99 _).mono ?_;rintro e w4 ⟨rfl,rfl⟩;rw [T4.out];go_wp2_with fail
 refine (zf P 0 7 _).mono ?_;rintro e w5 ⟨rfl,rfl⟩;rw [T5.out];go_wp2;go_ret;exact ⟨rfl,zg _ _⟩

def zag (R C B P R' C' B' P':Int):Bool :=
 if (R != R')=true then decide (R < R') else if (C != C')=true then decide (C < C') else if (B != B')=true then decide (B < B') else decide (P < P')

theorem zas (R C H B P R' C' H' B' P':Int) (w:World) :
  Calls Tryz.prog 165 #[.agg #[.int .i64 R,.int .i64 C,.int .i64 H,.int .i64 B,.int .i64 P],.agg #[.int .i64 R',.int .i64 C',.int .i64 H',.int .i64 B',.int .i64 P']] w fun e w'=>e=.returned (.bool (zag R C B P R' C' B' P'))∧Below w.heap.size w w':=by
 cases t1:(R != R')
 ·cases t2:(C != C')
  ·cases t3:(B != B')
   ·have e:zag R C B P R' C' B' P'=decide (P < P'):=by unfold zag; rw [t1,t2,t3]; rfl
    rw [e];clear e;go_enter Tryz.func165,Tryz.ntmps165;go_wp2;go_ret;exact ⟨rfl,zq _ _ _⟩
   ·have e:zag R C B P R' C' B' P'=decide (B < B'):=by unfold zag; rw [t1,t2,t3]; rfl
    rw [e];clear e;go_enter Tryz.func165,Tryz.ntmps165;go_wp2;go_ret;exact ⟨rfl,zq _ _ _⟩
  ·have e:zag R C B P R' C' B' P'=decide (C < C'):=by unfold zag; rw [t1,t2]; rfl
   rw [e];clear e;go_enter Tryz.func165,Tryz.ntmps165;go_wp2;go_ret;exact ⟨rfl,zq _ _ _⟩
 ·have e:zag R C B P R' C' B' P'=decide (R < R'):=by unfold zag; rw [t1]; rfl
  rw [e];clear e;go_enter Tryz.func165,Tryz.ntmps165;go_wp2;go_ret;exact ⟨rfl,zq _ _ _⟩

def zat (R C H B P k:Int):Bool:=okVc R C H B P && ((decide (1≤k) && decide (k≤1000)) && okVc R (C+k) (H+1) B P)

theorem zcA (R C H B P k:Int) (w:World) :
  Calls Tryz.prog 204 #[.agg #[.int .i64 R,.int .i64 C,.int .i64 H,.int .i64 B,.int .i64 P],.int .i64 k] w fun e w'=>e=.returned (.tuple #[if zat R C H B P k=true then .agg #[.int .i64 R,.int .i64 (C+k),.int .i64 (H+1),.int .i64 B,.int .i64 P] else .agg #[.int .i64 R,.int .i64 C,.int .i64 H,.int .i64 B,.int .i64 P],.bool (zat R C H B P k)])∧Below w.heap.size w w':=by
 have q2:=zq w (.cells #[.int .i64 R,.int .i64 C,.int .i64 H,.int .i64 B,.int .i64 P] 118) (.cells #[.int .i64 0,.int .i64 0,.int .i64 0,.int .i64 0,.int .i64 0] 118);cases t1:okVc R C H B P
 ·have e:zat R C H B P k=false:=by unfold zat; rw [t1]; rfl
  rw [e,if_neg (by simp)];have T1:=hide t1;clear e t1;go_enter Tryz.func204,Tryz.ntmps204;(go_wp2_with fail);refine (zac R C H B P _).mono ?_;rintro e w1 ⟨rfl,hb1⟩;rw [T1.out];obtain ⟨k0,k1⟩:=za4 hb1;obtain ⟨⟨x0,x1,x2,x3,x4⟩,f0,f1,f2,f3,f4⟩:=zm k0;obtain ⟨⟨y0,y1,y2,y3,y4⟩,g0,g1,g2,g3,g4⟩:=zm k1;have HB:=hide (ze q2 hb1);clear hb1 k0 k1;go_wp2;exact bodyPost_ret (v:=.tuple #[.agg #[.int .i64 R,.int .i64 C,.int .i64 H,.int .i64 B,.int .i64 P],.bool false]) (by simp [results,Tryz.results204,go_sem, *]) rfl ⟨rfl,zC HB.out (by omega) _ _ _ _ _⟩
 cases t2:(decide (1≤k) && decide (k≤1000))
 ·have e:zat R C H B P k=false:=by unfold zat; rw [t1,t2]; rfl
  rw [e,if_neg (by simp)];have T1:=hide t1;have T2:=hide t2;clear e t1 t2;go_enter Tryz.func204,Tryz.ntmps204;(go_wp2_with fail);refine (zac R C H B P _).mono ?_;rintro e w1 ⟨rfl,hb1⟩;rw [T1.out];obtain ⟨k0,k1⟩:=za4 hb1;obtain ⟨⟨x0,x1,x2,x3,x4⟩,f0,f1,f2,f3,f4⟩:=zm k0;obtain ⟨⟨y0,y1,y2,y3,y4⟩,g0,g1,g2,g3,g4⟩:=zm k1;have HB:=hide (ze q2 hb1);clear hb1 k0 k1;(go_wp2_with fail);refine (zf k 1 1000 _).mono ?_;rintro e w2 ⟨rfl,rfl⟩;rw [T2.out];go_wp2;exact bodyPost_ret (v:=.tuple #[.agg #[.int .i64 R,.int .i64 C,.int .i64 H,.int .i64 B,.int .i64 P],.bool false]) (by simp [results,Tryz.results204,go_sem, *]) rfl ⟨rfl,zC HB.out (by omega) _ _ _ _ _⟩
 obtain ⟨-,o2,o3,-,-⟩:=zcP t1;have hk:1≤k∧k≤1000:=by simpa using t2
 have es:zat R C H B P k=okVc R (C+k) (H+1) B P:=by unfold zat; rw [t1,t2]; rfl
 rw [es];clear es;cases t3:okVc R (C+k) (H+1) B P
 ·rw [if_neg (by simp)];have T1:=hide t1;have T2:=hide t2;have T3:=hide t3;clear t1 t2 t3;go_enter Tryz.func204,Tryz.ntmps204;(go_wp2_with fail);refine (zac R C H B P _).mono ?_;rintro e w1 ⟨rfl,hb1⟩;rw [T1.out];obtain ⟨k0,k1⟩:=za4 hb1;obtain ⟨⟨x0,x1,x2,x3,x4⟩,f0,f1,f2,f3,f4⟩:=zm k0;have HB:=hide (ze q2 hb1);have K0:=hide k0;have K1:=hide k1;clear hb1 k0 k1;(go_wp2_with fail);refine (zf k 1 1000 _).mono ?_;rintro e w2 ⟨rfl,rfl⟩;rw [T2.out];have lt0:=(Array.getElem?_eq_some_iff.1 K0.out).1;have ne1:¬w.heap.size=w2.heap.size:=by omega
  have ne2:¬w2.heap.size=w.heap.size:=by omega
  (go_wp2_with fail);refine (zac R (C+k) (H+1) B P _).mono ?_;rintro e w3 ⟨rfl,hb3⟩;rw [T3.out];clear x0 x1 x2 x3 x4 f0 f1 f2 f3 f4;have b3:=ze (zg w2 _) hb3;obtain ⟨⟨x0,x1,x2,x3,x4⟩,f0,f1,f2,f3,f4⟩:=zm (zd K0.out b3);obtain ⟨⟨y0,y1,y2,y3,y4⟩,g0,g1,g2,g3,g4⟩:=zm (zd K1.out b3);have HB3:=hide (ze HB.out b3);clear hb3 b3;go_wp2;exact bodyPost_ret (v:=.tuple #[.agg #[.int .i64 R,.int .i64 C,.int .i64 H,.int .i64 B,.int .i64 P],.bool false]) (by simp [results,Tryz.results204,go_sem, *]) rfl ⟨rfl,zC HB3.out (by omega) _ _ _ _ _⟩
 ·rw [if_pos rfl];have T1:=hide t1;have T2:=hide t2;have T3:=hide t3;clear t1 t2 t3;go_enter Tryz.func204,Tryz.ntmps204;(go_wp2_with fail);refine (zac R C H B P _).mono ?_;rintro e w1 ⟨rfl,hb1⟩;rw [T1.out];obtain ⟨k0,k1⟩:=za4 hb1;obtain ⟨⟨x0,x1,x2,x3,x4⟩,f0,f1,f2,f3,f4⟩:=zm k0;have HB:=hide (ze q2 hb1);have K0:=hide k0;have K1:=hide k1;clear hb1 k0 k1;(go_wp2_with fail);refine (zf k 1 1000 _).mono ?_;rintro e w2 ⟨rfl,rfl⟩;rw [T2.out];have lt0:=(Array.getElem?_eq_some_iff.1 K0.out).1;have ne1:¬w.heap.size=w2.heap.size:=by omega
  have ne2:¬w2.heap.size=w.heap.size:=by omega
  (go_wp2_with fail);refine (zac R (C+k) (H+1) B P _).mono ?_;rintro e w3 ⟨rfl,hb3⟩;rw [T3.out];clear x0 x1 x2 x3 x4 f0 f1 f2 f3 f4;have b3:=ze (zg w2 _) hb3;obtain ⟨⟨x0,x1,x2,x3,x4⟩,f0,f1,f2,f3,f4⟩:=zm (zd (zz w2 _) hb3);obtain ⟨⟨y0,y1,y2,y3,y4⟩,g0,g1,g2,g3,g4⟩:=zm (zd K1.out b3);have HB3:=hide (ze HB.out b3);clear hb3 b3;go_wp2;exact bodyPost_ret (v:=.tuple #[.agg #[.int .i64 R,.int .i64 (C+k),.int .i64 (H+1),.int .i64 B,.int .i64 P],.bool true]) (by simp [results,Tryz.results204,go_sem, *]) rfl ⟨rfl,zC HB3.out (by omega) _ _ _ _ _⟩

structure PT where
 up:Bool
 k:Int
 has:Bool
 v:VD

def ptF:Flat PT where
 k:=8
 cs:=fun x=>[.bool x.up,.int .i64 x.k,.bool x.has,.int .i64 x.v.r,.int .i64 x.v.c,.int .i64 x.v.h,.int .i64 x.v.b,.int .i64 x.v.p]
 len:=fun _=>rfl
 pos:=by decide
 one:=fun _ v hv=>by
  simp only [List.mem_cons,List.not_mem_nil,or_false] at hv;rcases hv with rfl | rfl | rfl | rfl | rfl | rfl | rfl | rfl <;> rfl

theorem pt_at {w:World} {ao:Option Addr} {len cap:Nat} {l:List PT} (h:GRow ptF w ao len cap l) (i:Nat) (hi:i < len):∃(x:PT) (b off:Nat),l[i]? = some x∧ao=some ⟨b,off,none⟩ ∧
  w.cell? ⟨b,off+i*8,none⟩=some (.bool x.up)∧w.cell? ⟨b,off+i*8+1,none⟩=some (.int .i64 x.k)∧w.cell? ⟨b,off+i*8+2,none⟩=some (.bool x.has) ∧
  w.cell? ⟨b,off+i*8+3,none⟩=some (.int .i64 x.v.r)∧w.cell? ⟨b,off+i*8+4,none⟩=some (.int .i64 x.v.c)∧w.cell? ⟨b,off+i*8+5,none⟩=some (.int .i64 x.v.h)∧w.cell? ⟨b,off+i*8+6,none⟩=some (.int .i64 x.v.b)∧w.cell? ⟨b,off+i*8+7,none⟩=some (.int .i64 x.v.p):=by
 obtain ⟨x,b,off,hx,ha,hc⟩:=h.at i hi;exact ⟨x,b,off,hx,ha,hc 0 _ rfl,hc 1 _ rfl,hc 2 _ rfl,hc 3 _ rfl,hc 4 _ rfl,hc 5 _ rfl,hc 6 _ rfl,hc 7 _ rfl⟩

def zcE (v:VD):Bool:=v.r == 0 && (v.c == 0 && (v.h == 0 && (v.b == 0 && v.p == 0)))
def okVd (v:VD):Bool:=okVc v.r v.c v.h v.b v.p
def ptOk (x:PT):Bool:=(decide (1≤x.k) && decide (x.k≤1000)) && ((x.up || !x.has) && (if x.has then okVd x.v else zcE x.v))

def stepV (v:VD) (k:Int):VD:=⟨v.r,v.c+k,v.h+1,v.b,v.p⟩
def zb4 (v:VD) (k:Int):Bool:=zat v.r v.c v.h v.b v.p k
def lessV (u v:VD):Bool:=zag u.r u.c u.b u.p v.r v.c v.b v.p

def offers (id:Int) (x:PT):Bool:=x.up && (x.has && (zb4 x.v x.k && decide (x.v.r < id)))

def zaD (id:Int) (s:Option (VD × Nat)) (i:Nat) (x:PT):Option (VD × Nat) :=
 if offers id x=true then
  match s with
  | none=>some (stepV x.v x.k,i)
  | some (f,j)=>if lessV (stepV x.v x.k) f=true then some (stepV x.v x.k,i) else some (f,j)
 else s
def zaB (id:Int) (l:List PT):Nat→Option (VD × Nat)
 | 0=>none
 | k+1=>match l[k]? with
  | some x=>zaD id (zaB id l k) k x
  | none=>zaB id l k
def zt (id:Int) (l:List PT):Option (VD × Nat):=zaB id l l.length

def bestV (id:Int):Option (VD × Nat)→VD
 | none=>⟨id,0,0,id,0⟩
 | some (f,_)=>⟨f.r,f.c,f.h,id,0⟩
def bestP:Option (VD × Nat)→Int
 | none => -1
 | some (_,j)=>(j:Int)
def fromV:Option (VD × Nat)→VD
 | none=>⟨0,0,0,0,0⟩
 | some (f,_)=>f

theorem zcj {id:Int} {l:List PT} {k:Nat} {x:PT} (h:l[k]? = some x):zaB id l (k+1)=zaD id (zaB id l k) k x:=by
 rw [zaB,h]

theorem zav {id:Int} {s:Option (VD × Nat)} {i:Nat} {x:PT} (h:offers id x=false):zaD id s i x=s:=by
 unfold zaD;rw [if_neg (by simp [h])]

def sayV (id:Int) (l:List PT) (port:Int):VD:=⟨(bestV id (zt id l)).r,(bestV id (zt id l)).c,(bestV id (zt id l)).h,id,port⟩

def zbO (id:Int) (l:List PT) (i:Nat) (x:PT):Int :=
 if x.up=false then 4
 else if bestP (zt id l)=(i:Int) then 1
 else if (!x.has || lessV (sayV id l i) x.v)=true then 2
 else 3
def z9 (id:Int) (l:List PT) (port:Int):Int :=
 if (decide (0≤port) && decide (port≤(l.length:Int) - 1))=true then
  match l[port.toNat]? with
  | some x=>zbO id l port.toNat x
  | none=>4
 else 4

structure FE where
 t:Int
 m:Int
 p:Int
 a:Int
 s:Bool

def entOk (e:FE):Bool :=
 (decide (1≤e.t) && decide (e.t≤99)) && ((decide (1≤e.m) && decide (e.m≤9999)) && ((decide (0≤e.p) && decide (e.p≤7)) && ((decide (0≤e.a) && decide (e.a≤4)) && (!e.s || (e.a == 0)))))

theorem zfa (e:FE):entOk e=true↔(1≤e.t∧e.t≤99)∧(1≤e.m∧e.m≤9999)∧(0≤e.p∧e.p≤7)∧(0≤e.a∧e.a≤4)∧(e.s=true→e.a=0):=by
 unfold entOk;cases e.s <;> simp

def ahead (e:FE) (t m:Int):Bool:=if (e.t != t)=true then decide (e.t < t) else decide (e.m < m)

def both (e:FE) (t m:Int):Bool:=(e.t == t) && (e.m == m)

theorem zfQ {e:FE} {t m:Int}:both e t m=true↔e.t=t∧e.m=m:=by simp [both]
theorem zfR {e:FE} {t m:Int}:both e t m=false↔¬(e.t=t∧e.m=m):=by
 rw [← zfQ]; simp

theorem zdh {e:FE} {t m:Int}:ahead e t m=true↔e.t < t∨(e.t=t∧e.m < m):=by
 unfold ahead;by_cases h:e.t=t
 ·simp [h]
 ·simp [h]
theorem ze2 {e:FE} {t m:Int}:ahead e t m=false↔¬(e.t < t∨(e.t=t∧e.m < m)):=by
 rw [← zdh]; simp

def rises:List FE→Bool
 | []=>true
 | [e]=>entOk e
 | e::f::r=>entOk e && (ahead e f.t f.m && rises (f::r))

def fdbOk (l:List FE):Bool:=rises l && decide ((l.length:Int)≤12)

def Sorted (l:List FE):Prop:=(∀e∈l,entOk e=true)∧l.Pairwise (fun e f=>ahead e f.t f.m=true)

theorem zdV {e f g:FE} (h1:ahead e f.t f.m=true) (h2:ahead f g.t g.m=true):ahead e g.t g.m=true:=by
 rw [zdh] at *;omega

theorem zb2:∀(l:List FE),rises l=true↔Sorted l
 | []=>by simp [rises,Sorted]
 | [e]=>by simp [rises,Sorted]
 | e::f::r=>by
  have ih:=zb2 (f::r);unfold rises;simp only [Bool.and_eq_true,ih]
  constructor
  ·rintro ⟨h1,h2,h3,h4⟩;refine ⟨?_, ?_⟩
   ·intro x hx;rcases List.mem_cons.1 hx with rfl | hx
    ·exact h1
    ·exact h3 x hx
   ·refine List.pairwise_cons.2 ⟨?_,h4⟩;intro x hx;rcases List.mem_cons.1 hx with rfl | hx
    ·exact h2
    ·exact zdV h2 ((List.pairwise_cons.1 h4).1 x hx)
  ·rintro ⟨h1,h2⟩;obtain ⟨h3,h4⟩:=List.pairwise_cons.1 h2;exact ⟨h1 e (by simp),h3 f (by simp),fun x hx=>h1 x (List.mem_cons_of_mem _ hx),h4⟩

theorem zfe (l:List FE):fdbOk l=true↔Sorted l∧l.length≤12:=by
 unfold fdbOk;rw [Bool.and_eq_true,zb2,decide_eq_true_eq]
 constructor <;> rintro ⟨h1,h2⟩ <;> exact ⟨h1,by omega⟩

section
open Go.RowKit

def fentF:Flat FE where
 k:=5
 cs:=fun e=>[.int .i64 e.t,.int .i64 e.m,.int .i64 e.p,.int .i64 e.a,.bool e.s]
 len:=fun _=>rfl
 pos:=by decide
 one:=fun _ v hv=>by
  simp only [List.mem_cons,List.not_mem_nil,or_false] at hv;rcases hv with rfl | rfl | rfl | rfl | rfl <;> rfl

theorem zeM {n:Int} (h:(Lit.int .i64 n).wf=true) : -9223372036854775808≤n∧n≤9223372036854775807:=by
 simp [Lit.wf,IntKind.min,IntKind.max,IntKind.bits,IntKind.signed] at h
 omega

def FE.Rng (e:FE):Prop:=(-9223372036854775808≤e.t∧e.t≤9223372036854775807)∧(-9223372036854775808≤e.m∧e.m≤9223372036854775807)∧(-9223372036854775808≤e.p∧e.p≤9223372036854775807)∧(-9223372036854775808≤e.a∧e.a≤9223372036854775807)

theorem zaK {w:World} {ao:Option Addr} {len cap:Nat} {l:List FE} (h:GRow fentF w ao len cap l) (i:Nat) (hi:i < len):∃(x:FE) (b off:Nat),l[i]? = some x∧ao=some ⟨b,off,none⟩ ∧
  w.cell? ⟨b,off+i*5,none⟩=some (.int .i64 x.t)∧w.cell? ⟨b,off+i*5+1,none⟩=some (.int .i64 x.m)∧w.cell? ⟨b,off+i*5+2,none⟩=some (.int .i64 x.p)∧w.cell? ⟨b,off+i*5+3,none⟩=some (.int .i64 x.a)∧w.cell? ⟨b,off+i*5+4,none⟩=some (.bool x.s):=by
 obtain ⟨x,b,off,hx,ha,hc⟩:=h.at i hi;exact ⟨x,b,off,hx,ha,hc 0 _ rfl,hc 1 _ rfl,hc 2 _ rfl,hc 3 _ rfl,hc 4 _ rfl⟩

section
open Go.ChangeShapes Go.WideShapes Go.ChangeAt
variable {H:Type} {enc:TypeId × Value→H} {P:Program} {w:World}

theorem zfg {tp ti tb:TypeId} {g0 g1 g2 g3 g4:Field} (hs:P.underlying tp=some (.struct #[g0,g1,g2,g3,g4])) (hi:P.underlying ti=some (.int .i64)) (hb:P.underlying tb=some .bool)
  (e0:g0.type=ti∧g0.offset=0) (e1:g1.type=ti∧g1.offset=1) (e2:g2.type=ti∧g2.offset=2) (e3:g3.type=ti∧g3.offset=3) (e4:g4.type=tb∧g4.offset=4) (hC:P.cellsOf tp=5) (hti:P.cellsOf ti=1) (htb:P.cellsOf tb=1)
  {fuel:Nat} {cs:List Value} {x:DataW H × List MemPlace} (h:DataW.trod enc P w 0 (fun _=>true) true fuel tp cs=some x):∃y,cs=fentF.cs y∧y.Rng:=by
 obtain ⟨xs,n,_,_,hlen,hxl,hq⟩:=DataW.trod_struct hs h;rw [hC] at hlen
 match xs,hxl,cs,hlen with
 | [y0,y1,y2,y3,y4],_,[v0,v1,v2,v3,v4],_ =>
  have k0:=hq 0 g0 rfl;have k1:=hq 1 g1 rfl;have k2:=hq 2 g2 rfl;have k3:=hq 3 g3 rfl;have k4:=hq 4 g4 rfl;rw [e0.1,e0.2,hti] at k0;rw [e1.1,e1.2,hti] at k1;rw [e2.1,e2.2,hti] at k2;rw [e3.1,e3.2,hti] at k3;rw [e4.1,e4.2,htb] at k4
  simp at k0 k1 k2 k3 k4
  obtain ⟨T,i0,-,r0⟩:=DataW.trod_int hi k0;obtain ⟨M,i1,-,r1⟩:=DataW.trod_int hi k1;obtain ⟨P',i2,-,r2⟩:=DataW.trod_int hi k2;obtain ⟨A,i3,-,r3⟩:=DataW.trod_int hi k3;obtain ⟨S,i4,-⟩:=DataW.trod_bool hb k4;simp only [List.cons.injEq,and_true] at i0 i1 i2 i3 i4;subst i0 i1 i2 i3 i4;exact ⟨⟨T,M,P',A,S⟩,rfl,zeM r0,zeM r1,zeM r2,zeM r3⟩
end

end

structure VR where
 i:Int
 m:Int
 b:Int

structure VT where
 rows:List VR
 own:List Int

def zaC (l:List VR) (id:Int):Option Nat:=l.findIdx? (fun r=>r.i == id)
def rowAt (l:List VR) (id:Int):Int:=match zaC l id with
 | some k=>k
 | none => -1

def in3 (x lo hi:Int):Bool:=decide (lo≤x) && decide (x≤hi)
def allOf (p:Nat):Int:=2 ^ p - 1

def zap (all:Int) (r:VR):Bool:=in3 r.i 1 99 && in3 r.m 0 all && in3 r.b 0 all && (bits .and .i64 r.b r.m == r.b)

def vrises:List VR→Bool
 | []=>true
 | [_]=>true
 | e::f::r=>decide (e.i < f.i) && vrises (f::r)

def zS (v:VT) (ports:Int):Bool :=
 in3 ports 1 6 && ((v.own.length:Int) == ports) && decide (v.rows.length≤6) && v.rows.all (zap (allOf ports.toNat)) && vrises v.rows && v.own.all (fun p=>(zaC v.rows p).isSome)

theorem zdM {l:List VR} {id:Int} {k:Nat} {x:VR} (hno:∀j y,j < k→l[j]? = some y→(y.i == id)=false) (hx:l[k]? = some x) (he:(x.i == id)=true):zaC l id=some k:=by
 obtain ⟨hk,rfl⟩:=List.getElem?_eq_some_iff.1 hx;refine List.findIdx?_eq_some_iff_getElem.2 ⟨hk,he,fun j hj => ?_⟩
 have:=hno j l[j] hj (List.getElem?_eq_getElem (by omega))
 simp [this]

theorem zej {l:List VR} {id:Int} (hno:∀(j:Nat) (y:VR),l[j]? = some y→(y.i == id)=false):zaC l id=none:=by
 refine List.findIdx?_eq_none_iff.2 fun x hx => ?_
 obtain ⟨j,hj⟩:=List.mem_iff_getElem?.1 hx;exact hno j x hj

theorem zeI {l:List VR} {id:Int} {k:Nat} {x:VR} (hno:∀j y,j < k→l[j]? = some y→(y.i == id)=false) (hx:l[k]? = some x) (he:(x.i == id)=false):∀j y,j < k+1→l[j]? = some y→(y.i == id)=false:=by
 intro j y hj hy;by_cases e:j=k
 ·subst e;rw [hx] at hy;cases hy;exact he
 ·exact hno j y (by omega) hy

theorem zcy {l:List VR} {id:Int} {k:Nat} {x:VR} (hno:∀j y,j < k→l[j]? = some y→(y.i == id)=false) (hx:l[k]? = some x) (he:(x.i == id)=true):rowAt l id=k:=by
 unfold rowAt;rw [zdM hno hx he]
theorem zcS {l:List VR} {id:Int} (hno:∀(j:Nat) (y:VR),l[j]? = some y→(y.i == id)=false):rowAt l id = -1:=by
 unfold rowAt;rw [zej hno]

def cI (zs:List Int):List Value:=zs.map (Value.int .i64)

def I64s (zs:List Int):Prop:=∀z∈zs,-9223372036854775808≤z∧z≤9223372036854775807

theorem zbf (zs:List Int):(cI zs).length=zs.length:=by simp [cI]
theorem zbC (a b:List Int):cI (a++b)=cI a++cI b:=by simp [cI]
theorem zgq (zs:List Int) (j:Nat) (h:j < zs.length):(cI zs)[j]? = some (.int .i64 (zs.getD j 0)):=by
 simp [cI,List.getElem?_map,List.getElem?_eq_getElem h]

structure IRow (w:World) (ao:Option Addr) (len cap:Nat) (zs:List Int):Prop where
 size:zs.length=len
 le:len≤cap
 top:cap≤maxLen
 nil:ao=none→cap=0
 byte:I64s zs
 cell:len=0∨∃b off,ao=some ⟨b,off,none⟩∧∀i,i < len→w.cell? ⟨b,off+i,none⟩=some (.int .i64 (zs.getD i 0))

theorem IRow.below {w w':World} {ao:Option Addr} {len cap:Nat} {zs:List Int} (h:IRow w ao len cap zs) (hb:Below w.heap.size w w'):IRow w' ao len cap zs where
 size:=h.size
 le:=h.le
 top:=h.top
 nil:=h.nil
 byte:=h.byte
 cell:=by
  rcases h.cell with h0 | ⟨b,off,ha,hc⟩
  ·exact .inl h0
  ·exact .inr ⟨b,off,ha,fun i hi=>by rw [hb.cell (zj (hc i hi))]; exact hc i hi⟩

theorem zd9 {w:World} {base:Nat} {v:Value} {n:Nat} {zs:List Int} (h:w.ownsRow base 3 1 v n (cI zs)) (hz:I64s zs) :
  ∃ao cap,v=.slice ao n cap∧IRow w ao n cap zs:=by
 have hl:zs.length=n:=by have:=h.1; simpa [cI] using this
 rcases h.2 with ⟨rfl,rfl⟩ | ⟨g,cap,cur,rfl,hg,hh,h1,h2,h3,h4⟩
 ·exact ⟨none,0,rfl,hl,Nat.le_refl _,Nat.zero_le _,fun _=>rfl,hz,.inl rfl⟩
 ·refine ⟨_,cap,rfl,hl,h1,h2,(by intro h; cases h),hz,.inr ⟨g,0,rfl,fun i hi => ?_⟩⟩
  have:=h.cellAt i (by omega)
  rw [Nat.zero_add,this,zgq zs i (by omega)]

theorem Tryz.infoI64:(Tryz.prog.info? 3).map (fun i=>(i.zero,i.size,i.bytes))=some (some (.int .i64 0),1,8):=by kernel_rfl

theorem IRow.news {w:World} {ao:Option Addr} {len cap:Nat} {zs:List Int} (h:IRow w ao len cap zs) (ad:Addr) (ha:ao=some ad) (j:Nat) (u:Value) (hu:(cI zs)[j]? = some u):w.cell? (ad.add j)=some u:=by
 have hj:j < zs.length:=by
  by_cases hlt:j < zs.length
  ·exact hlt
  ·rw [List.getElem?_eq_none (by rw [zbf]; omega)] at hu;cases hu
 rw [zgq _ _ hj] at hu;rcases h.cell with h0 | ⟨b,off,hb,hc⟩
 ·have:=h.size; omega
 ·rw [ha] at hb;cases hb;rw [← hu];rw [zcb]; exact hc j (by have:=h.size; omega)

theorem zd6 {a b:List Int} (ha:I64s a) (hb:I64s b):I64s (a++b):=by
 intro z hz;rcases List.mem_append.1 hz with h | h
 ·exact ha z h
 ·exact hb z h

theorem zfV {zs:List Int} (h:I64s zs) (j:Nat) : -9223372036854775808≤zs.getD j 0∧zs.getD j 0≤9223372036854775807:=by
 by_cases hj:j < zs.length
 ·rw [List.getD_eq_getElem?_getD,List.getElem?_eq_getElem hj]; exact h _ (List.getElem_mem hj)
 ·rw [List.getD_eq_getElem?_getD,List.getElem?_eq_none (by omega)]; simp

theorem IRow.at {w:World} {ao:Option Addr} {len cap:Nat} {zs:List Int} (h:IRow w ao len cap zs) (hp:0 < len):∃b off,ao=some ⟨b,off,none⟩∧∀i,i < len→w.cell? ⟨b,off+i,none⟩=some (.int .i64 (zs.getD i 0)):=by
 rcases h.cell with h0 | h0
 ·omega
 ·exact h0

theorem I64s.at {zs:List Int} (h:I64s zs) (j:Nat) : -9223372036854775808≤zs.getD j 0∧zs.getD j 0≤9223372036854775807:=zfV h j

theorem zaF (w:World):IRow w none 0 0 []:=⟨rfl,Nat.le_refl _,Nat.zero_le _,fun _=>rfl,(by intro z hz; cases hz),.inl rfl⟩

theorem zcs {w:World} {x:Addr} {len cap:Nat} {zs:List Int} (hl:len≤cap) (hm:cap≤maxLen) (hz:zs.length=cap) (hcell:∀i,i < zs.length→w.cell? (x.add i)=some (.int .i64 (zs.getD i 0))) (hwz:∀n∈zs,(Lit.int .i64 n).wf=true):IRow w (some x) len cap (zs.take len) where
 size:=by simp; omega
 le:=hl
 top:=hm
 nil:=by intro h; cases h
 byte:=by
  intro z h
  have:=hwz z (List.mem_of_mem_take h)
  simp [Lit.wf,IntKind.min,IntKind.max,IntKind.bits,IntKind.signed] at this
  omega
 cell:=by
  by_cases h0:len=0
  ·exact .inl h0
  ·have hc0:=hcell 0 (by omega);obtain ⟨b,off,spot⟩:=x;have hspot:spot=none:=by simpa [Addr.add] using World.cell?_spot hc0
   subst hspot;refine .inr ⟨b,off,rfl,fun i hi => ?_⟩
   have:=hcell i (by omega)
   have e:(⟨b,off,none⟩:Addr).add i=⟨b,off+i,none⟩:=by by_cases h:i=0 <;> simp [Addr.add,h]
   rw [e] at this;rw [this]
   simp [List.getD_eq_getElem?_getD,hi]

end Go.Proofs.YtcpdkcdfnpcemabGreat
