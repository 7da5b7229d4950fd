/-
  Packed: Base Help Mem OwnGen ChgUndo Flat FlatOwn VecHelp Pieces Num Tlv VecMath FrameHelp VecSpec.
-/
import Derived.Test.YtcpdkcdfnpcemaaGreatRows
import Derived.WalkKit
import Derived.WalkSpells
import Derived.WalkLawsBesides
import Derived.Deep.QuietTactic
import Derived.BigQuiet
import Derived.Laws.AppendOwnNone
import Derived.Deep.RegionWith
import Derived.Deep.RegionLaw
import Derived.Deep.RegionHeld
import Derived.Lib.SmallJoins
namespace Go.Proofs.YtcpdkcdfnpcemaaGreat
set_option maxRecDepth 100000
set_option maxHeartbeats 16000000
open Go.RowKit

theorem zb {w w1:World} {o:Obj} (h:w.alloc o=w1):Below w.heap.size w w1:=h▸(Below.refl _ _).alloc (Nat.le_refl _) o

theorem zk {w w1:World} {o:Obj} (h:w.alloc o=w1):w1.heap[w.heap.size]? = some o:=by
 subst h
 show (w.heap.push o)[w.heap.size]? = _
 simp

abbrev zcc (W:World) (b j:Nat) (v:Value):Prop:=W.cell? ⟨b,j,none⟩=some v

theorem lA {α:Type} (l:List α) (i:Nat) (a:α):l.toArray.setIfInBounds i a=(l.set i a).toArray:=List.setIfInBounds_toArray ..

theorem lB {α:Type} (a b:α) (l:List α):(a::l).set 0 b=b::l:=List.set_cons_zero

theorem lC {α:Type} (a b:α) (l:List α) (n:Nat):(a::l).set (n+1) b=a::l.set n b:=List.set_cons_succ

def cB (zs:List Int):List Value:=zs.map (Value.int .u8)

def Byt (zs:List Int):Prop:=∀z∈zs,0≤z∧z≤255

theorem zgY (zs:List Int):(cB zs).length=zs.length:=by simp [cB]
theorem zjj (a b:List Int):cB (a++b)=cB a++cB b:=by simp [cB]
theorem zjk (zs:List Int) (j:Nat) (h:j < zs.length):(cB zs)[j]? = some (.int .u8 (zs.getD j 0)):=by
 simp [cB,List.getElem?_map,List.getElem?_eq_getElem h]

structure Row (w:World) (ao:Option Addr) (len cap:Nat) (zs:List Int):Prop where
 size:zs.length=len
 le:len≤cap
 top:cap≤maxLen
 nil:ao=none→cap=0
 byte:Byt zs
 cell:len=0∨∃b off,ao=some ⟨b,off,none⟩∧∀i,i < len→w.cell? ⟨b,off+i,none⟩=some (.int .u8 (zs.getD i 0))

theorem zu {w:World} {a:Addr} {v:Value} (h:w.cell? a=some v):a.block < w.heap.size:=by
 unfold World.cell? at h;by_cases hb:a.block < w.heap.size
 ·exact hb
 ·rw [Array.getElem?_eq_none (by omega)] at h
  simp at h

theorem Row.below {w w':World} {ao:Option Addr} {len cap:Nat} {zs:List Int} (h:Row w ao len cap zs) (hb:Below w.heap.size w w'):Row w' ao len cap zs where
 size:=h.size
 le:=h.le
 top:=h.top
 nil:=h.nil
 byte:=h.byte
 cell:=by
  rcases h.cell with h0 | ⟨b,off,ha,hc⟩
  ·exact .inl h0
  ·exact .inr ⟨b,off,ha,fun i hi=>by rw [hb.cell (zu (hc i hi))]; exact hc i hi⟩

theorem zap {B:Nat} {a w:World} (h:Below B a w) (n:Nat):Below B a (w.drewN n) :=
 ⟨h.os,h.tape,h.output,h.size,h.block⟩

theorem zbG {w w':World} {base:Nat} {e:TypeId} {v:Value} {n:Nat} {xs:List Value} (h:w.ownsRow base e 1 v n xs) (hb:Below w.heap.size w w'):w'.ownsRow base e 1 v n xs:=by
 obtain ⟨hl,h | ⟨g,cap,cur,rfl,hg,hh,h1,h2,h3,h4⟩⟩:=h
 ·exact ⟨hl,.inl h⟩
 ·refine ⟨hl,.inr ⟨g,cap,cur,rfl,hg, ?_,h1,h2,h3,h4⟩⟩;rw [hb.block g ?_]
  ·exact hh
  ·by_cases hlt:g < w.heap.size
   ·exact hlt
   ·rw [Array.getElem?_eq_none (by omega)] at hh
    simp at hh

theorem zbc {w:World} {base:Nat} {e:TypeId} {v:Value} {n:Nat} {xs:List Value} (h:w.ownsRow base e 1 v n xs) {base':Nat} (hle:base'≤base):w.ownsRow base' e 1 v n xs:=by
 obtain ⟨hl,h | ⟨g,cap,cur,rfl,hg,hh,h1,h2,h3,h4⟩⟩:=h
 ·exact ⟨hl,.inl h⟩
 ·exact ⟨hl,.inr ⟨g,cap,cur,rfl,by omega,hh,h1,h2,h3,h4⟩⟩

theorem zdf (b off j:Nat):(⟨b,off,none⟩:Addr).add j=⟨b,off+j,none⟩:=by
 by_cases h:j=0 <;> simp [Addr.add,h]

theorem Row.news {w:World} {ao:Option Addr} {len cap:Nat} {zs:List Int} (h:Row w ao len cap zs) (ad:Addr) (ha:ao=some ad) (j:Nat) (u:Value) (hu:(cB zs)[j]? = some u):w.cell? (ad.add j)=some u:=by
 have hj:j < zs.length:=by
  by_cases hlt:j < zs.length
  ·exact hlt
  ·rw [List.getElem?_eq_none (by rw [zgY]; omega)] at hu;cases hu
 rw [zjk _ _ hj] at hu;rcases h.cell with h0 | ⟨b,off,hb,hc⟩
 ·have:=h.size; omega
 ·rw [ha] at hb;cases hb;rw [← hu];rw [zdf]; exact hc j (by have:=h.size; omega)

theorem Row.none_zero {w:World} {ao:Option Addr} {len cap:Nat} {zs:List Int} (h:Row w ao len cap zs) (ha:ao=none):len=0∧cap=0:=by
 have:=h.nil ha; have:=h.le; omega

theorem hide {p:Prop} (h:p):Hid p:=h

theorem zg7 {zs:List Int} (h:Byt zs) (j:Nat):0≤zs.getD j 0∧zs.getD j 0≤255:=by
 by_cases hj:j < zs.length
 ·rw [List.getD_eq_getElem?_getD,List.getElem?_eq_getElem hj]; exact h _ (List.getElem_mem hj)
 ·rw [List.getD_eq_getElem?_getD,List.getElem?_eq_none (by omega)]; simp

theorem Row.at {w:World} {ao:Option Addr} {len cap:Nat} {zs:List Int} (h:Row w ao len cap zs) (hp:0 < len):∃b off,ao=some ⟨b,off,none⟩∧∀i,i < len→w.cell? ⟨b,off+i,none⟩=some (.int .u8 (zs.getD i 0)):=by
 rcases h.cell with h0 | h0
 ·omega
 ·exact h0

theorem Byt.at {zs:List Int} (h:Byt zs) (j:Nat):0≤zs.getD j 0∧zs.getD j 0≤255:=zg7 h j

theorem zja (w:World):Row w none 0 0 []:=⟨rfl,Nat.le_refl _,Nat.zero_le _,fun _=>rfl,(by intro z hz; cases hz),.inl rfl⟩

theorem ziF {w:World} {x:Addr} {len cap:Nat} {zs:List Int} (hl:len≤cap) (hm:cap≤maxLen) (hz:zs.length=cap) (hcell:∀i,i < zs.length→w.cell? (x.add i)=some (.int .u8 (zs.getD i 0))) (hwz:∀n∈zs,(Lit.int .u8 n).wf=true):Row w (some x) len cap (zs.take len) where
 size:=by simp; omega
 le:=hl
 top:=hm
 nil:=by intro h; cases h
 byte:=by
  intro z h
  have:=hwz z (List.mem_of_mem_take h)
  simp [Lit.wf,IntKind.min,IntKind.max,IntKind.bits,IntKind.signed] at this
  omega
 cell:=by
  by_cases h0:len=0
  ·exact .inl h0
  ·have hc0:=hcell 0 (by omega);obtain ⟨b,off,spot⟩:=x;have hspot:spot=none:=by simpa [Addr.add] using World.cell?_spot hc0
   subst hspot;refine .inr ⟨b,off,rfl,fun i hi => ?_⟩
   have:=hcell i (by omega)
   have e:(⟨b,off,none⟩:Addr).add i=⟨b,off+i,none⟩:=by by_cases h:i=0 <;> simp [Addr.add,h]
   rw [e] at this;rw [this]
   simp [List.getD_eq_getElem?_getD,hi]

theorem zcz (l:List Int) (k:Nat) (h:k < l.length):l.take (k+1)=l.take k++[l.getD k 0]:=by
 rw [List.take_succ_eq_append_getElem h]; simp [h]

theorem zfA {a b:List Int} (hl:a.length=b.length) (h:a.take a.length=b.take a.length):a=b:=by
 rw [List.take_length,hl,List.take_length] at h; exact h

theorem ne_at {a b:List Int} (k:Nat) (h:¬a.getD k 0=b.getD k 0):¬a=b:=by
 intro e; exact h (by rw [e])

theorem zH {a b:Bool} (h:a=b):Ending.returned (.bool a)=.returned (.bool b):=by rw [h]
theorem zjx {k:IntKind} {a b:Int} (h:a=b):Ending.returned (.int k a)=.returned (.int k b):=by rw [h]

theorem zbZ {w0 w:World} {g:Nat} (h:w0.grownBy w (some g)) (j:Nat) (u:Value):w0.grownBy (w.setCell ⟨g,j,none⟩ u) (some g) where
 os:=h.os
 tape:=h.tape
 output:=h.output
 size:=by have:=h.size; simpa using this
 block:=fun k hk hne=>by
  rw [Below.heap_setCell _ _ _ _ (by intro e; exact hne (by rw [e]))];exact h.block k hk hne

theorem ze7 {w w':World} {base:Nat} {e:TypeId} {v:Value} {n:Nat} {xs:List Value} {row:Option Nat} (h:w.ownsRow base e 1 v n xs) (hg:w.grownBy w' row) (hr:∀k,row=some k→k < base):w'.ownsRow base e 1 v n xs:=by
 refine h.kept hg ?_;cases hv:v.ownBlock with
 | none=>exact .inl rfl
 | some k =>
  refine .inr ?_;intro e
  have:=hr k e.symm
  have:=(h.lt k hv).1
  omega

theorem zh (w:World) (o:Obj):Below w.heap.size w (w.alloc o):=(Below.refl _ _).alloc (Nat.le_refl _) o

theorem zaA (w:World) (o p:Obj):Below w.heap.size w ((w.alloc o).alloc p):=(zh w o).alloc (by simp) p

theorem zbg (w:World) (o p q:Obj):Below w.heap.size w (((w.alloc o).alloc p).alloc q):=(zaA w o p).alloc (by simp; omega) q

theorem zv (w:World) (o:Obj):(w.alloc o).heap[w.heap.size]? = some o:=by show (w.heap.push o)[w.heap.size]? = _; simp

theorem zcL {w w1:World} {o:Obj} (hb:Below (w.alloc o).heap.size (w.alloc o) w1):w1.heap[w.heap.size]? = some o:=by
 rw [hb.block _ (by simp)]; exact zv w o

theorem zb3 {w w1:World} {o p:Obj} (hb:Below ((w.alloc o).alloc p).heap.size ((w.alloc o).alloc p) w1):w1.heap[w.heap.size]? = some o∧w1.heap[w.heap.size+1]? = some p:=by
 refine ⟨?_, ?_⟩
 ·have:=zh (w.alloc o) p
  exact zcL (w:=w) (o:=o) ((this.trans (hb.mono this.size)))
 ·have:=zcL (w:=w.alloc o) (o:=p) hb; simpa using this

theorem zbz {w w1:World} {o p q:Obj} (hb:Below (((w.alloc o).alloc p).alloc q).heap.size (((w.alloc o).alloc p).alloc q) w1):w1.heap[w.heap.size]? = some o∧w1.heap[w.heap.size+1]? = some p∧w1.heap[w.heap.size+1+1]? = some q:=by
 have t:=zh ((w.alloc o).alloc p) q;have u:=zb3 (w:=w) (o:=o) (p:=p) (t.trans (hb.mono t.size));refine ⟨u.1,u.2, ?_⟩
 have:=zcL (w:=(w.alloc o).alloc p) (o:=q) hb; simpa using this

theorem zah {w:World} {C:Nat} {t:TypeId} {c0 c1 c2 c3:Value} (h:w.heap[C]? = some (.cells #[c0,c1,c2,c3] t)) :
  (w.cell? ⟨C,0,none⟩=some c0∧w.cell? ⟨C,1,none⟩=some c1∧w.cell? ⟨C,2,none⟩=some c2∧w.cell? ⟨C,3,none⟩=some c3) ∧
  (w.frozen? ⟨C,0,none⟩=false∧w.frozen? ⟨C,1,none⟩=false∧w.frozen? ⟨C,2,none⟩=false∧w.frozen? ⟨C,3,none⟩=false):=by
 refine ⟨⟨?_, ?_, ?_, ?_⟩, ?_, ?_, ?_, ?_⟩ <;> simp [World.cell?,World.frozen?,h]

theorem zg {B:Nat} {a w:World} (h:Below B a w) {g:Nat} (hB:B≤g) (j:Nat) (u:Value):Below B a (w.setCell ⟨g,j,none⟩ u):=h.setCell (p:=⟨g,j,none⟩) hB u

theorem undrew {B n:Nat} {w w':World} (h:Below B (w.drewN n) w'):Below B w w':=⟨h.os,h.tape,h.output,h.size,h.block⟩

theorem ze {w w':World} {i:Nat} {o:Obj} (h:w.heap[i]? = some o) (hb:Below w.heap.size w w'):w'.heap[i]? = some o:=by
 by_cases hlt:i < w.heap.size
 ·rw [hb.block i hlt]; exact h
 ·rw [Array.getElem?_eq_none (by omega)] at h; cases h

theorem zt {w:World} {C:Nat} {t:TypeId} {c0 c1 c2 c3 c4:Value} (h:w.heap[C]? = some (.cells #[c0,c1,c2,c3,c4] t)) :
  (w.cell? ⟨C,0,none⟩=some c0∧w.cell? ⟨C,1,none⟩=some c1∧w.cell? ⟨C,2,none⟩=some c2∧w.cell? ⟨C,3,none⟩=some c3∧w.cell? ⟨C,4,none⟩=some c4) ∧
  (w.frozen? ⟨C,0,none⟩=false∧w.frozen? ⟨C,1,none⟩=false∧w.frozen? ⟨C,2,none⟩=false∧w.frozen? ⟨C,3,none⟩=false∧w.frozen? ⟨C,4,none⟩=false):=by
 refine ⟨⟨?_, ?_, ?_, ?_, ?_⟩, ?_, ?_, ?_, ?_, ?_⟩ <;> simp [World.cell?,World.frozen?,h]

theorem zp {w:World} {b j:Nat} {cur:Array Value} {t:TypeId} (h:w.heap[b]? = some (.cells cur t)) (u:Value):(w.setCell ⟨b,j,none⟩ u).heap[b]? = some (.cells (cur.setIfInBounds j u) t):=heap_setCell_same w b j cur t u h

theorem zx {w:World} {i b j:Nat} {o:Obj} {u:Value} (h:w.heap[i]? = some o) (hne:i≠b):(w.setCell ⟨b,j,none⟩ u).heap[i]? = some o:=by rw [Below.heap_setCell _ _ _ _ hne]; exact h

theorem zU {w:World} {C:Nat} {t:TypeId} {c0 c1:Value} (h:w.heap[C]? = some (.cells #[c0,c1] t)) :
  (w.cell? ⟨C,0,none⟩=some c0∧w.cell? ⟨C,1,none⟩=some c1)∧(w.frozen? ⟨C,0,none⟩=false∧w.frozen? ⟨C,1,none⟩=false):=by
 refine ⟨⟨?_, ?_⟩, ?_, ?_⟩ <;> simp [World.cell?,World.frozen?,h]

theorem zgF {w:World} {b:Nat} {c0 c1:Value} {t:TypeId} (h:w.heap[b]? = some (.cells #[c0,c1] t)) (u:Value):(w.setCell ⟨b,1,none⟩ u).heap[b]? = some (.cells #[c0,u] t):=by
 have:=heap_setCell_same w b 1 #[c0,c1] t u h
 simpa using this

theorem zaq {a b c:World} {row:Option Nat} (h:a.grownBy b row) (k:b.grownBy c row):a.grownBy c row :=
 ⟨k.os.trans h.os,k.tape.trans h.tape,k.output.trans h.output,Nat.le_trans h.size k.size,fun i hi hn=>(k.block i (Nat.lt_of_lt_of_le hi h.size) hn).trans (h.block i hi hn)⟩

theorem zdA {a b:World} {row:Option Nat} (h:Below a.heap.size a b):a.grownBy b row:=⟨h.os,h.tape,h.output,h.size,fun k hk _=>h.block k hk⟩

theorem zl {w:World} {rb:Nat} (j:Nat) (u:Value):w.grownBy (w.setCell ⟨rb,j,none⟩ u) (some rb):=zbZ (World.grownBy.refl _ _) j u

theorem zas {w:World} {C:Nat} {t:TypeId} {c0 c1 c2:Value} (h:w.heap[C]? = some (.cells #[c0,c1,c2] t)) :
  (w.cell? ⟨C,0,none⟩=some c0∧w.cell? ⟨C,1,none⟩=some c1∧w.cell? ⟨C,2,none⟩=some c2)∧(w.frozen? ⟨C,0,none⟩=false∧w.frozen? ⟨C,1,none⟩=false∧w.frozen? ⟨C,2,none⟩=false):=by
 refine ⟨⟨?_, ?_, ?_⟩, ?_, ?_, ?_⟩ <;> simp [World.cell?,World.frozen?,h]

theorem zA {w w':World} {row:Option Nat} {i:Nat} {o:Obj} (h:w.heap[i]? = some o) (hg:w.grownBy w' row) (hne:∀k,row=some k→k≠i):w'.heap[i]? = some o:=by
 by_cases hlt:i < w.heap.size
 ·rw [hg.block i hlt (fun e=>hne i e.symm rfl)]; exact h
 ·rw [Array.getElem?_eq_none (by omega)] at h; cases h

theorem zam {B:Nat} {a w:World} (h:Below B a w) {g:Nat} (hB:B≤g) (c0 c1 c2 c3:Value):Below B a ((((w.setCell ⟨g,0,none⟩ c0).setCell ⟨g,1,none⟩ c1).setCell ⟨g,2,none⟩ c2).setCell ⟨g,3,none⟩ c3) :=
 zg (zg (zg (zg h hB 0 c0) hB 1 c1) hB 2 c2) hB 3 c3

theorem zZ {B:Nat} {a w:World} (h:Below B a w) {g:Nat} (hB:B≤g) (c0 c1 c2 c3 c4:Value):Below B a (((((w.setCell ⟨g,0,none⟩ c0).setCell ⟨g,1,none⟩ c1).setCell ⟨g,2,none⟩ c2).setCell ⟨g,3,none⟩ c3).setCell ⟨g,4,none⟩ c4) :=
 zg (zg (zg (zg (zg h hB 0 c0) hB 1 c1) hB 2 c2) hB 3 c3) hB 4 c4

theorem Row.set {w:World} {b off len cap:Nat} {zs:List Int} (h:Row w (some ⟨b,off,none⟩) len cap zs) {P:Nat} (hP:¬b=P) (j:Nat) (u:Value):Row (w.setCell ⟨P,j,none⟩ u) (some ⟨b,off,none⟩) len cap zs where
 size:=h.size
 le:=h.le
 top:=h.top
 nil:=h.nil
 byte:=h.byte
 cell:=by
  rcases h.cell with h0 | ⟨b',off',e,hc⟩
  ·exact .inl h0
  ·cases e;refine .inr ⟨b,off,rfl,fun i hi => ?_⟩;rw [World.cell?_setCell_far w ⟨P,j,none⟩ ⟨b,off+i,none⟩ u (fun e=>hP e.symm)];exact hc i hi

theorem zd {w W W':World} (a:Below w.heap.size w W) (b:Below W.heap.size W W'):Below w.heap.size w W':=a.trans (b.mono a.size)

theorem zdj {w W:World} (a:Below w.heap.size w W) (o:Obj):Below w.heap.size w (W.alloc o):=zd a (zh W o)

theorem zr {w W:World} (a:Below w.heap.size w W):Below w.heap.size w W.drew:=a.drew

theorem zf1 {w W:World} (a:Below w.heap.size w W) (n:Nat):Below w.heap.size w (W.drewN n):=zap a n

theorem ziZ {a b c:World} {rb:Nat} (h:Below a.heap.size a b) (hg:b.grownBy c (some rb)) (hr:a.heap.size≤rb):Below a.heap.size a c:=h.grown hg h.size (by intro k hk; cases hk; exact hr)

def blkL (ao:Option Addr):List Nat:=match ao with | some a=>[a.block] | none=>[]

theorem zao {ao:Option Addr} {n c b:Nat}:(Value.slice ao n c).ownBlock=some b↔b∈blkL ao:=by
 cases ao <;> simp [Value.ownBlock,blkL,eq_comm]

structure Only (bs:List Nat) (w w':World):Prop where
 os:w'.os=w.os
 tape:w'.tape=w.tape
 output:w'.output=w.output
 size:w.heap.size≤w'.heap.size
 block:∀k,k < w.heap.size→k∉bs→w'.heap[k]? = w.heap[k]?

theorem Only.refl (bs:List Nat) (w:World):Only bs w w:=⟨rfl,rfl,rfl,Nat.le_refl _,fun _ _ _=>rfl⟩
theorem Only.trans {bs:List Nat} {a b c:World} (h:Only bs a b) (k:Only bs b c):Only bs a c :=
 ⟨k.os.trans h.os,k.tape.trans h.tape,k.output.trans h.output,Nat.le_trans h.size k.size,fun i hi hn=>(k.block i (Nat.lt_of_lt_of_le hi h.size) hn).trans (h.block i hi hn)⟩
theorem Only.wider {bs cs:List Nat} {a b:World} (h:Only bs a b) (hs:∀x∈bs,x∈cs):Only cs a b :=
 ⟨h.os,h.tape,h.output,h.size,fun k hk hn=>h.block k hk (fun hb=>hn (hs k hb))⟩
theorem Only.of_below {bs:List Nat} {a b:World} (h:Below a.heap.size a b):Only bs a b:=⟨h.os,h.tape,h.output,h.size,fun k hk _=>h.block k hk⟩
theorem Only.of_grown {ao:Option Addr} {n c:Nat} {a b:World} (h:a.grownBy b (Value.slice ao n c).ownBlock):Only (blkL ao) a b :=
 ⟨h.os,h.tape,h.output,h.size,fun k hk hn=>h.block k hk (fun e=>hn (zao.1 e.symm))⟩
theorem Only.set (w:World) (g j:Nat) (u:Value):Only [g] w (w.setCell ⟨g,j,none⟩ u) :=
 ⟨rfl,rfl,rfl,by simp,fun k _ hn=>Below.heap_setCell _ _ _ _ (by intro e; exact hn (by simp [e]))⟩
theorem Only.below {bs:List Nat} {w w':World} (h:Only bs w w') {B:Nat} (hB:B≤w.heap.size) (hs:∀b∈bs,B≤b):Below B w w' :=
 ⟨h.os,h.tape,h.output,h.size,fun k hk=>h.block k (by omega) (fun hb=>by have:=hs k hb; omega)⟩
theorem Only.kept {bs:List Nat} {w w':World} (h:Only bs w w') {i:Nat} {o:Obj} (hi:w.heap[i]? = some o) (hn:i∉bs):w'.heap[i]? = some o:=by
 rw [h.block i (Array.getElem?_eq_some_iff.1 hi).1 hn]; exact hi
theorem Only.own {bs:List Nat} {w w':World} {base:Nat} {e:TypeId} {size:Nat} {v:Value} {n:Nat} {xs:List Value} (h:Only bs w w') (ho:w.ownsRow base e size v n xs) (hn:∀k,v.ownBlock=some k→k∉bs):w'.ownsRow base e size v n xs:=by
 obtain ⟨hl,h0 | ⟨g,cap,cur,rfl,hg,hh,r⟩⟩:=ho
 ·exact ⟨hl,.inl h0⟩
 ·exact ⟨hl,.inr ⟨g,cap,cur,rfl,hg,h.kept hh (hn g rfl),r⟩⟩

theorem zaJ {w w':World} {base:Nat} {e:TypeId} {size:Nat} {v:Value} {n:Nat} {xs:List Value} (h:w.ownsRow base e size v n xs) (hb:Below w.heap.size w w'):w'.ownsRow base e size v n xs :=
 (Only.of_below (bs:=[]) hb).own h (by intro k _ hk; cases hk)
theorem zdL {w:World} {base:Nat} {e:TypeId} {size:Nat} {v:Value} {n:Nat} {xs:List Value} (h:w.ownsRow base e size v n xs) {base':Nat} (hle:base'≤base):w.ownsRow base' e size v n xs:=by
 obtain ⟨hl,h | ⟨g,cap,cur,rfl,hg,r⟩⟩:=h
 ·exact ⟨hl,.inl h⟩
 ·exact ⟨hl,.inr ⟨g,cap,cur,rfl,by omega,r⟩⟩

theorem zbS {w:World} {base base':Nat} {e e':TypeId} {s s':Nat} {v v':Value} {n n':Nat} {xs xs':List Value} (h:w.ownsRow base e s v n xs) (h':w.ownsRow base' e' s' v' n' xs') (hne:e≠e') {k:Nat} (hk:v.ownBlock=some k):v'.ownBlock≠some k:=by
 intro hk';rcases h.2 with ⟨rfl,_⟩ | ⟨g,cap,cur,rfl,_,hh,_⟩
 ·cases hk
 ·rcases h'.2 with ⟨rfl,_⟩ | ⟨g',cap',cur',rfl,_,hh',_⟩
  ·cases hk'
  ·simp only [Value.ownBlock,Option.some.injEq] at hk hk';subst hk hk';rw [hh] at hh';cases hh';exact hne rfl

section
open Go.RowKit

structure WAS where
 b:Nat
 j:Nat
 v:Value

def undoW:List WAS→World→World
 | [],w=>w
 | x::st,w=>undoW st (w.setCell ⟨x.b,x.j,none⟩ x.v)

def putO8 (j:Nat) (v:Value):Obj→Obj
 | .cells c e f=>.cells (c.setIfInBounds j v) e f
 | o=>o

theorem za2 (w:World) (b j k:Nat) (v:Value):(w.setCell ⟨b,j,none⟩ v).heap[k]? = if b=k then (w.heap[k]?).map (putO8 j v) else w.heap[k]? := by
 simp only [World.setCell,Array.getElem?_modify]
 split
 ·first
  | rfl
  | (congr 1; funext o; cases o <;> rfl)
 ·rfl

theorem zix {j i:Nat} (h:j≠i) (u v:Value) (o:Obj):putO8 j u (putO8 i v o)=putO8 i v (putO8 j u o):=by
 cases o <;> simp only [putO8]
 rw [Array.setIfInBounds_comm _ _ h]

theorem zgd {w:World} {b j c i:Nat} (h:¬(b=c∧j=i)) (u v:Value) (k:Nat):((w.setCell ⟨b,j,none⟩ u).setCell ⟨c,i,none⟩ v).heap[k]? = ((w.setCell ⟨c,i,none⟩ v).setCell ⟨b,j,none⟩ u).heap[k]? := by
 rw [za2,za2,za2,za2];by_cases e1:c=k
 ·by_cases e2:b=k
  ·have hj:i≠j:=fun e=>h ⟨e2.trans e1.symm,e.symm⟩
   rw [if_pos e1,if_pos e2,if_pos e2,if_pos e1,Option.map_map,Option.map_map]
   congr 1
   funext o
   exact zix hj v u o
  ·rw [if_pos e1,if_neg e2,if_neg e2,if_pos e1]
 ·by_cases e2:b=k
  ·rw [if_neg e1,if_pos e2,if_pos e2,if_neg e1]
  ·rw [if_neg e1,if_neg e2,if_neg e2,if_neg e1]

theorem zdn {w w':World} {k:Nat} (h:w.heap[k]? = w'.heap[k]?) (b j:Nat) (v:Value):(w.setCell ⟨b,j,none⟩ v).heap[k]? = (w'.setCell ⟨b,j,none⟩ v).heap[k]? := by
 rw [za2,za2,h]

theorem zdW:∀(st:List WAS) {w w':World} {k:Nat},w.heap[k]? = w'.heap[k]? → (undoW st w).heap[k]? = (undoW st w').heap[k]?
 | [],_,_,_,h=>h
 | x::st,_,_,_,h=>zdW st (zdn h x.b x.j x.v)

theorem ziK {w:World} {b j:Nat} {cs:Array Value} {T:TypeId} (h:w.heap[b]? = some (.cells cs T)) {v:Value} (hv:cs[j]? = some v) (u:Value) (k:Nat):((w.setCell ⟨b,j,none⟩ u).setCell ⟨b,j,none⟩ v).heap[k]? = w.heap[k]? := by
 rw [za2,za2];by_cases e:b=k
 ·subst e;rw [if_pos rfl,if_pos rfl,h];simp only [Option.map_some,putO8]
  congr 2
  apply Array.ext_getElem?
  intro i;rw [Array.getElem?_setIfInBounds,Array.getElem?_setIfInBounds];by_cases hi:j=i
  ·subst hi;rw [if_pos rfl,Array.size_setIfInBounds,if_pos (Array.getElem?_eq_some_iff.1 hv).1,hv]
  ·rw [if_neg hi,if_neg hi]
 ·rw [if_neg e,if_neg e]

theorem zgg:∀(st:List WAS) {X i:Nat} {z:Value} {w w':World},(∀x∈st,¬(x.b=X∧x.j=i))→(∀k:Nat,(w'.setCell ⟨X,i,none⟩ z).heap[k]? = (w.setCell ⟨X,i,none⟩ z).heap[k]?)→∀k:Nat,((undoW st w').setCell ⟨X,i,none⟩ z).heap[k]? = ((undoW st w).setCell ⟨X,i,none⟩ z).heap[k]?
 | [],_,_,_,_,_,_,h,k=>h k
 | x::st,X,i,z,w,w',hn,h,k=>by
  refine zgg st (fun y hy=>hn y (List.mem_cons_of_mem _ hy)) (fun k => ?_) k;have hx:=hn x (List.mem_cons_self ..);rw [zgd hx,zgd hx];exact zdn (h k) _ _ _

structure Und (TF:TypeId) (N X:Nat) (w0 w:World) (st:List WAS):Prop where
 hN:N≤w0.heap.size
 os:w.os=w0.os
 tape:w.tape=w0.tape
 output:w.output=w0.output
 size:w0.heap.size≤w.heap.size
 back:∀k:Nat,k < N→((undoW st w).setCell ⟨X,12,none⟩ (.slice none 0 0)).heap[k]? = w0.heap[k]?
 ok:∀x∈st,(∃(cs:Array Value) (T:TypeId),w.heap[x.b]? = some (.cells cs T)∧x.j < cs.size∧T≠TF)∧¬(x.b=X∧x.j=12)

section
variable {TF:TypeId} {N X:Nat} {w0 w w':World} {st:List WAS}

theorem zjc {TF:TypeId} {N X:Nat} {w0:World} {cs:Array Value} {T:TypeId} (h:w0.heap[X]? = some (.cells cs T)) (hc:cs[12]? = some (.slice none 0 0)) (hN:N≤w0.heap.size):Und TF N X w0 w0 []:=by
 refine ⟨hN,rfl,rfl,rfl,Nat.le_refl _,fun k _ => ?_,by intro x hx; cases hx⟩
 show (w0.setCell ⟨X,12,none⟩ (.slice none 0 0)).heap[k]? = _
 rw [za2]
 split
 ·next e =>
  subst e;rw [h];simp only [Option.map_some,putO8]
  congr 2
  apply Array.ext_getElem?
  intro i;rw [Array.getElem?_setIfInBounds]
  split
  ·next e =>
   subst e;rw [if_pos (Array.getElem?_eq_some_iff.1 hc).1,hc]
  ·rfl
 ·rfl

theorem Und.only {bs:List Nat} (h:Und TF N X w0 w st) (ho:Only bs w w') (hb:∀b∈bs,N≤b) (hs:∀x∈st,x.b∉bs):Und TF N X w0 w' st:=by
 refine ⟨h.hN,ho.os.trans h.os,ho.tape.trans h.tape,ho.output.trans h.output,Nat.le_trans h.size ho.size,fun k hk => ?_,fun x hx => ?_⟩
 ·rw [← h.back k hk];refine zdn (zdW st ?_) _ _ _;exact ho.block k (Nat.lt_of_lt_of_le hk (Nat.le_trans h.hN h.size)) (fun hkb=>by have:=hb k hkb; omega)
 ·obtain ⟨⟨cs,T,h1,h2,h3⟩,h4⟩:=h.ok x hx;exact ⟨⟨cs,T,ho.kept h1 (hs x hx),h2,h3⟩,h4⟩

theorem Und.below (h:Und TF N X w0 w st) (hb:Below w.heap.size w w'):Und TF N X w0 w' st :=
 h.only (bs:=[]) (Only.of_below hb) (by intro b hb; cases hb) (by intro x _ hb; cases hb)

theorem Und.grown (h:Und TF N X w0 w st) {base k:Nat} {v:Value} {n:Nat} {xs:List Value} (ho:w.ownsRow base TF k v n xs) (hb:∀b,v.ownBlock=some b→N≤b) (hg:w.grownBy w' v.ownBlock):Und TF N X w0 w' st:=by
 have hx:∀x∈st,v.ownBlock≠some x.b:=by
  intro x hx e;obtain ⟨⟨cs,T,h1,h2,h3⟩,h4⟩:=h.ok x hx;obtain ⟨-,⟨rfl,-⟩ | ⟨g,cap,cur,rfl,hg2,hh,r⟩⟩:=ho
  ·cases e
  ·have e1:g=x.b:=by simpa [Value.ownBlock] using e
   subst e1;rw [h1] at hh;cases hh;exact h3 rfl
 cases hv:v.ownBlock with
 | none =>
  rw [hv] at hg;exact h.only (bs:=[]) ⟨hg.os,hg.tape,hg.output,hg.size,fun k hk _=>hg.block k hk (by intro e; cases e)⟩ (by intro b hb; cases hb) (by intro x _ hb; cases hb)
 | some g =>
  rw [hv] at hg;refine h.only (bs:=[g]) ⟨hg.os,hg.tape,hg.output,hg.size,fun k hk hn=>hg.block k hk (by intro e; cases e; exact hn (List.mem_singleton.2 rfl))⟩ (fun b hb2 => ?_) (fun x hx2 hb2 => ?_)
  ·rw [List.mem_singleton.1 hb2];exact hb g hv
  ·rw [List.mem_singleton] at hb2;exact hx x hx2 (by rw [hb2]; exact hv)

theorem ziV (h:∀x∈st,(∃(cs:Array Value) (T:TypeId),w.heap[x.b]? = some (.cells cs T)∧x.j < cs.size∧T≠TF)∧¬(x.b=X∧x.j=12)) (b j:Nat) (u:Value) :
  ∀x∈st,(∃(cs:Array Value) (T:TypeId),(w.setCell ⟨b,j,none⟩ u).heap[x.b]? = some (.cells cs T)∧x.j < cs.size∧T≠TF)∧¬(x.b=X∧x.j=12):=by
 intro x hx;obtain ⟨⟨cs,T,h1,h2,h3⟩,h4⟩:=h x hx;refine ⟨?_,h4⟩;by_cases e:b=x.b
 ·subst e;exact ⟨cs.setIfInBounds j u,T,zp h1 u,by rw [Array.size_setIfInBounds]; exact h2,h3⟩
 ·exact ⟨cs,T,zx h1 (fun e2=>e e2.symm),h2,h3⟩

theorem Und.set12 (h:Und TF N X w0 w st) (u:Value):Und TF N X w0 (w.setCell ⟨X,12,none⟩ u) st:=by
 refine ⟨h.hN,h.os,h.tape,h.output,by show _≤(w.setCell _ u).heap.size; simp [World.setCell]; exact h.size,fun k hk => ?_,ziV h.ok X 12 u⟩;rw [← h.back k hk];refine zgg st (fun x hx=>(h.ok x hx).2) (fun k => ?_) k;rw [za2,za2,za2];by_cases e:X=k
 ·rw [if_pos e,if_pos e,if_pos e,Option.map_map];cases w.heap[k]? with
  | none=>rfl
  | some o=>cases o <;> simp [putO8]
 ·rw [if_neg e,if_neg e,if_neg e]

theorem Und.put (h:Und TF N X w0 w st) {b j:Nat} {cs:Array Value} {T:TypeId} {v:Value} (hb:w.heap[b]? = some (.cells cs T)) (hv:cs[j]? = some v) (hT:T≠TF) (hn:¬(b=X∧j=12)) (u:Value):Und TF N X w0 (w.setCell ⟨b,j,none⟩ u) (⟨b,j,v⟩::st):=by
 refine ⟨h.hN,h.os,h.tape,h.output,by show _≤(w.setCell _ u).heap.size; simp [World.setCell]; exact h.size,fun k hk => ?_,fun x hx => ?_⟩
 ·rw [← h.back k hk];exact zdn (zdW st (ziK hb hv u k)) _ _ _
 ·rcases List.mem_cons.1 hx with rfl | hx
  ·refine ⟨⟨cs.setIfInBounds j u,T,zp hb u, ?_,hT⟩,hn⟩;rw [Array.size_setIfInBounds];exact (Array.getElem?_eq_some_iff.1 hv).1
  ·exact ziV h.ok b j u x hx

theorem Und.done (h:Und TF N X w0 w []):Below N w0 (w.setCell ⟨X,12,none⟩ (.slice none 0 0)) :=
 ⟨h.os,h.tape,h.output,by show _≤(w.setCell _ (.slice none 0 0)).heap.size; simp [World.setCell]; exact h.size,h.back⟩
end

end

section
open Go.RowKit

structure Flat (α:Type) where
 k:Nat
 cs:α→List Value
 len:∀x,(cs x).length=k
 pos:0 < k
 one:∀x,∀v∈cs x,v.oneCell'=true

variable {α:Type}

def Flat.all (F:Flat α) (l:List α):List Value:=l.flatMap F.cs

theorem Flat.all_cons (F:Flat α) (x:α) (l:List α):F.all (x::l)=F.cs x++F.all l:=by simp [Flat.all]
theorem Flat.all_append (F:Flat α) (a b:List α):F.all (a++b)=F.all a++F.all b:=by simp [Flat.all]
theorem Flat.all_one (F:Flat α) (x:α):F.all [x]=F.cs x:=by simp [Flat.all]
theorem Flat.all_length (F:Flat α) (l:List α):(F.all l).length=l.length*F.k:=by
 induction l with
 | nil=>simp [Flat.all]
 | cons x l ih=>rw [F.all_cons,List.length_append,ih,F.len,List.length_cons,Nat.add_mul]; omega
theorem Flat.all_oneCell (F:Flat α) (l:List α):∀u∈F.all l,u.oneCell'=true:=by
 intro u hu;obtain ⟨x,_,hx⟩:=List.mem_flatMap.1 hu;exact F.one x u hx

theorem Flat.all_at (F:Flat α):∀(l:List α) (i:Nat) (x:α),l[i]? = some x→∀(j:Nat) (v:Value),(F.cs x)[j]? = some v→(F.all l)[i*F.k+j]? = some v
 | [],i,x,h,_,_,_=>by simp at h
 | y::l,0,x,h,j,v,hv=>by
  simp at h
  subst h;have hj:=(List.getElem?_eq_some_iff.1 hv).1;rw [F.all_cons,Nat.zero_mul,Nat.zero_add,List.getElem?_append_left hj];exact hv
 | y::l,i+1,x,h,j,v,hv=>by
  have h':l[i]? = some x:=by simpa using h
  rw [F.all_cons,List.getElem?_append_right (by rw [F.len,Nat.add_mul]; omega),F.len];rw [show (i+1)*F.k+j - F.k=i*F.k+j by rw [Nat.add_mul]; omega];exact Flat.all_at F l i x h' j v hv

structure GRow (F:Flat α) (w:World) (ao:Option Addr) (len cap:Nat) (l:List α):Prop where
 size:l.length=len
 le:len≤cap
 top:cap≤maxLen
 nil:ao=none→cap=0
 cell:len=0∨∃b off,ao=some ⟨b,off,none⟩∧∀(i:Nat) (x:α),l[i]? = some x→∀(j:Nat) (v:Value),(F.cs x)[j]? = some v→w.cell? ⟨b,off+i*F.k+j,none⟩=some v

theorem zdk (F:Flat α) (w:World):GRow F w none 0 0 []:=⟨rfl,Nat.le_refl _,Nat.zero_le _,fun _=>rfl,.inl rfl⟩

theorem GRow.below {F:Flat α} {w w':World} {ao:Option Addr} {len cap:Nat} {l:List α} (h:GRow F w ao len cap l) (hb:Below w.heap.size w w'):GRow F w' ao len cap l where
 size:=h.size
 le:=h.le
 top:=h.top
 nil:=h.nil
 cell:=by
  rcases h.cell with h0 | ⟨b,off,ha,hc⟩
  ·exact .inl h0
  ·exact .inr ⟨b,off,ha,fun i x hi j v hv=>(hb.cell (zu (hc i x hi j v hv))).trans (hc i x hi j v hv)⟩

theorem GRow.at {F:Flat α} {w:World} {ao:Option Addr} {len cap:Nat} {l:List α} (h:GRow F w ao len cap l) (i:Nat) (hi:i < len):∃x b off,l[i]? = some x∧ao=some ⟨b,off,none⟩∧∀(j:Nat) (v:Value),(F.cs x)[j]? = some v→w.cell? ⟨b,off+i*F.k+j,none⟩=some v:=by
 have hl:=h.size;rcases h.cell with h0 | ⟨b,off,ha,hc⟩
 ·omega
 ·have hx:l[i]? = some l[i]:=List.getElem?_eq_getElem (by omega);exact ⟨_,b,off,hx,ha,hc i _ hx⟩

theorem zo {w w':World} {base k:Nat} {e:TypeId} {v:Value} {n:Nat} {xs:List Value} (h:w.ownsRow base e k v n xs) (hb:Below w.heap.size w w'):w'.ownsRow base e k v n xs:=by
 obtain ⟨hl,h | ⟨g,cap,cur,rfl,hg,hh,h1,h2,h3,h4⟩⟩:=h
 ·exact ⟨hl,.inl h⟩
 ·refine ⟨hl,.inr ⟨g,cap,cur,rfl,hg, ?_,h1,h2,h3,h4⟩⟩;rw [hb.block g ?_]
  ·exact hh
  ·by_cases hlt:g < w.heap.size
   ·exact hlt
   ·rw [Array.getElem?_eq_none (by omega)] at hh
    simp at hh

theorem zW {w:World} {base k:Nat} {e:TypeId} {v:Value} {n:Nat} {xs:List Value} (h:w.ownsRow base e k v n xs) {base':Nat} (hle:base'≤base):w.ownsRow base' e k v n xs:=by
 obtain ⟨hl,h | ⟨g,cap,cur,rfl,hg,hh,h1,h2,h3,h4⟩⟩:=h
 ·exact ⟨hl,.inl h⟩
 ·exact ⟨hl,.inr ⟨g,cap,cur,rfl,by omega,hh,h1,h2,h3,h4⟩⟩

theorem zco {w:World} {base k:Nat} {e:TypeId} {v:Value} {n:Nat} {xs:List Value} (h:w.ownsRow base e k v n xs):∃ao cap,v=.slice ao n cap:=by
 rcases h.2 with ⟨rfl,rfl⟩ | ⟨g,cap,cur,rfl,_⟩
 ·exact ⟨none,0,rfl⟩
 ·exact ⟨_,cap,rfl⟩

theorem zC {w w':World} {base k:Nat} {e:TypeId} {v:Value} {n:Nat} {xs:List Value} (h:w.ownsRow base e k v n xs) {g:Nat} (hg:w.grownBy w' (some g)) (hne:∀b,v.ownBlock=some b→b≠g):w'.ownsRow base e k v n xs:=by
 refine h.kept hg ?_;cases hv:v.ownBlock with
 | none=>exact .inl rfl
 | some b=>exact .inr (by intro h; cases h; exact hne _ hv rfl)

theorem zE {F:Flat α} {w:World} {base:Nat} {T:TypeId} {ao:Option Addr} {n cap:Nat} {l:List α} (h:w.ownsRow base T F.k (.slice ao n cap) n (F.all l)):GRow F w ao n cap l:=by
 have hl:l.length=n:=by
  have:=h.1
  rw [F.all_length] at this;exact Nat.eq_of_mul_eq_mul_right F.pos this
 rcases h.2 with ⟨e,rfl⟩ | ⟨g,cap',cur,e,hg,hh,h1,h2,h3,h4⟩
 ·cases e;exact ⟨hl,Nat.le_refl _,Nat.zero_le _,fun _=>rfl,.inl rfl⟩
 ·cases e;refine ⟨hl,h1,h2,(by intro h; cases h),.inr ⟨g,0,rfl,fun i x hi j v hv => ?_⟩⟩;have hx:=F.all_at l i x hi j v hv;have hlt:=(List.getElem?_eq_some_iff.1 hx).1;rw [F.all_length] at hlt;rw [Nat.zero_add,h.cellAt _ (by rw [← hl]; exact hlt)];exact hx

theorem GRow.news {F:Flat α} {w:World} {b off n cap:Nat} {l:List α} (h:GRow F w (some ⟨b,off,none⟩) n cap l):∀(j:Nat) (u:Value),(F.all l)[j]? = some u→w.cell? ((⟨b,off,none⟩:Addr).add j)=some u:=by
 intro j u hu;have hj:=(List.getElem?_eq_some_iff.1 hu).1;rw [F.all_length] at hj;have hp:=F.pos;have hi:j / F.k < l.length:=Nat.div_lt_of_lt_mul (by rw [Nat.mul_comm]; exact hj);rcases h.cell with h0 | ⟨b',off',e,hc⟩
 ·have:=h.size
  rw [this,h0] at hi;exact absurd hi (Nat.not_lt_zero _)
 ·cases e;have hx:l[j / F.k]? = some l[j / F.k]:=List.getElem?_eq_getElem hi;have hm:j % F.k < (F.cs l[j / F.k]).length:=by rw [F.len]; exact Nat.mod_lt _ hp
  have hv:=List.getElem?_eq_getElem hm;have ha:=F.all_at l _ _ hx _ _ hv;have hd:j / F.k*F.k+j % F.k=j:=by rw [Nat.mul_comm]; exact Nat.div_add_mod j F.k
  rw [hd] at ha;have hc:=hc _ _ hx _ _ hv;rw [zdf];rw [show off+j=off+j / F.k*F.k+j % F.k by omega,hc,← ha,hu]

theorem zbB {P:Program} {T:TypeId} {z:Value} {k b:Nat} (h:(P.info? T).map (fun i=>(i.zero,i.size,i.bytes))=some (some z,k,b)):∃i,P.info? T=some i∧i.zero=some z∧i.size=k∧i.bytes=b:=by
 cases hi:P.info? T with
 | none=>rw [hi] at h; simp at h
 | some i =>
  rw [hi] at h
  simp at h
  exact ⟨i,rfl,h.1,h.2.1,h.2.2⟩

theorem zw {F:Flat α} {P:Program} (w:World) {ops:Array Oper} {rest:List Oper} {o:Oper} {a:Act} {Q:Exit→Act→World→Prop} (hgd:o.guard=none)
  (s x:Operand) (t T:TypeId) (ho:o.op=Op.call { callee:=Callee.builtin Builtin.append,args:=#[s,x],argTypes:=#[t,t] }) (base:Nat) {Z:Value} {by8:Nat}
  (ht:P.underlying t=some (TypeDesc.slice T)) (hinfo:(P.info? T).map (fun i=>(i.zero,i.size,i.bytes))=some (some Z,F.k,by8)) (hZ:Z.cells.size=F.k) (hb8:by8≤1024)
  (v:Value) (n:Nat) (xs:List α) (hs:a.eval s=v) (hown:w.ownsRow base T F.k v n (F.all xs)) (ao:Option Addr) (m c:Nat) (zs:List α)
  (hx:a.eval x=.slice ao m c) (hrow:GRow F w ao m c zs) (hsm:n+m≤137438953472) (hbase:base≤w.heap.size)
  (h:∀ao' cap' w',w'.ownsRow base T F.k (.slice ao' (n+m) cap') (n+m) (F.all (xs++zs))→GRow F w' ao' (n+m) cap' (xs++zs)→w.grownBy w' v.ownBlock→Below base w w'→wpList P ops Q rest (a.put o.dst (.slice ao' (n+m) cap')) w') :
  wpList P ops Q (o::rest) a w:=by
 obtain ⟨i0,hi,hz0,hz1,hz2⟩:=zbB hinfo;rcases ao with _ | ad
 ·have hc0:=hrow.nil rfl;have hm0:m=0:=by have:=hrow.le; omega
  subst hc0 hm0;have hz:zs=[]:=List.eq_nil_of_length_eq_zero hrow.size;subst hz;refine wpList_append_own_none hgd s x t ho base T i0 F.k ht hi v n (F.all xs) hs hown hx ?_;obtain ⟨ao',cap',rfl⟩:=zco hown
  have:=h ao' cap' w (by simpa using hown) (by simpa using zE hown) (World.grownBy.refl _ _) (Below.refl _ _)
  simpa using this
 ·have hnews:∀(j:Nat) (u:Value),(F.all zs)[j]? = some u→w.cell? (ad.add j)=some u:=by
   intro j u hu;rcases hrow.cell with h0 | ⟨b,off,e,_⟩
   ·have hl:=(List.getElem?_eq_some_iff.1 hu).1;rw [F.all_length,hrow.size,h0,Nat.zero_mul] at hl;omega
   ·cases e;exact hrow.news j u hu
  have hB:(n+m)*by8≤140737488355328:=Nat.le_trans (Nat.mul_le_mul hsm hb8) (by omega);refine wpList_append_own w hgd s x t ho base T i0 Z F.k by8 ht hi hz0 hz1 hz2 hZ F.pos v n (F.all xs) hs hown ad m c (F.all zs) hx (by rw [F.all_length,hrow.size]) hnews (F.all_oneCell zs) (by unfold maxLen; omega) hB hbase ?_;intro v' w' how hgr _;rw [← F.all_append] at how;have hlt:=hown.lt;obtain ⟨ao',cap',rfl⟩:=zco how;exact h ao' cap' w' how (zE how) hgr ((Below.refl _ _).grown hgr hbase (by intro k hk; exact (hlt k hk).1))

theorem zan {F:Flat α} {P:Program} {ops:Array Oper} {o:Oper} {a:Act} {w:World} {K:Act→World→Prop} {Q:Exit→Act→World→Prop} {E:Prop} (hgd:o.guard=none)
  (s x:Operand) (t T:TypeId) (ho:o.op=Op.call { callee:=Callee.builtin Builtin.append,args:=#[s,x],argTypes:=#[t,t] }) (base:Nat) {Z:Value} {by8:Nat}
  (ht:P.underlying t=some (TypeDesc.slice T)) (hinfo:(P.info? T).map (fun i=>(i.zero,i.size,i.bytes))=some (some Z,F.k,by8)) (hZ:Z.cells.size=F.k) (hb8:by8≤1024)
  (v:Value) (n:Nat) (xs:List α) (hs:a.eval s=v) (hown:w.ownsRow base T F.k v n (F.all xs)) (ao:Option Addr) (m c:Nat) (zs:List α)
  (hx:a.eval x=.slice ao m c) (hrow:GRow F w ao m c zs) (hsm:n+m≤137438953472) (hbase:base≤w.heap.size)
  (h:∀ao' cap' w',w'.ownsRow base T F.k (.slice ao' (n+m) cap') (n+m) (F.all (xs++zs))→GRow F w' ao' (n+m) cap' (xs++zs)→w.grownBy w' v.ownBlock→Below base w w'→K (a.put o.dst (.slice ao' (n+m) cap')) w') :
  if Region.wanted o (yielded ops a.tmps)=true then Oper.wp P o a w K Q else E:=by
 have hw:Region.wanted o (yielded ops a.tmps)=true:=by simp [Region.wanted,hgd]
 rw [if_pos hw];obtain ⟨i0,hi,hz0,hz1,hz2⟩:=zbB hinfo;rcases ao with _ | ad
 ·have hc0:=hrow.nil rfl;have hm0:m=0:=by have:=hrow.le; omega
  subst hc0 hm0;have hz:zs=[]:=List.eq_nil_of_length_eq_zero hrow.size;subst hz;obtain ⟨ao',cap',rfl⟩:=zco hown;have hrun:=run_append_owned_none (P:=P) w base t o.type T i0 F.k ht hi (.slice ao' n cap') n (F.all xs) hown;have hk:K (a.put o.dst (.slice ao' n cap')) w:=by simpa using h ao' cap' w (by simpa using hown) (by simpa using zE hown) (World.grownBy.refl _ _) (Below.refl _ _)
  unfold Oper.wp
  simp [execOp,ho,resolve,invoke,builtin,hs,hx,hrun,Result.andThen]
  exact hk
 ·have hnews:∀(j:Nat) (u:Value),(F.all zs)[j]? = some u→w.cell? (ad.add j)=some u:=by
   intro j u hu;rcases hrow.cell with h0 | ⟨b,off,e,_⟩
   ·have hl:=(List.getElem?_eq_some_iff.1 hu).1;rw [F.all_length,hrow.size,h0,Nat.zero_mul] at hl;omega
   ·cases e;exact hrow.news j u hu
  have hB:(n+m)*by8≤140737488355328:=Nat.le_trans (Nat.mul_le_mul hsm hb8) (by omega);refine wp_append_own w s x t ho base T i0 Z F.k by8 ht hi hz0 hz1 hz2 hZ F.pos v n (F.all xs) hs hown ad m c (F.all zs) hx (by rw [F.all_length,hrow.size]) hnews (F.all_oneCell zs) (by unfold maxLen; omega) hB hbase ?_;intro v' w' how hgr _;rw [← F.all_append] at how;have hlt:=hown.lt;obtain ⟨ao',cap',rfl⟩:=zco how;exact h ao' cap' w' how (zE how) hgr ((Below.refl _ _).grown hgr hbase (by intro k hk; exact (hlt k hk).1))

theorem zaz (F:Flat α) (w:World) (x:α) (cs:Array Value) (T:TypeId) (h:cs.toList=F.cs x):GRow F (w.alloc (.cells cs T)) (some ⟨w.heap.size,0,none⟩) 1 1 [x]:=by
 refine ⟨rfl,Nat.le_refl _,by unfold maxLen; omega,(by intro h; cases h),.inr ⟨w.heap.size,0,rfl,fun i y hi j v hv => ?_⟩⟩;have hi0:i=0:=by
  have:=(List.getElem?_eq_some_iff.1 hi).1
  simp at this
  exact this
 subst hi0
 simp at hi
 subst hi;rw [Nat.zero_mul,Nat.zero_add];rw [← h] at hv;have hb:=zv w (.cells cs T);simp only [World.cell?,hb]
 simpa using hv

theorem zaL (F:Flat α) (w w':World) (T:TypeId) (b:Nat) (h:w'.heap[b]? = some (.cells #[] T)) (hb:w.heap.size≤b):w'.ownsRow w.heap.size T F.k (.slice (some ⟨b,0,none⟩) 0 0) 0 (F.all []) :=
 ⟨by simp [Flat.all],.inr ⟨b,0,#[],rfl,hb,h,Nat.le_refl _,Nat.zero_le _,by simp,by simp [Flat.all]⟩⟩

section
variable {H:Type} {enc:TypeId × Value→H} {P:Program} {w:World}

end

end

section
open Go.RowKit

variable {α:Type}

theorem Flat.all_set (F:Flat α) (pre:List α) (x x':α) (post:List α) (j:Nat) (u:Value) (hj:j < F.k) (h:(F.cs x).set j u=F.cs x'):(F.all (pre++x::post)).set (pre.length*F.k+j) u=F.all (pre++x'::post):=by
 rw [F.all_append,F.all_cons,List.set_append_right _ _ (by rw [F.all_length]; omega),F.all_length,Nat.add_sub_cancel_left,List.set_append_left _ _ (by rw [F.len]; exact hj),h,F.all_append,F.all_cons]

theorem zbX {F:Flat α} {w:World} {base g n cap:Nat} {T:TypeId} {pre post:List α} {x x':α} (h:w.ownsRow base T F.k (.slice (some ⟨g,0,none⟩) n cap) n (F.all (pre++x::post))) (j:Nat) (u:Value) (hj:j < F.k) (hx:(F.cs x).set j u=F.cs x') :
  (w.setCell ⟨g,pre.length*F.k+j,none⟩ u).ownsRow base T F.k (.slice (some ⟨g,0,none⟩) n cap) n (F.all (pre++x'::post)):=by
 have:=(h.stored (pre.length*F.k+j) u).1
 rw [F.all_set pre x x' post j u hj hx] at this;exact this

theorem zN {w w':World} {base k:Nat} {e:TypeId} {v:Value} {n:Nat} {xs:List Value} (h:w.ownsRow base e k v n xs) {row:Option Nat} (hg:w.grownBy w' row) (hlt:∀b,row=some b→b < base):w'.ownsRow base e k v n xs:=by
 refine h.kept hg ?_;cases hv:v.ownBlock with
 | none=>exact .inl rfl
 | some b =>
  refine .inr (fun e => ?_);have h1:=(h.lt b hv).1;have h2:=hlt b e.symm;omega

theorem zaB {F:Flat α} {w:World} {base g n cap:Nat} {T:TypeId} {l:List α} (h:w.ownsRow base T F.k (.slice (some ⟨g,0,none⟩) n cap) n (F.all l)) {i:Nat} {x:α} (hx:l[i]? = some x) {j:Nat} {v:Value} (hv:(F.cs x)[j]? = some v):w.cell? ⟨g,i*F.k+j,none⟩=some v∧w.frozen? ⟨g,i*F.k+j,none⟩=false:=by
 have ha:=F.all_at l i x hx j v hv;have hlt:=(List.getElem?_eq_some_iff.1 ha).1;have h1:=h.1;refine ⟨?_,h.frozenAt _⟩;rw [h.cellAt _ (by rw [← h1]; exact hlt)];exact ha

theorem zbC {F:Flat α} {w:World} {base n cap:Nat} {T:TypeId} {ao:Option Addr} {l:List α} (h:w.ownsRow base T F.k (.slice ao n cap) n (F.all l)) (hn:0 < n):∃g,ao=some ⟨g,0,none⟩∧base≤g∧g < w.heap.size:=by
 have hlt:=h.lt;rcases h.2 with ⟨e,h0⟩ | ⟨g,cap',cur,e,hg,_⟩
 ·omega
 ·cases e;exact ⟨g,rfl,hg,(hlt g rfl).2⟩

end

theorem zfY {w:World} {o:Obj} {i:Nat} (h:i=w.heap.size):(w.alloc o).heap[i]? = some o:=by subst h; exact zv w o

theorem za5 {w:World} {o:Obj} {i:Nat} (h:w.heap[i]? = some o):w.drew.heap[i]? = some o:=h

structure Piece where
 ao:Option Addr
 len:Nat
 cap:Nat
 zs:List Int

def tot (ps:List Piece) (k:Nat):Nat:=((ps.take k).map Piece.len).sum
def flat (ps:List Piece) (k:Nat):List Int:=((ps.take k).map Piece.zs).flatten

def clip (n:Int):Int:=if 2147483647 < n then 2147483647 else if n < -2147483648 then -2147483648 else n

def ints:Nat→Int→List Int→List Int
 | 0,_,out=>out
 | f+1,n,out=>if n < -128∨127 < n then ints f (n / 256) (n / 256 % 256::out) else out

def zfb (n:Int):List Int:=ints 3 (clip n) [clip n % 256]

def lenB (n:Nat):List Int:=if n < 128 then [(n:Int)] else [129,(n:Int)]
def zfc (b:List Int) (tag:Int) (body:List Int):List Int :=
 if tag < 0∨255 < tag∨250 < body.length then b else b++([tag]++lenB body.length++body)

structure VD where
 r:Int
 c:Int
 h:Int
 b:Int
 p:Int

def okVc (r c h b p:Int):Bool:=decide (1≤r∧r≤99) && (decide (0≤c∧c≤100000) && (decide (0≤h∧h≤10) && (decide (1≤b∧b≤99) && decide (0≤p∧p≤7))))
def zjh (r c h b p:Int):List Int:=zfc (zfc (zfc (zfc (zfc [] 2 (zfb r)) 2 (zfb c)) 2 (zfb h)) 2 (zfb b)) 2 (zfb p)
def putVc (r c h b p:Int):List Int:=if okVc r c h b p=true then zjh r c h b p else []

theorem zec {r c h b p:Int} (k:okVc r c h b p=true):(1≤r∧r≤99)∧(0≤c∧c≤100000)∧(0≤h∧h≤10)∧(1≤b∧b≤99)∧(0≤p∧p≤7):=by
 unfold okVc at k;simp only [Bool.and_eq_true,decide_eq_true_eq] at k;exact k

theorem zi (x lo hi:Int) (w:World) :
  Calls Tryz.prog 127 #[.int .i64 x,.int .i64 lo,.int .i64 hi] w fun e w'=>e=.returned (.bool (decide (lo≤x) && decide (x≤hi)))∧w'=w:=by
 by_cases h1:lo≤x
 ·go_enter Tryz.func127,Tryz.ntmps127;go_wp2;go_ret;exact ⟨zH (by simp [h1]),rfl⟩
 ·go_enter Tryz.func127,Tryz.ntmps127;go_wp2;go_ret;exact ⟨zH (by rw [decide_eq_false (show ¬lo≤x by omega)]; rfl),rfl⟩

theorem zhm (R C H B P:Int):okVc R C H B P=((decide (1≤R) && decide (R≤99)) && ((decide (0≤C) && decide (C≤100000)) && ((decide (0≤H) && decide (H≤10)) && ((decide (1≤B) && decide (B≤99)) && (decide (0≤P) && decide (P≤7)))))):=by
 unfold okVc;have e1:∀a x b:Int,decide (a≤x∧x≤b)=(decide (a≤x) && decide (x≤b)):=fun a x b=>by rw [Bool.eq_iff_iff]; simp
 rw [e1,e1,e1,e1,e1]

theorem zaH (R C H B P:Int) (w:World) :
  Calls Tryz.prog 200 #[.agg #[.int .i64 R,.int .i64 C,.int .i64 H,.int .i64 B,.int .i64 P]] w fun e w'=>e=.returned (.bool (okVc R C H B P))∧Below w.heap.size w w':=by
 generalize hP:okVc R C H B P=Q;rw [zhm] at hP;cases t1:(decide (1≤R) && decide (R≤99))
 ·have e:Q=false:=by rw [← hP,t1]; rfl
  subst e;have T1:=hide t1;clear hP t1;go_enter Tryz.func200,Tryz.ntmps200;(go_wp2_with fail);refine (zi R 1 99 _).mono ?_;rintro e w1 ⟨rfl,rfl⟩;rw [T1.out];go_wp2;go_ret;exact ⟨rfl,zh _ _⟩
 cases t2:(decide (0≤C) && decide (C≤100000))
 ·have e:Q=false:=by rw [← hP,t1,t2]; rfl
  subst e;have T1:=hide t1;have T2:=hide t2;clear hP t1 t2;go_enter Tryz.func200,Tryz.ntmps200;(go_wp2_with fail);refine (zi R 1 99 _).mono ?_;rintro e w1 ⟨rfl,rfl⟩;rw [T1.out];(go_wp2_with fail);refine (zi C 0 100000 _).mono ?_;rintro e w2 ⟨rfl,rfl⟩;rw [T2.out];go_wp2;go_ret;exact ⟨rfl,zh _ _⟩
 cases t3:(decide (0≤H) && decide (H≤10))
 ·have e:Q=false:=by rw [← hP,t1,t2,t3]; rfl
  subst e;have T1:=hide t1;have T2:=hide t2;have T3:=hide t3;clear hP t1 t2 t3;go_enter Tryz.func200,Tryz.ntmps200;(go_wp2_with fail);refine (zi R 1 99 _).mono ?_;rintro e w1 ⟨rfl,rfl⟩;rw [T1.out];(go_wp2_with fail);refine (zi C 0 100000 _).mono ?_;rintro e w2 ⟨rfl,rfl⟩;rw [T2.out];(go_wp2_with fail);refine (zi H 0 10 _).mono ?_;rintro e w3 ⟨rfl,rfl⟩;rw [T3.out];go_wp2;go_ret;exact ⟨rfl,zh _ _⟩
 cases t4:(decide (1≤B) && decide (B≤99))
 ·have e:Q=false:=by rw [← hP,t1,t2,t3,t4]; rfl
  subst e;have T1:=hide t1;have T2:=hide t2;have T3:=hide t3;have T4:=hide t4;clear hP t1 t2 t3 t4;go_enter Tryz.func200,Tryz.ntmps200;(go_wp2_with fail);refine (zi R 1 99 _).mono ?_;rintro e w1 ⟨rfl,rfl⟩;rw [T1.out];(go_wp2_with fail);refine (zi C 0 100000 _).mono ?_;rintro e w2 ⟨rfl,rfl⟩;rw [T2.out];(go_wp2_with fail);refine (zi H 0 10 _).mono ?_;rintro e w3 ⟨rfl,rfl⟩;rw [T3.out];(go_wp2_with fail);refine (zi B 1 99 _).mono ?_;rintro e w4 ⟨rfl,rfl⟩;rw [T4.out];go_wp2;go_ret;exact ⟨rfl,zh _ _⟩
 cases t5:(decide (0≤P) && decide (P≤7))
 ·have e:Q=false:=by rw [← hP,t1,t2,t3,t4,t5]; rfl
  subst e;have T1:=hide t1;have T2:=hide t2;have T3:=hide t3;have T4:=hide t4;have T5:=hide t5;clear hP t1 t2 t3 t4 t5;go_enter Tryz.func200,Tryz.ntmps200;(go_wp2_with fail);refine (zi R 1 99 _).mono ?_;rintro e w1 ⟨rfl,rfl⟩;rw [T1.out];(go_wp2_with fail);refine (zi C 0 100000 _).mono ?_;rintro e w2 ⟨rfl,rfl⟩;rw [T2.out];(go_wp2_with fail);refine (zi H 0 10 _).mono ?_;rintro e w3 ⟨rfl,rfl⟩;rw [T3.out];(go_wp2_with fail);refine (zi B 1 99 _).mono ?_;rintro e w4 ⟨rfl,rfl⟩;rw [T4.out];(go_wp2_with fail);refine (zi P 0 7 _).mono ?_;rintro e w5 ⟨rfl,rfl⟩;rw [T5.out];go_wp2;go_ret;exact ⟨rfl,zh _ _⟩
 have e:Q=true:=by rw [← hP,t1,t2,t3,t4,t5]; rfl
 subst e;have T1:=hide t1;have T2:=hide t2;have T3:=hide t3;have T4:=hide t4;have T5:=hide t5;clear hP t1 t2 t3 t4 t5;go_enter Tryz.func200,Tryz.ntmps200;go_wp2_with fail
 refine (zi R 1 99 _).mono ?_;rintro e w1 ⟨rfl,rfl⟩;rw [T1.out];go_wp2_with fail
 refine (zi C 0 100000 _).mono ?_;rintro e w2 ⟨rfl,rfl⟩;rw [T2.out];go_wp2_with fail
 refine (zi H 0 10 _).mono ?_;rintro e w3 ⟨rfl,rfl⟩;rw [T3.out];go_wp2_with fail
 refine (zi B 1 99 _).mono ?_;rintro e w4 ⟨rfl,rfl⟩;rw [T4.out];go_wp2_with fail
 refine (zi P 0 7 _).mono ?_;rintro e w5 ⟨rfl,rfl⟩;rw [T5.out];go_wp2;go_ret;exact ⟨rfl,zh _ _⟩

def zaM (R C B P R' C' B' P':Int):Bool :=
 if (R != R')=true then decide (R < R') else if (C != C')=true then decide (C < C') else if (B != B')=true then decide (B < B') else decide (P < P')

theorem zbd (R C H B P R' C' H' B' P':Int) (w:World) :
  Calls Tryz.prog 228 #[.agg #[.int .i64 R,.int .i64 C,.int .i64 H,.int .i64 B,.int .i64 P],.agg #[.int .i64 R',.int .i64 C',.int .i64 H',.int .i64 B',.int .i64 P']] w fun e w'=>e=.returned (.bool (zaM R C B P R' C' B' P'))∧Below w.heap.size w w':=by
 cases t1:(R != R')
 ·cases t2:(C != C')
  ·cases t3:(B != B')
   ·have e:zaM R C B P R' C' B' P'=decide (P < P'):=by unfold zaM; rw [t1,t2,t3]; rfl
    rw [e];clear e;go_enter Tryz.func228,Tryz.ntmps228;go_wp2;go_ret;exact ⟨rfl,zaA _ _ _⟩
   ·have e:zaM R C B P R' C' B' P'=decide (B < B'):=by unfold zaM; rw [t1,t2,t3]; rfl
    rw [e];clear e;go_enter Tryz.func228,Tryz.ntmps228;go_wp2;go_ret;exact ⟨rfl,zaA _ _ _⟩
  ·have e:zaM R C B P R' C' B' P'=decide (C < C'):=by unfold zaM; rw [t1,t2]; rfl
   rw [e];clear e;go_enter Tryz.func228,Tryz.ntmps228;go_wp2;go_ret;exact ⟨rfl,zaA _ _ _⟩
 ·have e:zaM R C B P R' C' B' P'=decide (R < R'):=by unfold zaM; rw [t1]; rfl
  rw [e];clear e;go_enter Tryz.func228,Tryz.ntmps228;go_wp2;go_ret;exact ⟨rfl,zaA _ _ _⟩

def zbf (R C H B P k:Int):Bool:=okVc R C H B P && ((decide (1≤k) && decide (k≤1000)) && okVc R (C+k) (H+1) B P)

theorem zdU (R C H B P k:Int) (w:World) :
  Calls Tryz.prog 274 #[.agg #[.int .i64 R,.int .i64 C,.int .i64 H,.int .i64 B,.int .i64 P],.int .i64 k] w fun e w'=>e=.returned (.tuple #[if zbf R C H B P k=true then .agg #[.int .i64 R,.int .i64 (C+k),.int .i64 (H+1),.int .i64 B,.int .i64 P] else .agg #[.int .i64 R,.int .i64 C,.int .i64 H,.int .i64 B,.int .i64 P],.bool (zbf R C H B P k)])∧Below w.heap.size w w':=by
 have q2:=zaA w (.cells #[.int .i64 R,.int .i64 C,.int .i64 H,.int .i64 B,.int .i64 P] 111) (.cells #[.int .i64 0,.int .i64 0,.int .i64 0,.int .i64 0,.int .i64 0] 111);cases t1:okVc R C H B P
 ·have e:zbf R C H B P k=false:=by unfold zbf; rw [t1]; rfl
  rw [e,if_neg (by simp)];have T1:=hide t1;clear e t1;go_enter Tryz.func274,Tryz.ntmps274;(go_wp2_with fail);refine (zaH R C H B P _).mono ?_;rintro e w1 ⟨rfl,hb1⟩;rw [T1.out];obtain ⟨k0,k1⟩:=zb3 hb1;obtain ⟨⟨x0,x1,x2,x3,x4⟩,f0,f1,f2,f3,f4⟩:=zt k0;obtain ⟨⟨y0,y1,y2,y3,y4⟩,g0,g1,g2,g3,g4⟩:=zt k1;have HB:=hide (zd q2 hb1);clear hb1 k0 k1;go_wp2;exact bodyPost_ret (v:=.tuple #[.agg #[.int .i64 R,.int .i64 C,.int .i64 H,.int .i64 B,.int .i64 P],.bool false]) (by simp [results,Tryz.results274,go_sem, *]) rfl ⟨rfl,zZ HB.out (by omega) _ _ _ _ _⟩
 cases t2:(decide (1≤k) && decide (k≤1000))
 ·have e:zbf R C H B P k=false:=by unfold zbf; rw [t1,t2]; rfl
  rw [e,if_neg (by simp)];have T1:=hide t1;have T2:=hide t2;clear e t1 t2;go_enter Tryz.func274,Tryz.ntmps274;(go_wp2_with fail);refine (zaH R C H B P _).mono ?_;rintro e w1 ⟨rfl,hb1⟩;rw [T1.out];obtain ⟨k0,k1⟩:=zb3 hb1;obtain ⟨⟨x0,x1,x2,x3,x4⟩,f0,f1,f2,f3,f4⟩:=zt k0;obtain ⟨⟨y0,y1,y2,y3,y4⟩,g0,g1,g2,g3,g4⟩:=zt k1;have HB:=hide (zd q2 hb1);clear hb1 k0 k1;(go_wp2_with fail);refine (zi k 1 1000 _).mono ?_;rintro e w2 ⟨rfl,rfl⟩;rw [T2.out];go_wp2;exact bodyPost_ret (v:=.tuple #[.agg #[.int .i64 R,.int .i64 C,.int .i64 H,.int .i64 B,.int .i64 P],.bool false]) (by simp [results,Tryz.results274,go_sem, *]) rfl ⟨rfl,zZ HB.out (by omega) _ _ _ _ _⟩
 obtain ⟨-,o2,o3,-,-⟩:=zec t1;have hk:1≤k∧k≤1000:=by simpa using t2
 have es:zbf R C H B P k=okVc R (C+k) (H+1) B P:=by unfold zbf; rw [t1,t2]; rfl
 rw [es];clear es;cases t3:okVc R (C+k) (H+1) B P
 ·rw [if_neg (by simp)];have T1:=hide t1;have T2:=hide t2;have T3:=hide t3;clear t1 t2 t3;go_enter Tryz.func274,Tryz.ntmps274;(go_wp2_with fail);refine (zaH R C H B P _).mono ?_;rintro e w1 ⟨rfl,hb1⟩;rw [T1.out];obtain ⟨k0,k1⟩:=zb3 hb1;obtain ⟨⟨x0,x1,x2,x3,x4⟩,f0,f1,f2,f3,f4⟩:=zt k0;have HB:=hide (zd q2 hb1);have K0:=hide k0;have K1:=hide k1;clear hb1 k0 k1;(go_wp2_with fail);refine (zi k 1 1000 _).mono ?_;rintro e w2 ⟨rfl,rfl⟩;rw [T2.out];have lt0:=(Array.getElem?_eq_some_iff.1 K0.out).1;have ne1:¬w.heap.size=w2.heap.size:=by omega
  have ne2:¬w2.heap.size=w.heap.size:=by omega
  (go_wp2_with fail);refine (zaH R (C+k) (H+1) B P _).mono ?_;rintro e w3 ⟨rfl,hb3⟩;rw [T3.out];clear x0 x1 x2 x3 x4 f0 f1 f2 f3 f4;have b3:=zd (zh w2 _) hb3;obtain ⟨⟨x0,x1,x2,x3,x4⟩,f0,f1,f2,f3,f4⟩:=zt (ze K0.out b3);obtain ⟨⟨y0,y1,y2,y3,y4⟩,g0,g1,g2,g3,g4⟩:=zt (ze K1.out b3);have HB3:=hide (zd HB.out b3);clear hb3 b3;go_wp2;exact bodyPost_ret (v:=.tuple #[.agg #[.int .i64 R,.int .i64 C,.int .i64 H,.int .i64 B,.int .i64 P],.bool false]) (by simp [results,Tryz.results274,go_sem, *]) rfl ⟨rfl,zZ HB3.out (by omega) _ _ _ _ _⟩
 ·rw [if_pos rfl];have T1:=hide t1;have T2:=hide t2;have T3:=hide t3;clear t1 t2 t3;go_enter Tryz.func274,Tryz.ntmps274;(go_wp2_with fail);refine (zaH R C H B P _).mono ?_;rintro e w1 ⟨rfl,hb1⟩;rw [T1.out];obtain ⟨k0,k1⟩:=zb3 hb1;obtain ⟨⟨x0,x1,x2,x3,x4⟩,f0,f1,f2,f3,f4⟩:=zt k0;have HB:=hide (zd q2 hb1);have K0:=hide k0;have K1:=hide k1;clear hb1 k0 k1;(go_wp2_with fail);refine (zi k 1 1000 _).mono ?_;rintro e w2 ⟨rfl,rfl⟩;rw [T2.out];have lt0:=(Array.getElem?_eq_some_iff.1 K0.out).1;have ne1:¬w.heap.size=w2.heap.size:=by omega
  have ne2:¬w2.heap.size=w.heap.size:=by omega
  (go_wp2_with fail);refine (zaH R (C+k) (H+1) B P _).mono ?_;rintro e w3 ⟨rfl,hb3⟩;rw [T3.out];clear x0 x1 x2 x3 x4 f0 f1 f2 f3 f4;have b3:=zd (zh w2 _) hb3;obtain ⟨⟨x0,x1,x2,x3,x4⟩,f0,f1,f2,f3,f4⟩:=zt (ze (zv w2 _) hb3);obtain ⟨⟨y0,y1,y2,y3,y4⟩,g0,g1,g2,g3,g4⟩:=zt (ze K1.out b3);have HB3:=hide (zd HB.out b3);clear hb3 b3;go_wp2;exact bodyPost_ret (v:=.tuple #[.agg #[.int .i64 R,.int .i64 (C+k),.int .i64 (H+1),.int .i64 B,.int .i64 P],.bool true]) (by simp [results,Tryz.results274,go_sem, *]) rfl ⟨rfl,zZ HB3.out (by omega) _ _ _ _ _⟩

end Go.Proofs.YtcpdkcdfnpcemaaGreat
