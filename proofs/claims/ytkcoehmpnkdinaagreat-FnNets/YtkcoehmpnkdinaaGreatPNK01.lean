/-
  Packed: Base Help Draw Pieces Num Drawb Mem PickBlk MadeSet Flat FlatOwn VecHelp Tlv GetNum VecMath FrameHelp.
-/
import Derived.Test.YtkcoehmpnkdinaaGreatRows
import Derived.WalkKit
import Derived.WalkSpells
import Derived.WalkLawsBesides
import Derived.Deep.QuietTactic
import Derived.BigQuiet
import Derived.Laws.AppendOwnNone
import Derived.Deep.RegionWith
import Derived.Deep.RegionLaw
import Derived.Deep.RegionHeld
import Derived.Lib.SmallJoins
namespace Go.Proofs.YtkcoehmpnkdinaaGreat
set_option maxRecDepth 100000
set_option maxHeartbeats 16000000
open Go.RowKit

theorem zb {w w1:World} {o:Obj} (h:w.alloc o=w1):Below w.heap.size w w1:=h▸(Below.refl _ _).alloc (Nat.le_refl _) o

theorem zk {w w1:World} {o:Obj} (h:w.alloc o=w1):w1.heap[w.heap.size]? = some o:=by
 subst h
 show (w.heap.push o)[w.heap.size]? = _
 simp

abbrev zcc (W:World) (b j:Nat) (v:Value):Prop:=W.cell? ⟨b,j,none⟩=some v

theorem lA {α:Type} (l:List α) (i:Nat) (a:α):l.toArray.setIfInBounds i a=(l.set i a).toArray:=List.setIfInBounds_toArray ..

theorem lB {α:Type} (a b:α) (l:List α):(a::l).set 0 b=b::l:=List.set_cons_zero

theorem lC {α:Type} (a b:α) (l:List α) (n:Nat):(a::l).set (n+1) b=a::l.set n b:=List.set_cons_succ

def cB (zs:List Int):List Value:=zs.map (Value.int .u8)

def Byt (zs:List Int):Prop:=∀z∈zs,0≤z∧z≤255

theorem zjd (zs:List Int):(cB zs).length=zs.length:=by simp [cB]
theorem zlC (a b:List Int):cB (a++b)=cB a++cB b:=by simp [cB]
theorem zlD (zs:List Int) (j:Nat) (h:j < zs.length):(cB zs)[j]? = some (.int .u8 (zs.getD j 0)):=by
 simp [cB,List.getElem?_map,List.getElem?_eq_getElem h]

structure Row (w:World) (ao:Option Addr) (len cap:Nat) (zs:List Int):Prop where
 size:zs.length=len
 le:len≤cap
 top:cap≤maxLen
 nil:ao=none→cap=0
 byte:Byt zs
 cell:len=0∨∃b off,ao=some ⟨b,off,none⟩∧∀i,i < len→w.cell? ⟨b,off+i,none⟩=some (.int .u8 (zs.getD i 0))

theorem zo {w:World} {a:Addr} {v:Value} (h:w.cell? a=some v):a.block < w.heap.size:=by
 unfold World.cell? at h;by_cases hb:a.block < w.heap.size
 ·exact hb
 ·rw [Array.getElem?_eq_none (by omega)] at h
  simp at h

theorem Row.below {w w':World} {ao:Option Addr} {len cap:Nat} {zs:List Int} (h:Row w ao len cap zs) (hb:Below w.heap.size w w'):Row w' ao len cap zs where
 size:=h.size
 le:=h.le
 top:=h.top
 nil:=h.nil
 byte:=h.byte
 cell:=by
  rcases h.cell with h0 | ⟨b,off,ha,hc⟩
  ·exact .inl h0
  ·exact .inr ⟨b,off,ha,fun i hi=>by rw [hb.cell (zo (hc i hi))]; exact hc i hi⟩

theorem zeq {B:Nat} {a w:World} (h:Below B a w) (n:Nat):Below B a (w.drewN n) :=
 ⟨h.os,h.tape,h.output,h.size,h.block⟩

theorem zck (b off j:Nat):(⟨b,off,none⟩:Addr).add j=⟨b,off+j,none⟩:=by
 by_cases h:j=0 <;> simp [Addr.add,h]

theorem Row.news {w:World} {ao:Option Addr} {len cap:Nat} {zs:List Int} (h:Row w ao len cap zs) (ad:Addr) (ha:ao=some ad) (j:Nat) (u:Value) (hu:(cB zs)[j]? = some u):w.cell? (ad.add j)=some u:=by
 have hj:j < zs.length:=by
  by_cases hlt:j < zs.length
  ·exact hlt
  ·rw [List.getElem?_eq_none (by rw [zjd]; omega)] at hu;cases hu
 rw [zlD _ _ hj] at hu;rcases h.cell with h0 | ⟨b,off,hb,hc⟩
 ·have:=h.size; omega
 ·rw [ha] at hb;cases hb;rw [← hu];rw [zck]; exact hc j (by have:=h.size; omega)

theorem hide {p:Prop} (h:p):Hid p:=h

theorem zjs {zs:List Int} (h:Byt zs) (j:Nat):0≤zs.getD j 0∧zs.getD j 0≤255:=by
 by_cases hj:j < zs.length
 ·rw [List.getD_eq_getElem?_getD,List.getElem?_eq_getElem hj]; exact h _ (List.getElem_mem hj)
 ·rw [List.getD_eq_getElem?_getD,List.getElem?_eq_none (by omega)]; simp

theorem Row.at {w:World} {ao:Option Addr} {len cap:Nat} {zs:List Int} (h:Row w ao len cap zs) (hp:0 < len):∃b off,ao=some ⟨b,off,none⟩∧∀i,i < len→w.cell? ⟨b,off+i,none⟩=some (.int .u8 (zs.getD i 0)):=by
 rcases h.cell with h0 | h0
 ·omega
 ·exact h0

theorem Byt.at {zs:List Int} (h:Byt zs) (j:Nat):0≤zs.getD j 0∧zs.getD j 0≤255:=zjs h j

theorem zlr (w:World):Row w none 0 0 []:=⟨rfl,Nat.le_refl _,Nat.zero_le _,fun _=>rfl,(by intro z hz; cases hz),.inl rfl⟩

theorem zkP {w:World} {x:Addr} {len cap:Nat} {zs:List Int} (hl:len≤cap) (hm:cap≤maxLen) (hz:zs.length=cap) (hcell:∀i,i < zs.length→w.cell? (x.add i)=some (.int .u8 (zs.getD i 0))) (hwz:∀n∈zs,(Lit.int .u8 n).wf=true):Row w (some x) len cap (zs.take len) where
 size:=by simp; omega
 le:=hl
 top:=hm
 nil:=by intro h; cases h
 byte:=by
  intro z h
  have:=hwz z (List.mem_of_mem_take h)
  simp [Lit.wf,IntKind.min,IntKind.max,IntKind.bits,IntKind.signed] at this
  omega
 cell:=by
  by_cases h0:len=0
  ·exact .inl h0
  ·have hc0:=hcell 0 (by omega);obtain ⟨b,off,spot⟩:=x;have hspot:spot=none:=by simpa [Addr.add] using World.cell?_spot hc0
   subst hspot;refine .inr ⟨b,off,rfl,fun i hi => ?_⟩
   have:=hcell i (by omega)
   have e:(⟨b,off,none⟩:Addr).add i=⟨b,off+i,none⟩:=by by_cases h:i=0 <;> simp [Addr.add,h]
   rw [e] at this;rw [this]
   simp [List.getD_eq_getElem?_getD,hi]

theorem zdj (l:List Int) (k:Nat) (h:k < l.length):l.take (k+1)=l.take k++[l.getD k 0]:=by
 rw [List.take_succ_eq_append_getElem h]; simp [h]

theorem zhj {a b:List Int} (hl:a.length=b.length) (h:a.take a.length=b.take a.length):a=b:=by
 rw [List.take_length,hl,List.take_length] at h; exact h

theorem ne_at {a b:List Int} (k:Nat) (h:¬a.getD k 0=b.getD k 0):¬a=b:=by
 intro e; exact h (by rw [e])

theorem zH {a b:Bool} (h:a=b):Ending.returned (.bool a)=.returned (.bool b):=by rw [h]
theorem zlU {k:IntKind} {a b:Int} (h:a=b):Ending.returned (.int k a)=.returned (.int k b):=by rw [h]

theorem zcm {w0 w:World} {g:Nat} (h:w0.grownBy w (some g)) (j:Nat) (u:Value):w0.grownBy (w.setCell ⟨g,j,none⟩ u) (some g) where
 os:=h.os
 tape:=h.tape
 output:=h.output
 size:=by have:=h.size; simpa using this
 block:=fun k hk hne=>by
  rw [Below.heap_setCell _ _ _ _ (by intro e; exact hne (by rw [e]))];exact h.block k hk hne

theorem zjO {w w':World} {base:Nat} {e:TypeId} {v:Value} {n:Nat} {xs:List Value} {row:Option Nat} (h:w.ownsRow base e 1 v n xs) (hg:w.grownBy w' row) (hr:∀k,row=some k→k < base):w'.ownsRow base e 1 v n xs:=by
 refine h.kept hg ?_;cases hv:v.ownBlock with
 | none=>exact .inl rfl
 | some k =>
  refine .inr ?_;intro e
  have:=hr k e.symm
  have:=(h.lt k hv).1
  omega

theorem zcV (x m:Int) (h:0≤m∧m≤9223372036854775807):0≤bits .and .i64 x m∧bits .and .i64 x m≤m:=by
 have e2:(BitVec.ofInt 64 m).toNat=m.toNat:=by
  rw [BitVec.toNat_ofInt]
  have:((2 ^ 64:Nat):Int)=18446744073709551616:=by decide
  rw [this]; omega
 have e3:((BitVec.ofInt 64 x) &&& (BitVec.ofInt 64 m)).toNat≤m.toNat:=by
  rw [BitVec.toNat_and,e2]; exact Nat.and_le_right
 have e:bits .and .i64 x m=IntKind.i64.wrap (((BitVec.ofInt 64 x) &&& (BitVec.ofInt 64 m)).toNat:Int):=rfl;rw [e,IntKind.wrap_i64];omega

theorem zdp {a b c:World} {C:Nat} (h:a.grownBy b (some C)) (k:b.grownBy c (some C)):a.grownBy c (some C) where
 os:=k.os.trans h.os
 tape:=k.tape.trans h.tape
 output:=k.output.trans h.output
 size:=Nat.le_trans h.size k.size
 block:=fun j hj hne=>(k.block j (Nat.lt_of_lt_of_le hj h.size) hne).trans (h.block j hj hne)

theorem zc9 {a b:World} (C:Nat) (h:Below a.heap.size a b):a.grownBy b (some C) where
 os:=h.os
 tape:=h.tape
 output:=h.output
 size:=h.size
 block:=fun j hj _=>h.block j hj

theorem zaL {a b:World} {C B:Nat} (h:a.grownBy b (some C)) (hB:B≤C) (hs:C≤a.heap.size):Below B a b where
 os:=h.os
 tape:=h.tape
 output:=h.output
 size:=h.size
 block:=fun j hj=>h.block j (by omega) (by intro e; cases e; omega)

theorem zeC {a b:World} {C:Nat} (h:a.grownBy b (some C)) (n:Nat):a.grownBy (b.drewN n) (some C):=⟨h.os,h.tape,h.output,h.size,h.block⟩

structure Cur (w:World) (C:Nat) (a0:Option Addr) (l0 c0:Nat) (z0:List Int):Prop where
 row:∀w',Below C w w'→Row w' a0 l0 c0 z0
 small:l0≤1048576
 here:∃i h:Int,0≤i∧i≤l0∧w.heap[C]? = some (.cells #[.slice a0 l0 c0,.int .i64 i,.int .i64 h] 84)

theorem Cur.lt {w:World} {C:Nat} {a0:Option Addr} {l0 c0:Nat} {z0:List Int} (h:Cur w C a0 l0 c0 z0):C < w.heap.size:=by
 obtain ⟨i,x,_,_,e⟩:=h.here;by_cases hlt:C < w.heap.size
 ·exact hlt
 ·rw [Array.getElem?_eq_none (by omega)] at e; cases e

theorem Cur.below {w w':World} {C:Nat} {a0:Option Addr} {l0 c0:Nat} {z0:List Int} (h:Cur w C a0 l0 c0 z0) (hb:Below w.heap.size w w'):Cur w' C a0 l0 c0 z0 where
 row:=fun w2 h2=>h.row w2 ((hb.mono (Nat.le_of_lt h.lt)).trans h2)
 small:=h.small
 here:=by
  obtain ⟨i,x,h1,h2,e⟩:=h.here;exact ⟨i,x,h1,h2,by rw [hb.block C h.lt]; exact e⟩

theorem zji (w:World) (a0:Option Addr) (l0 c0:Nat) (z0:List Int) (x:Int) (h0:Row w a0 l0 c0 z0) (hs:l0≤1048576):Cur (w.alloc (.cells #[.slice a0 l0 c0,.int .i64 0,.int .i64 x] 84)) w.heap.size a0 l0 c0 z0 where
 row:=fun w2 h2=>h0.below (((Below.refl _ _).alloc (Nat.le_refl _) _).trans h2)
 small:=hs
 here:=⟨0,x,by omega,by omega,by show (w.heap.push _)[w.heap.size]? = _; simp⟩

theorem Cur.drew {w:World} {C:Nat} {a0:Option Addr} {l0 c0:Nat} {z0:List Int} (h:Cur w C a0 l0 c0 z0) (n:Nat):Cur (w.drewN n) C a0 l0 c0 z0:=h.below (zeq (Below.refl _ _) n)

theorem zf4 (a0:Option Addr) (l0 c0:Nat) (z0:List Int) (w:World) (h0:Row w a0 l0 c0 z0) (hs:l0≤1048576) :
  Calls Tryz.prog 18 #[.slice a0 l0 c0] w fun e w'=>e=.returned (.pointer (some ⟨w.heap.size,0,none⟩))∧Cur w' w.heap.size a0 l0 c0 z0∧Below w.heap.size w w':=by
 have hby:=h0.byte;have hcell:=h0.cell;go_enter Tryz.func18,Tryz.ntmps18;go_wp2
 go_loop [3,4] (fun m i=>∃(k:Nat) (x:Int),k≤l0∧k≤4000∧i=.int .i64 k∧m=.int .i64 x∧0≤x∧x≤1073741823) (fun _ i=>l0 - (intOf i).toNat)
 case atStart=>exact ⟨0,_,Nat.zero_le _,by omega,rfl,rfl,by omega,by omega⟩
 case round =>
  obtain ⟨k,x,hk,hk4,rfl,rfl,hx0,hx1⟩:=hrel;by_cases hlt:k < l0
  ·by_cases hl4:k < 4000
   ·rcases hcell with h | ⟨b,off,rfl,hc⟩
    ·omega
    have cx:=hc k hlt;have bx:=hby.at k;clear hc;generalize z0.getD k 0=y at *;go_wp2
    go_round
    case rel=>exact ⟨k+1,_,by omega,by omega,by go_num,rfl,(zcV (x*137+y+11) 1073741823 (by omega)).1,(zcV (x*137+y+11) 1073741823 (by omega)).2⟩
    case measure=>simp [intOf]; omega
   ·have i1:¬(k:Int) < 4000:=by omega
    go_wp2;go_ret;exact ⟨rfl,zji w a0 l0 c0 z0 x h0 hs,(Below.refl _ _).alloc (Nat.le_refl _) _⟩
  ·go_wp2;go_ret;exact ⟨rfl,zji w a0 l0 c0 z0 x h0 hs,(Below.refl _ _).alloc (Nat.le_refl _) _⟩

structure Went (w w':World) (C:Nat) (a0:Option Addr) (l0 c0:Nat) (z0:List Int):Prop where
 cur:Cur w' C a0 l0 c0 z0
 grown:w.grownBy w' (some C)

theorem Cur.cells {w:World} {C:Nat} {c0 c1 c2:Value} (h:w.heap[C]? = some (.cells #[c0,c1,c2] 84)) :
  w.cell? ⟨C,0,none⟩=some c0∧w.cell? ⟨C,1,none⟩=some c1∧w.cell? ⟨C,2,none⟩=some c2∧(∀j,w.frozen? ⟨C,j,none⟩=false):=by
 refine ⟨?_, ?_, ?_,fun j => ?_⟩ <;> simp [World.cell?,World.frozen?,h]

theorem zkl {w:World} {C:Nat} {a0:Option Addr} {l0 c0:Nat} {z0:List Int} {i h:Int} (hc:Cur w C a0 l0 c0 z0) (hh:w.heap[C]? = some (.cells #[.slice a0 l0 c0,.int .i64 i,.int .i64 h] 84)) (H:Int) (hi:0≤i∧i≤l0) :
  (w.setCell ⟨C,2,none⟩ (.int .i64 H)).heap[C]? = some (.cells #[.slice a0 l0 c0,.int .i64 i,.int .i64 H] 84)∧w.grownBy (w.setCell ⟨C,2,none⟩ (.int .i64 H)) (some C)∧Cur (w.setCell ⟨C,2,none⟩ (.int .i64 H)) C a0 l0 c0 z0:=by
 have e:(w.setCell ⟨C,2,none⟩ (.int .i64 H)).heap[C]? = some (.cells #[.slice a0 l0 c0,.int .i64 i,.int .i64 H] 84):=by
  have:=hc.lt
  simp [World.setCell,Array.getElem?_modify,hh]
 have g:w.grownBy (w.setCell ⟨C,2,none⟩ (.int .i64 H)) (some C):=zcm (World.grownBy.refl _ _) 2 _;exact ⟨e,g,⟨fun w2 h2=>hc.row w2 ((zaL g (Nat.le_refl _) (Nat.le_of_lt hc.lt)).trans h2),hc.small,i,H,hi.1,hi.2,e⟩⟩

theorem zkk {w:World} {C:Nat} {a0:Option Addr} {l0 c0:Nat} {z0:List Int} {i h:Int} (hc:Cur w C a0 l0 c0 z0) (hh:w.heap[C]? = some (.cells #[.slice a0 l0 c0,.int .i64 i,.int .i64 h] 84)) (j:Int) (hj:0≤j∧j≤l0) :
  Went w (w.setCell ⟨C,1,none⟩ (.int .i64 j)) C a0 l0 c0 z0:=by
 have e:(w.setCell ⟨C,1,none⟩ (.int .i64 j)).heap[C]? = some (.cells #[.slice a0 l0 c0,.int .i64 j,.int .i64 h] 84):=by
  have:=hc.lt
  simp [World.setCell,Array.getElem?_modify,hh]
 have g:w.grownBy (w.setCell ⟨C,1,none⟩ (.int .i64 j)) (some C):=zcm (World.grownBy.refl _ _) 1 _;exact ⟨⟨fun w2 h2=>hc.row w2 ((zaL g (Nat.le_refl _) (Nat.le_of_lt hc.lt)).trans h2),hc.small,j,h,hj.1,hj.2,e⟩,g⟩

theorem zej (C:Nat) (a0:Option Addr) (l0 c0:Nat) (z0:List Int) (w:World) (hc:Cur w C a0 l0 c0 z0) :
  Calls Tryz.prog 44 #[.pointer (some ⟨C,0,none⟩)] w fun e w'=>∃x:Int,e=.returned (.int .i64 x)∧0≤x∧x≤255∧Went w w' C a0 l0 c0 z0:=by
 obtain ⟨i,h,hi0,hi1,hh⟩:=hc.here;obtain ⟨k0,k1,k2,kf⟩:=Cur.cells hh;have kf2:=kf 2;clear kf;obtain ⟨k,rfl⟩:∃k:Nat,i=k:=⟨i.toNat,by omega⟩;go_enter Tryz.func44,Tryz.ntmps44;go_wp2;generalize wrap64 (wrap64 (h*6364136223846793005)+1442695040888963407)=H;have st:=zkl hc hh H ⟨hi0,hi1⟩;generalize w.setCell ⟨C,2,none⟩ (.int .i64 H)=W at *;obtain ⟨hW,hg,hcw⟩:=st;clear k0 k1 k2 kf2 hh hc;obtain ⟨k0,k1,k2,kf⟩:=Cur.cells hW;have kf1:=kf 1;clear kf;have hrow:=hcw.row W (Below.refl _ _);have hl0:=hcw.small;have hby:=hrow.byte;have hcell:=hrow.cell
 go_quiet (fail)
 go_wp2;have hx:=zcV (bits BinOp.xor IntKind.i64 (H / 8589934592) (H / 140737488355328)) 255 (by omega);generalize bits BinOp.and IntKind.i64 (bits BinOp.xor IntKind.i64 (H / 8589934592) (H / 140737488355328)) 255=x at *;by_cases hlt:k < l0
 ·rcases hcell with h | ⟨b,off,rfl,hc⟩
  ·omega
  have cx:=hc k hlt;have bx:=hby.at k;clear hc;generalize z0.getD k 0=y at *;have g1:(k:Int) < l0:=by omega
  go_quiet (fail)
  go_wp2
  go_quiet (fail)
  go_wp2;go_ret;refine ⟨_,rfl,(zcV _ 255 (by omega)).1,(zcV _ 255 (by omega)).2, ?_⟩;have t:=fun n=>zkk (hcw.drew n) (by exact hW) ((k:Int)+1) (by omega)
  exact ⟨(t _).cur,zdp (zeC hg _) (t _).grown⟩
 ·have g1:¬(k:Int) < l0:=by omega
  go_quiet (fail)
  go_wp2;go_ret;exact ⟨x,rfl,hx.1,hx.2,hcw.drew _,zeC hg _⟩

theorem zh6 (x n:Int) (hx:0≤x) (hn:0 < n):0≤x % n∧x % n < n∧x % n≤x:=by
 refine ⟨Int.emod_nonneg _ (by omega),Int.emod_lt_of_pos _ hn, ?_⟩;have h1:=Int.emod_add_mul_ediv x n;have h2:0≤x / n:=Int.ediv_nonneg hx (by omega);have h3:0≤n*(x / n):=Int.mul_nonneg (by omega) h2;omega

theorem Went.trans {a b c:World} {C:Nat} {a0:Option Addr} {l0 c0:Nat} {z0:List Int} (h:Went a b C a0 l0 c0 z0) (k:Went b c C a0 l0 c0 z0):Went a c C a0 l0 c0 z0:=⟨k.cur,zdp h.grown k.grown⟩

theorem Went.made {a b c:World} {C:Nat} {a0:Option Addr} {l0 c0:Nat} {z0:List Int} (h:Went a b C a0 l0 c0 z0) (k:Below b.heap.size b c):Went a c C a0 l0 c0 z0:=⟨h.cur.below k,zdp h.grown (zc9 C k)⟩

theorem Went.start {a b:World} {C:Nat} {a0:Option Addr} {l0 c0:Nat} {z0:List Int} (h:Cur a C a0 l0 c0 z0) (k:Below a.heap.size a b):Went a b C a0 l0 c0 z0:=⟨h.below k,zc9 C k⟩

theorem zy (C:Nat) (a0:Option Addr) (l0 c0:Nat) (z0:List Int) (n:Int) (w:World) (hc:Cur w C a0 l0 c0 z0) (hn:n≤1099511627776) :
  Calls Tryz.prog 19 #[.pointer (some ⟨C,0,none⟩),.int .i64 n] w fun e w'=>∃x:Int,e=.returned (.int .i64 x)∧0≤x∧(0 < n→x < n)∧x≤16777215∧Went w w' C a0 l0 c0 z0:=by
 by_cases k0:n≤0
 ·go_enter Tryz.func19,Tryz.ntmps19;go_wp2;go_ret;exact ⟨0,rfl,by omega,by omega,by omega,Went.start hc (Below.refl _ _)⟩
 by_cases k1:n≤256
 ·go_enter Tryz.func19,Tryz.ntmps19;(go_wp2_with fail);refine (zej C a0 l0 c0 z0 _ hc).mono ?_;rintro e w1 ⟨x,rfl,hx0,hx1,went⟩;have hne:(n == 0)=false:=by simp; omega
  go_wp2;go_ret;exact ⟨_,rfl,(zh6 x n hx0 (by omega)).1,fun _=>(zh6 x n hx0 (by omega)).2.1,by have:=(zh6 x n hx0 (by omega)).2.2; omega,went⟩
 ·go_enter Tryz.func19,Tryz.ntmps19;(go_wp2_with fail);refine (zej C a0 l0 c0 z0 _ hc).mono ?_;rintro e w1 ⟨x,rfl,hx0,hx1,went1⟩;(go_wp2_with fail);refine (zej C a0 l0 c0 z0 _ went1.cur).mono ?_;rintro e w2 ⟨y,rfl,hy0,hy1,went2⟩;(go_wp2_with fail);refine (zej C a0 l0 c0 z0 _ went2.cur).mono ?_;rintro e w3 ⟨z,rfl,hz0,hz1,went3⟩;have hne:(n == 0)=false:=by simp; omega
  go_wp2;go_ret;have hm:=zh6 (x*65536+y*256+z) n (by omega) (by omega);exact ⟨_,rfl,hm.1,fun _=>hm.2.1,by omega,(went1.trans went2).trans went3⟩

theorem zdK (C:Nat) (a0:Option Addr) (l0 c0:Nat) (z0:List Int) (n:Int) (w:World) (hc:Cur w C a0 l0 c0 z0) (hn:n≤1099511627776) :
  Calls Tryz.prog 45 #[.pointer (some ⟨C,0,none⟩),.int .i64 n] w fun e w'=>∃x:Bool,e=.returned (.bool x)∧Went w w' C a0 l0 c0 z0:=by
 go_enter Tryz.func45,Tryz.ntmps45;go_wp2_with fail
 refine (zy C a0 l0 c0 z0 n _ hc hn).mono ?_;rintro e w1 ⟨x,rfl,hx0,hx1,hx2,went⟩;go_wp2;go_ret;exact ⟨_,rfl,went⟩

theorem zkD (w:World) (xs:List Int) (j:Nat) (hj:j < xs.length):(w.alloc (.cells (xs.map (Value.int .i64)).toArray 3)).cell? ⟨w.heap.size,j,none⟩=some (.int .i64 (xs.getD j 0)):=by
 have:(w.alloc (.cells (xs.map (Value.int .i64)).toArray 3)).cell? ⟨w.heap.size,j,none⟩=(xs.map (Value.int .i64)).toArray[j]? := by simp
 rw [this]
 simp [hj]

theorem zjw (C:Nat) (a0:Option Addr) (l0 c0:Nat) (z0:List Int) (B n:Nat) (xs:List Int) (w:World) (hc:Cur w C a0 l0 c0 z0) (hB:C < B) (hcell:∀j,j < n→w.cell? ⟨B,j,none⟩=some (.int .i64 (xs.getD j 0))) (hxs:xs.length=n) (hn0:0 < n) (hn:n≤1000) :
  Calls Tryz.prog 22 #[.pointer (some ⟨C,0,none⟩),.slice (some ⟨B,0,none⟩) n n] w fun e w'=>∃x:Int,x∈xs∧e=.returned (.int .i64 x)∧Went w w' C a0 l0 c0 z0:=by
 have HC:=hide hcell;clear hcell;go_enter Tryz.func22,Tryz.ntmps22;go_wp2_with fail
 refine (zy C a0 l0 c0 z0 n _ hc (by omega)).mono ?_;rintro e w1 ⟨x,rfl,hx0,hx1,hx2,went⟩;have hx1:=hx1 (by omega);obtain ⟨j,rfl⟩:∃j:Nat,x=j:=⟨x.toNat,by omega⟩;have cx:w1.cell? ⟨B,j,none⟩=some (.int .i64 (xs.getD j 0)):=went.grown.cell (HC.out j (by omega)) (by intro e; simp at e; omega);have hm:xs.getD j 0∈xs:=by
  rw [List.getD_eq_getElem?_getD,List.getElem?_eq_getElem (by omega)]; exact List.getElem_mem _
 generalize xs.getD j 0=y at *;go_wp2;go_ret;exact ⟨y,hm,rfl,went⟩

structure Piece where
 ao:Option Addr
 len:Nat
 cap:Nat
 zs:List Int

def tot (ps:List Piece) (k:Nat):Nat:=((ps.take k).map Piece.len).sum
def flat (ps:List Piece) (k:Nat):List Int:=((ps.take k).map Piece.zs).flatten

def clip (n:Int):Int:=if 2147483647 < n then 2147483647 else if n < -2147483648 then -2147483648 else n

def ints:Nat→Int→List Int→List Int
 | 0,_,out=>out
 | f+1,n,out=>if n < -128∨127 < n then ints f (n / 256) (n / 256 % 256::out) else out

def zgW (n:Int):List Int:=ints 3 (clip n) [clip n % 256]

theorem Cur.belowAt {w w':World} {C B:Nat} {a0:Option Addr} {l0 c0:Nat} {z0:List Int} (h:Cur w C a0 l0 c0 z0) (hb:Below B w w') (hC:C < B):Cur w' C a0 l0 c0 z0 where
 row:=fun w2 h2=>h.row w2 ((hb.mono (Nat.le_of_lt hC)).trans h2)
 small:=h.small
 here:=by
  obtain ⟨i,x,h1,h2,e⟩:=h.here;exact ⟨i,x,h1,h2,by rw [hb.block C hC]; exact e⟩

theorem Went.madeAt {a b c:World} {C B:Nat} {a0:Option Addr} {l0 c0:Nat} {z0:List Int} (h:Went a b C a0 l0 c0 z0) (k:Below B b c) (hC:C < B) (hB:a.heap.size≤B):Went a c C a0 l0 c0 z0 where
 cur:=h.cur.belowAt k hC
 grown:=⟨k.os.trans h.grown.os,k.tape.trans h.grown.tape,k.output.trans h.grown.output,Nat.le_trans h.grown.size k.size,fun j hj hne=>(k.block j (by omega)).trans (h.grown.block j hj hne)⟩

theorem Went.own {a b:World} {C:Nat} {a0:Option Addr} {l0 c0:Nat} {z0:List Int} (h:Went a b C a0 l0 c0 z0) {base:Nat} {v:Value} {n:Nat} {xs:List Value} (ho:a.ownsRow base 5 1 v n xs) (hC:C < base):b.ownsRow base 5 1 v n xs :=
 zjO ho h.grown (by intro k hk; cases hk; exact hC)

theorem zan (C:Nat) (a0:Option Addr) (l0 c0:Nat) (z0:List Int) (xs:List Int) (B n:Nat) (w:World) (hc:Cur w C a0 l0 c0 z0) (hB:B=w.heap.size) (hxs:xs.length=n) (hn0:0 < n) (hn:n≤1000) :
  Calls Tryz.prog 22 #[.pointer (some ⟨C,0,none⟩),.slice (some ⟨B,0,none⟩) n n] (w.alloc (.cells (xs.map (Value.int .i64)).toArray 3)) fun e w'=>∃x:Int,x∈xs∧e=.returned (.int .i64 x)∧Went w w' C a0 l0 c0 z0:=by
 subst hB hxs;have hb:Below w.heap.size w (w.alloc (.cells (xs.map (Value.int .i64)).toArray 3)):=(Below.refl _ _).alloc (Nat.le_refl _) _;refine (zjw C a0 l0 c0 z0 w.heap.size xs.length xs _ (hc.below hb) hc.lt (fun j hj=>zkD w xs j hj) rfl hn0 hn).mono ?_;rintro e w' ⟨x,hx,rfl,went⟩;exact ⟨x,hx,rfl,(Went.start hc hb).trans went⟩

theorem zg (w:World) (o:Obj):Below w.heap.size w (w.alloc o):=(Below.refl _ _).alloc (Nat.le_refl _) o

theorem zX (w:World) (o p:Obj):Below w.heap.size w ((w.alloc o).alloc p):=(zg w o).alloc (by simp) p

theorem zbb (w:World) (o p q:Obj):Below w.heap.size w (((w.alloc o).alloc p).alloc q):=(zX w o p).alloc (by simp; omega) q

theorem zt (w:World) (o:Obj):(w.alloc o).heap[w.heap.size]? = some o:=by show (w.heap.push o)[w.heap.size]? = _; simp

theorem zdG {w w1:World} {o:Obj} (hb:Below (w.alloc o).heap.size (w.alloc o) w1):w1.heap[w.heap.size]? = some o:=by
 rw [hb.block _ (by simp)]; exact zt w o

theorem zcr {w w1:World} {o p:Obj} (hb:Below ((w.alloc o).alloc p).heap.size ((w.alloc o).alloc p) w1):w1.heap[w.heap.size]? = some o∧w1.heap[w.heap.size+1]? = some p:=by
 refine ⟨?_, ?_⟩
 ·have:=zg (w.alloc o) p
  exact zdG (w:=w) (o:=o) ((this.trans (hb.mono this.size)))
 ·have:=zdG (w:=w.alloc o) (o:=p) hb; simpa using this

theorem zbS {w w1:World} {o p q:Obj} (hb:Below (((w.alloc o).alloc p).alloc q).heap.size (((w.alloc o).alloc p).alloc q) w1):w1.heap[w.heap.size]? = some o∧w1.heap[w.heap.size+1]? = some p∧w1.heap[w.heap.size+1+1]? = some q:=by
 have t:=zg ((w.alloc o).alloc p) q;have u:=zcr (w:=w) (o:=o) (p:=p) (t.trans (hb.mono t.size));refine ⟨u.1,u.2, ?_⟩
 have:=zdG (w:=(w.alloc o).alloc p) (o:=q) hb; simpa using this

theorem zlF {w:World} {C:Nat} {t:TypeId} {c0 c1 c2 c3:Value} (h:w.heap[C]? = some (.cells #[c0,c1,c2,c3] t)) :
  (w.cell? ⟨C,0,none⟩=some c0∧w.cell? ⟨C,1,none⟩=some c1∧w.cell? ⟨C,2,none⟩=some c2∧w.cell? ⟨C,3,none⟩=some c3) ∧
  (w.frozen? ⟨C,0,none⟩=false∧w.frozen? ⟨C,1,none⟩=false∧w.frozen? ⟨C,2,none⟩=false∧w.frozen? ⟨C,3,none⟩=false):=by
 refine ⟨⟨?_, ?_, ?_, ?_⟩, ?_, ?_, ?_, ?_⟩ <;> simp [World.cell?,World.frozen?,h]

theorem zj {B:Nat} {a w:World} (h:Below B a w) {g:Nat} (hB:B≤g) (j:Nat) (u:Value):Below B a (w.setCell ⟨g,j,none⟩ u):=h.setCell (p:=⟨g,j,none⟩) hB u

theorem undrew {B n:Nat} {w w':World} (h:Below B (w.drewN n) w'):Below B w w':=⟨h.os,h.tape,h.output,h.size,h.block⟩

theorem za {w w':World} {i:Nat} {o:Obj} (h:w.heap[i]? = some o) (hb:Below w.heap.size w w'):w'.heap[i]? = some o:=by
 by_cases hlt:i < w.heap.size
 ·rw [hb.block i hlt]; exact h
 ·rw [Array.getElem?_eq_none (by omega)] at h; cases h

theorem zx {w:World} {C:Nat} {t:TypeId} {c0 c1 c2 c3 c4:Value} (h:w.heap[C]? = some (.cells #[c0,c1,c2,c3,c4] t)) :
  (w.cell? ⟨C,0,none⟩=some c0∧w.cell? ⟨C,1,none⟩=some c1∧w.cell? ⟨C,2,none⟩=some c2∧w.cell? ⟨C,3,none⟩=some c3∧w.cell? ⟨C,4,none⟩=some c4) ∧
  (w.frozen? ⟨C,0,none⟩=false∧w.frozen? ⟨C,1,none⟩=false∧w.frozen? ⟨C,2,none⟩=false∧w.frozen? ⟨C,3,none⟩=false∧w.frozen? ⟨C,4,none⟩=false):=by
 refine ⟨⟨?_, ?_, ?_, ?_, ?_⟩, ?_, ?_, ?_, ?_, ?_⟩ <;> simp [World.cell?,World.frozen?,h]

theorem zu {w:World} {b j:Nat} {cur:Array Value} {t:TypeId} (h:w.heap[b]? = some (.cells cur t)) (u:Value):(w.setCell ⟨b,j,none⟩ u).heap[b]? = some (.cells (cur.setIfInBounds j u) t):=heap_setCell_same w b j cur t u h

theorem zam {w:World} {i b j:Nat} {o:Obj} {u:Value} (h:w.heap[i]? = some o) (hne:i≠b):(w.setCell ⟨b,j,none⟩ u).heap[i]? = some o:=by rw [Below.heap_setCell _ _ _ _ hne]; exact h

theorem zG {w:World} {C:Nat} {t:TypeId} {c0 c1:Value} (h:w.heap[C]? = some (.cells #[c0,c1] t)) :
  (w.cell? ⟨C,0,none⟩=some c0∧w.cell? ⟨C,1,none⟩=some c1)∧(w.frozen? ⟨C,0,none⟩=false∧w.frozen? ⟨C,1,none⟩=false):=by
 refine ⟨⟨?_, ?_⟩, ?_, ?_⟩ <;> simp [World.cell?,World.frozen?,h]

theorem ziZ {w:World} {b:Nat} {c0 c1:Value} {t:TypeId} (h:w.heap[b]? = some (.cells #[c0,c1] t)) (u:Value):(w.setCell ⟨b,1,none⟩ u).heap[b]? = some (.cells #[c0,u] t):=by
 have:=heap_setCell_same w b 1 #[c0,c1] t u h
 simpa using this

theorem zM {a b c:World} {row:Option Nat} (h:a.grownBy b row) (k:b.grownBy c row):a.grownBy c row :=
 ⟨k.os.trans h.os,k.tape.trans h.tape,k.output.trans h.output,Nat.le_trans h.size k.size,fun i hi hn=>(k.block i (Nat.lt_of_lt_of_le hi h.size) hn).trans (h.block i hi hn)⟩

theorem zdo {a b:World} {row:Option Nat} (h:Below a.heap.size a b):a.grownBy b row:=⟨h.os,h.tape,h.output,h.size,fun k hk _=>h.block k hk⟩

theorem zm {w:World} {rb:Nat} (j:Nat) (u:Value):w.grownBy (w.setCell ⟨rb,j,none⟩ u) (some rb):=zcm (World.grownBy.refl _ _) j u

theorem zaZ {w:World} {C:Nat} {t:TypeId} {c0 c1 c2:Value} (h:w.heap[C]? = some (.cells #[c0,c1,c2] t)) :
  (w.cell? ⟨C,0,none⟩=some c0∧w.cell? ⟨C,1,none⟩=some c1∧w.cell? ⟨C,2,none⟩=some c2)∧(w.frozen? ⟨C,0,none⟩=false∧w.frozen? ⟨C,1,none⟩=false∧w.frozen? ⟨C,2,none⟩=false):=by
 refine ⟨⟨?_, ?_, ?_⟩, ?_, ?_, ?_⟩ <;> simp [World.cell?,World.frozen?,h]

theorem ze {w w':World} {row:Option Nat} {i:Nat} {o:Obj} (h:w.heap[i]? = some o) (hg:w.grownBy w' row) (hne:∀k,row=some k→k≠i):w'.heap[i]? = some o:=by
 by_cases hlt:i < w.heap.size
 ·rw [hg.block i hlt (fun e=>hne i e.symm rfl)]; exact h
 ·rw [Array.getElem?_eq_none (by omega)] at h; cases h

theorem zR {B:Nat} {a w:World} (h:Below B a w) {g:Nat} (hB:B≤g) (c0 c1 c2 c3 c4:Value):Below B a (((((w.setCell ⟨g,0,none⟩ c0).setCell ⟨g,1,none⟩ c1).setCell ⟨g,2,none⟩ c2).setCell ⟨g,3,none⟩ c3).setCell ⟨g,4,none⟩ c4) :=
 zj (zj (zj (zj (zj h hB 0 c0) hB 1 c1) hB 2 c2) hB 3 c3) hB 4 c4

theorem Row.set {w:World} {b off len cap:Nat} {zs:List Int} (h:Row w (some ⟨b,off,none⟩) len cap zs) {P:Nat} (hP:¬b=P) (j:Nat) (u:Value):Row (w.setCell ⟨P,j,none⟩ u) (some ⟨b,off,none⟩) len cap zs where
 size:=h.size
 le:=h.le
 top:=h.top
 nil:=h.nil
 byte:=h.byte
 cell:=by
  rcases h.cell with h0 | ⟨b',off',e,hc⟩
  ·exact .inl h0
  ·cases e;refine .inr ⟨b,off,rfl,fun i hi => ?_⟩;rw [World.cell?_setCell_far w ⟨P,j,none⟩ ⟨b,off+i,none⟩ u (fun e=>hP e.symm)];exact hc i hi

theorem zc {w W W':World} (a:Below w.heap.size w W) (b:Below W.heap.size W W'):Below w.heap.size w W':=a.trans (b.mono a.size)

theorem zb4 {w W:World} (a:Below w.heap.size w W) (o:Obj):Below w.heap.size w (W.alloc o):=zc a (zg W o)

theorem zr {w W:World} (a:Below w.heap.size w W):Below w.heap.size w W.drew:=a.drew

theorem zhZ {w W:World} (a:Below w.heap.size w W) (n:Nat):Below w.heap.size w (W.drewN n):=zeq a n

theorem zld {a b c:World} {rb:Nat} (h:Below a.heap.size a b) (hg:b.grownBy c (some rb)) (hr:a.heap.size≤rb):Below a.heap.size a c:=h.grown hg h.size (by intro k hk; cases hk; exact hr)

theorem zb6 (C:Nat) (a0:Option Addr) (l0 c0:Nat) (z0:List Int) (xs:List Int) (g n:Nat) (w:World) (hc:Cur w C a0 l0 c0 z0) (hCg:C < g) {cs:Array Value} (hg:w.heap[g]? = some (.cells cs 3)) (hcs:cs=(xs.map (Value.int .i64)).toArray) (hn0:0 < xs.length) (hn:xs.length≤1000) (hnx:xs.length=n:=by rfl) :
  Calls Tryz.prog 22 #[.pointer (some ⟨C,0,none⟩),.slice (some ⟨g,0,none⟩) n n] w fun e w'=>∃x:Int,x∈xs∧e=.returned (.int .i64 x)∧Went w w' C a0 l0 c0 z0:=by
 subst hnx hcs;refine (zjw C a0 l0 c0 z0 g xs.length xs _ hc hCg (fun j hj => ?_) rfl hn0 hn).mono ?_
 ·simp only [World.cell?,hg]
  simp [hj]
 ·rintro e w' ⟨x,hx,rfl,went⟩;exact ⟨x,hx,rfl,went⟩

theorem zkE {w w':World} {C:Nat} {a0:Option Addr} {l0 c0:Nat} {z0:List Int} {g:Nat} {cs:Array Value} (h:w.heap[g]? = some (.cells cs 3)) (hc:Cur w C a0 l0 c0 z0) (k:Went w w' C a0 l0 c0 z0):w'.heap[g]? = some (.cells cs 3):=by
 refine ze h k.grown (fun j e => ?_);cases e;intro e;subst e;obtain ⟨i,x,-,-,hh⟩:=hc.here;rw [hh] at h;cases h

theorem zgK {W:World} {X:Nat} {c0 c1 c2 c3 c4:Value} {T:TypeId} {K:World→Prop} (hk:W.heap[X]? = some (.cells #[c0,c1,c2,c3,c4] T)) (v0 v1 v2 v3 v4:Value) (h:∀wq,wq.heap[X]? = some (.cells #[v0,v1,v2,v3,v4] T)→W.grownBy wq (some X)→K wq):K (((((W.setCell ⟨X,0,none⟩ v0).setCell ⟨X,1,none⟩ v1).setCell ⟨X,2,none⟩ v2).setCell ⟨X,3,none⟩ v3).setCell ⟨X,4,none⟩ v4):=by
 refine h _ ?_ (zM (zM (zM (zM (zm 0 _) (zm 1 _)) (zm 2 _)) (zm 3 _)) (zm 4 _));have h0:=zu (j:=0) hk v0;have h1:=zu (j:=1) h0 v1;have h2:=zu (j:=2) h1 v2;have h3:=zu (j:=3) h2 v3;have h4:=zu (j:=4) h3 v4
 simpa using h4

theorem zjE {W:World} {X:Nat} {c0 c1 c2 c3 c4 c5 c6:Value} {T:TypeId} {K:World→Prop} (hk:W.heap[X]? = some (.cells #[c0,c1,c2,c3,c4,c5,c6] T)) (v0 v1 v2 v3 v4 v5 v6:Value) (h:∀wq,wq.heap[X]? = some (.cells #[v0,v1,v2,v3,v4,v5,v6] T)→W.grownBy wq (some X)→K wq):K (((((((W.setCell ⟨X,0,none⟩ v0).setCell ⟨X,1,none⟩ v1).setCell ⟨X,2,none⟩ v2).setCell ⟨X,3,none⟩ v3).setCell ⟨X,4,none⟩ v4).setCell ⟨X,5,none⟩ v5).setCell ⟨X,6,none⟩ v6):=by
 refine h _ ?_ (zM (zM (zM (zM (zM (zM (zm 0 _) (zm 1 _)) (zm 2 _)) (zm 3 _)) (zm 4 _)) (zm 5 _)) (zm 6 _));have h6:=zu (j:=6) (zu (j:=5) (zu (j:=4) (zu (j:=3) (zu (j:=2) (zu (j:=1) (zu (j:=0) hk v0) v1) v2) v3) v4) v5) v6
 simpa using h6

theorem zac {W:World} {X:Nat} {c0 c1:Value} {T:TypeId} {K:World→Prop} (hk:W.heap[X]? = some (.cells #[c0,c1] T)) (v0 v1:Value) (h:∀wq,wq.heap[X]? = some (.cells #[v0,v1] T)→W.grownBy wq (some X)→K wq):K ((W.setCell ⟨X,0,none⟩ v0).setCell ⟨X,1,none⟩ v1):=by
 refine h _ ?_ (zM (zm 0 _) (zm 1 _));have h1:=zu (j:=1) (zu (j:=0) hk v0) v1
 simpa using h1

section
open Go.RowKit

structure Flat (α:Type) where
 k:Nat
 cs:α→List Value
 len:∀x,(cs x).length=k
 pos:0 < k
 one:∀x,∀v∈cs x,v.oneCell'=true

variable {α:Type}

def Flat.all (F:Flat α) (l:List α):List Value:=l.flatMap F.cs

theorem Flat.all_cons (F:Flat α) (x:α) (l:List α):F.all (x::l)=F.cs x++F.all l:=by simp [Flat.all]
theorem Flat.all_append (F:Flat α) (a b:List α):F.all (a++b)=F.all a++F.all b:=by simp [Flat.all]
theorem Flat.all_one (F:Flat α) (x:α):F.all [x]=F.cs x:=by simp [Flat.all]
theorem Flat.all_length (F:Flat α) (l:List α):(F.all l).length=l.length*F.k:=by
 induction l with
 | nil=>simp [Flat.all]
 | cons x l ih=>rw [F.all_cons,List.length_append,ih,F.len,List.length_cons,Nat.add_mul]; omega
theorem Flat.all_oneCell (F:Flat α) (l:List α):∀u∈F.all l,u.oneCell'=true:=by
 intro u hu;obtain ⟨x,_,hx⟩:=List.mem_flatMap.1 hu;exact F.one x u hx

theorem Flat.all_at (F:Flat α):∀(l:List α) (i:Nat) (x:α),l[i]? = some x→∀(j:Nat) (v:Value),(F.cs x)[j]? = some v→(F.all l)[i*F.k+j]? = some v
 | [],i,x,h,_,_,_=>by simp at h
 | y::l,0,x,h,j,v,hv=>by
  simp at h
  subst h;have hj:=(List.getElem?_eq_some_iff.1 hv).1;rw [F.all_cons,Nat.zero_mul,Nat.zero_add,List.getElem?_append_left hj];exact hv
 | y::l,i+1,x,h,j,v,hv=>by
  have h':l[i]? = some x:=by simpa using h
  rw [F.all_cons,List.getElem?_append_right (by rw [F.len,Nat.add_mul]; omega),F.len];rw [show (i+1)*F.k+j - F.k=i*F.k+j by rw [Nat.add_mul]; omega];exact Flat.all_at F l i x h' j v hv

structure GRow (F:Flat α) (w:World) (ao:Option Addr) (len cap:Nat) (l:List α):Prop where
 size:l.length=len
 le:len≤cap
 top:cap≤maxLen
 nil:ao=none→cap=0
 cell:len=0∨∃b off,ao=some ⟨b,off,none⟩∧∀(i:Nat) (x:α),l[i]? = some x→∀(j:Nat) (v:Value),(F.cs x)[j]? = some v→w.cell? ⟨b,off+i*F.k+j,none⟩=some v

theorem zc2 (F:Flat α) (w:World):GRow F w none 0 0 []:=⟨rfl,Nat.le_refl _,Nat.zero_le _,fun _=>rfl,.inl rfl⟩

theorem GRow.below {F:Flat α} {w w':World} {ao:Option Addr} {len cap:Nat} {l:List α} (h:GRow F w ao len cap l) (hb:Below w.heap.size w w'):GRow F w' ao len cap l where
 size:=h.size
 le:=h.le
 top:=h.top
 nil:=h.nil
 cell:=by
  rcases h.cell with h0 | ⟨b,off,ha,hc⟩
  ·exact .inl h0
  ·exact .inr ⟨b,off,ha,fun i x hi j v hv=>(hb.cell (zo (hc i x hi j v hv))).trans (hc i x hi j v hv)⟩

theorem GRow.at {F:Flat α} {w:World} {ao:Option Addr} {len cap:Nat} {l:List α} (h:GRow F w ao len cap l) (i:Nat) (hi:i < len):∃x b off,l[i]? = some x∧ao=some ⟨b,off,none⟩∧∀(j:Nat) (v:Value),(F.cs x)[j]? = some v→w.cell? ⟨b,off+i*F.k+j,none⟩=some v:=by
 have hl:=h.size;rcases h.cell with h0 | ⟨b,off,ha,hc⟩
 ·omega
 ·have hx:l[i]? = some l[i]:=List.getElem?_eq_getElem (by omega);exact ⟨_,b,off,hx,ha,hc i _ hx⟩

theorem zl {w w':World} {base k:Nat} {e:TypeId} {v:Value} {n:Nat} {xs:List Value} (h:w.ownsRow base e k v n xs) (hb:Below w.heap.size w w'):w'.ownsRow base e k v n xs:=by
 obtain ⟨hl,h | ⟨g,cap,cur,rfl,hg,hh,h1,h2,h3,h4⟩⟩:=h
 ·exact ⟨hl,.inl h⟩
 ·refine ⟨hl,.inr ⟨g,cap,cur,rfl,hg, ?_,h1,h2,h3,h4⟩⟩;rw [hb.block g ?_]
  ·exact hh
  ·by_cases hlt:g < w.heap.size
   ·exact hlt
   ·rw [Array.getElem?_eq_none (by omega)] at hh
    simp at hh

theorem zL {w:World} {base k:Nat} {e:TypeId} {v:Value} {n:Nat} {xs:List Value} (h:w.ownsRow base e k v n xs) {base':Nat} (hle:base'≤base):w.ownsRow base' e k v n xs:=by
 obtain ⟨hl,h | ⟨g,cap,cur,rfl,hg,hh,h1,h2,h3,h4⟩⟩:=h
 ·exact ⟨hl,.inl h⟩
 ·exact ⟨hl,.inr ⟨g,cap,cur,rfl,by omega,hh,h1,h2,h3,h4⟩⟩

theorem zc1 {w:World} {base k:Nat} {e:TypeId} {v:Value} {n:Nat} {xs:List Value} (h:w.ownsRow base e k v n xs):∃ao cap,v=.slice ao n cap:=by
 rcases h.2 with ⟨rfl,rfl⟩ | ⟨g,cap,cur,rfl,_⟩
 ·exact ⟨none,0,rfl⟩
 ·exact ⟨_,cap,rfl⟩

theorem zB {w w':World} {base k:Nat} {e:TypeId} {v:Value} {n:Nat} {xs:List Value} (h:w.ownsRow base e k v n xs) {g:Nat} (hg:w.grownBy w' (some g)) (hne:∀b,v.ownBlock=some b→b≠g):w'.ownsRow base e k v n xs:=by
 refine h.kept hg ?_;cases hv:v.ownBlock with
 | none=>exact .inl rfl
 | some b=>exact .inr (by intro h; cases h; exact hne _ hv rfl)

theorem zD {F:Flat α} {w:World} {base:Nat} {T:TypeId} {ao:Option Addr} {n cap:Nat} {l:List α} (h:w.ownsRow base T F.k (.slice ao n cap) n (F.all l)):GRow F w ao n cap l:=by
 have hl:l.length=n:=by
  have:=h.1
  rw [F.all_length] at this;exact Nat.eq_of_mul_eq_mul_right F.pos this
 rcases h.2 with ⟨e,rfl⟩ | ⟨g,cap',cur,e,hg,hh,h1,h2,h3,h4⟩
 ·cases e;exact ⟨hl,Nat.le_refl _,Nat.zero_le _,fun _=>rfl,.inl rfl⟩
 ·cases e;refine ⟨hl,h1,h2,(by intro h; cases h),.inr ⟨g,0,rfl,fun i x hi j v hv => ?_⟩⟩;have hx:=F.all_at l i x hi j v hv;have hlt:=(List.getElem?_eq_some_iff.1 hx).1;rw [F.all_length] at hlt;rw [Nat.zero_add,h.cellAt _ (by rw [← hl]; exact hlt)];exact hx

theorem GRow.news {F:Flat α} {w:World} {b off n cap:Nat} {l:List α} (h:GRow F w (some ⟨b,off,none⟩) n cap l):∀(j:Nat) (u:Value),(F.all l)[j]? = some u→w.cell? ((⟨b,off,none⟩:Addr).add j)=some u:=by
 intro j u hu;have hj:=(List.getElem?_eq_some_iff.1 hu).1;rw [F.all_length] at hj;have hp:=F.pos;have hi:j / F.k < l.length:=Nat.div_lt_of_lt_mul (by rw [Nat.mul_comm]; exact hj);rcases h.cell with h0 | ⟨b',off',e,hc⟩
 ·have:=h.size
  rw [this,h0] at hi;exact absurd hi (Nat.not_lt_zero _)
 ·cases e;have hx:l[j / F.k]? = some l[j / F.k]:=List.getElem?_eq_getElem hi;have hm:j % F.k < (F.cs l[j / F.k]).length:=by rw [F.len]; exact Nat.mod_lt _ hp
  have hv:=List.getElem?_eq_getElem hm;have ha:=F.all_at l _ _ hx _ _ hv;have hd:j / F.k*F.k+j % F.k=j:=by rw [Nat.mul_comm]; exact Nat.div_add_mod j F.k
  rw [hd] at ha;have hc:=hc _ _ hx _ _ hv;rw [zck];rw [show off+j=off+j / F.k*F.k+j % F.k by omega,hc,← ha,hu]

theorem zbw {P:Program} {T:TypeId} {z:Value} {k b:Nat} (h:(P.info? T).map (fun i=>(i.zero,i.size,i.bytes))=some (some z,k,b)):∃i,P.info? T=some i∧i.zero=some z∧i.size=k∧i.bytes=b:=by
 cases hi:P.info? T with
 | none=>rw [hi] at h; simp at h
 | some i =>
  rw [hi] at h
  simp at h
  exact ⟨i,rfl,h.1,h.2.1,h.2.2⟩

theorem zE {F:Flat α} {P:Program} (w:World) {ops:Array Oper} {rest:List Oper} {o:Oper} {a:Act} {Q:Exit→Act→World→Prop} (hgd:o.guard=none)
  (s x:Operand) (t T:TypeId) (ho:o.op=Op.call { callee:=Callee.builtin Builtin.append,args:=#[s,x],argTypes:=#[t,t] }) (base:Nat) {Z:Value} {by8:Nat}
  (ht:P.underlying t=some (TypeDesc.slice T)) (hinfo:(P.info? T).map (fun i=>(i.zero,i.size,i.bytes))=some (some Z,F.k,by8)) (hZ:Z.cells.size=F.k) (hb8:by8≤1024)
  (v:Value) (n:Nat) (xs:List α) (hs:a.eval s=v) (hown:w.ownsRow base T F.k v n (F.all xs)) (ao:Option Addr) (m c:Nat) (zs:List α)
  (hx:a.eval x=.slice ao m c) (hrow:GRow F w ao m c zs) (hsm:n+m≤137438953472) (hbase:base≤w.heap.size)
  (h:∀ao' cap' w',w'.ownsRow base T F.k (.slice ao' (n+m) cap') (n+m) (F.all (xs++zs))→GRow F w' ao' (n+m) cap' (xs++zs)→w.grownBy w' v.ownBlock→Below base w w'→wpList P ops Q rest (a.put o.dst (.slice ao' (n+m) cap')) w') :
  wpList P ops Q (o::rest) a w:=by
 obtain ⟨i0,hi,hz0,hz1,hz2⟩:=zbw hinfo;rcases ao with _ | ad
 ·have hc0:=hrow.nil rfl;have hm0:m=0:=by have:=hrow.le; omega
  subst hc0 hm0;have hz:zs=[]:=List.eq_nil_of_length_eq_zero hrow.size;subst hz;refine wpList_append_own_none hgd s x t ho base T i0 F.k ht hi v n (F.all xs) hs hown hx ?_;obtain ⟨ao',cap',rfl⟩:=zc1 hown
  have:=h ao' cap' w (by simpa using hown) (by simpa using zD hown) (World.grownBy.refl _ _) (Below.refl _ _)
  simpa using this
 ·have hnews:∀(j:Nat) (u:Value),(F.all zs)[j]? = some u→w.cell? (ad.add j)=some u:=by
   intro j u hu;rcases hrow.cell with h0 | ⟨b,off,e,_⟩
   ·have hl:=(List.getElem?_eq_some_iff.1 hu).1;rw [F.all_length,hrow.size,h0,Nat.zero_mul] at hl;omega
   ·cases e;exact hrow.news j u hu
  have hB:(n+m)*by8≤140737488355328:=Nat.le_trans (Nat.mul_le_mul hsm hb8) (by omega);refine wpList_append_own w hgd s x t ho base T i0 Z F.k by8 ht hi hz0 hz1 hz2 hZ F.pos v n (F.all xs) hs hown ad m c (F.all zs) hx (by rw [F.all_length,hrow.size]) hnews (F.all_oneCell zs) (by unfold maxLen; omega) hB hbase ?_;intro v' w' how hgr _;rw [← F.all_append] at how;have hlt:=hown.lt;obtain ⟨ao',cap',rfl⟩:=zc1 how;exact h ao' cap' w' how (zD how) hgr ((Below.refl _ _).grown hgr hbase (by intro k hk; exact (hlt k hk).1))

theorem zI {F:Flat α} {P:Program} {ops:Array Oper} {o:Oper} {a:Act} {w:World} {K:Act→World→Prop} {Q:Exit→Act→World→Prop} {E:Prop} (hgd:o.guard=none)
  (s x:Operand) (t T:TypeId) (ho:o.op=Op.call { callee:=Callee.builtin Builtin.append,args:=#[s,x],argTypes:=#[t,t] }) (base:Nat) {Z:Value} {by8:Nat}
  (ht:P.underlying t=some (TypeDesc.slice T)) (hinfo:(P.info? T).map (fun i=>(i.zero,i.size,i.bytes))=some (some Z,F.k,by8)) (hZ:Z.cells.size=F.k) (hb8:by8≤1024)
  (v:Value) (n:Nat) (xs:List α) (hs:a.eval s=v) (hown:w.ownsRow base T F.k v n (F.all xs)) (ao:Option Addr) (m c:Nat) (zs:List α)
  (hx:a.eval x=.slice ao m c) (hrow:GRow F w ao m c zs) (hsm:n+m≤137438953472) (hbase:base≤w.heap.size)
  (h:∀ao' cap' w',w'.ownsRow base T F.k (.slice ao' (n+m) cap') (n+m) (F.all (xs++zs))→GRow F w' ao' (n+m) cap' (xs++zs)→w.grownBy w' v.ownBlock→Below base w w'→K (a.put o.dst (.slice ao' (n+m) cap')) w') :
  if Region.wanted o (yielded ops a.tmps)=true then Oper.wp P o a w K Q else E:=by
 have hw:Region.wanted o (yielded ops a.tmps)=true:=by simp [Region.wanted,hgd]
 rw [if_pos hw];obtain ⟨i0,hi,hz0,hz1,hz2⟩:=zbw hinfo;rcases ao with _ | ad
 ·have hc0:=hrow.nil rfl;have hm0:m=0:=by have:=hrow.le; omega
  subst hc0 hm0;have hz:zs=[]:=List.eq_nil_of_length_eq_zero hrow.size;subst hz;obtain ⟨ao',cap',rfl⟩:=zc1 hown;have hrun:=run_append_owned_none (P:=P) w base t o.type T i0 F.k ht hi (.slice ao' n cap') n (F.all xs) hown;have hk:K (a.put o.dst (.slice ao' n cap')) w:=by simpa using h ao' cap' w (by simpa using hown) (by simpa using zD hown) (World.grownBy.refl _ _) (Below.refl _ _)
  unfold Oper.wp
  simp [execOp,ho,resolve,invoke,builtin,hs,hx,hrun,Result.andThen]
  exact hk
 ·have hnews:∀(j:Nat) (u:Value),(F.all zs)[j]? = some u→w.cell? (ad.add j)=some u:=by
   intro j u hu;rcases hrow.cell with h0 | ⟨b,off,e,_⟩
   ·have hl:=(List.getElem?_eq_some_iff.1 hu).1;rw [F.all_length,hrow.size,h0,Nat.zero_mul] at hl;omega
   ·cases e;exact hrow.news j u hu
  have hB:(n+m)*by8≤140737488355328:=Nat.le_trans (Nat.mul_le_mul hsm hb8) (by omega);refine wp_append_own w s x t ho base T i0 Z F.k by8 ht hi hz0 hz1 hz2 hZ F.pos v n (F.all xs) hs hown ad m c (F.all zs) hx (by rw [F.all_length,hrow.size]) hnews (F.all_oneCell zs) (by unfold maxLen; omega) hB hbase ?_;intro v' w' how hgr _;rw [← F.all_append] at how;have hlt:=hown.lt;obtain ⟨ao',cap',rfl⟩:=zc1 how;exact h ao' cap' w' how (zD how) hgr ((Below.refl _ _).grown hgr hbase (by intro k hk; exact (hlt k hk).1))

theorem zax (F:Flat α) (w:World) (x:α) (cs:Array Value) (T:TypeId) (h:cs.toList=F.cs x):GRow F (w.alloc (.cells cs T)) (some ⟨w.heap.size,0,none⟩) 1 1 [x]:=by
 refine ⟨rfl,Nat.le_refl _,by unfold maxLen; omega,(by intro h; cases h),.inr ⟨w.heap.size,0,rfl,fun i y hi j v hv => ?_⟩⟩;have hi0:i=0:=by
  have:=(List.getElem?_eq_some_iff.1 hi).1
  simp at this
  exact this
 subst hi0
 simp at hi
 subst hi;rw [Nat.zero_mul,Nat.zero_add];rw [← h] at hv;have hb:=zt w (.cells cs T);simp only [World.cell?,hb]
 simpa using hv

theorem zaE (F:Flat α) (w w':World) (T:TypeId) (b:Nat) (h:w'.heap[b]? = some (.cells #[] T)) (hb:w.heap.size≤b):w'.ownsRow w.heap.size T F.k (.slice (some ⟨b,0,none⟩) 0 0) 0 (F.all []) :=
 ⟨by simp [Flat.all],.inr ⟨b,0,#[],rfl,hb,h,Nat.le_refl _,Nat.zero_le _,by simp,by simp [Flat.all]⟩⟩

section
variable {H:Type} {enc:TypeId × Value→H} {P:Program} {w:World}

end

end

section
open Go.RowKit

variable {α:Type}

theorem Flat.all_set (F:Flat α) (pre:List α) (x x':α) (post:List α) (j:Nat) (u:Value) (hj:j < F.k) (h:(F.cs x).set j u=F.cs x'):(F.all (pre++x::post)).set (pre.length*F.k+j) u=F.all (pre++x'::post):=by
 rw [F.all_append,F.all_cons,List.set_append_right _ _ (by rw [F.all_length]; omega),F.all_length,Nat.add_sub_cancel_left,List.set_append_left _ _ (by rw [F.len]; exact hj),h,F.all_append,F.all_cons]

theorem zK {F:Flat α} {w:World} {base g n cap:Nat} {T:TypeId} {pre post:List α} {x x':α} (h:w.ownsRow base T F.k (.slice (some ⟨g,0,none⟩) n cap) n (F.all (pre++x::post))) (j:Nat) (u:Value) (hj:j < F.k) (hx:(F.cs x).set j u=F.cs x') :
  (w.setCell ⟨g,pre.length*F.k+j,none⟩ u).ownsRow base T F.k (.slice (some ⟨g,0,none⟩) n cap) n (F.all (pre++x'::post)):=by
 have:=(h.stored (pre.length*F.k+j) u).1
 rw [F.all_set pre x x' post j u hj hx] at this;exact this

theorem zeB (F:Flat α) (z:α) (n:Nat):(madeCells (F.cs z).toArray (n*F.k)).toList=F.all (List.replicate n z):=by
 have hp:=F.pos
 apply List.ext_getElem?
 intro j;by_cases hj:j < n*F.k
 ·have hi:j / F.k < n:=Nat.div_lt_of_lt_mul (by rw [Nat.mul_comm]; exact hj);have hm:j % F.k < (F.cs z).length:=by rw [F.len]; exact Nat.mod_lt _ hp
  have hx:(List.replicate n z)[j / F.k]? = some z:=by rw [List.getElem?_replicate,if_pos hi]
  have hv:=List.getElem?_eq_getElem hm;have ha:=F.all_at _ _ _ hx _ _ hv;rw [show j / F.k*F.k+j % F.k=j by rw [Nat.mul_comm]; exact Nat.div_add_mod j F.k] at ha;rw [ha];simp only [madeCells,Array.toList_map,Array.toList_range,List.getElem?_map,List.getElem?_range hj,Option.map_some]
  simp [F.len]
  rw [hv]
  rfl
 ·rw [List.getElem?_eq_none (by simp [madeCells]; omega),List.getElem?_eq_none (by rw [F.all_length]; simp; omega)]

theorem zw {w w':World} {base k:Nat} {e:TypeId} {v:Value} {n:Nat} {xs:List Value} (h:w.ownsRow base e k v n xs) {row:Option Nat} (hg:w.grownBy w' row) (hlt:∀b,row=some b→b < base):w'.ownsRow base e k v n xs:=by
 refine h.kept hg ?_;cases hv:v.ownBlock with
 | none=>exact .inl rfl
 | some b =>
  refine .inr (fun e => ?_);have h1:=(h.lt b hv).1;have h2:=hlt b e.symm;omega

theorem zag {F:Flat α} {w:World} {base g n cap:Nat} {T:TypeId} {l:List α} (h:w.ownsRow base T F.k (.slice (some ⟨g,0,none⟩) n cap) n (F.all l)) {i:Nat} {x:α} (hx:l[i]? = some x) {j:Nat} {v:Value} (hv:(F.cs x)[j]? = some v):w.cell? ⟨g,i*F.k+j,none⟩=some v∧w.frozen? ⟨g,i*F.k+j,none⟩=false:=by
 have ha:=F.all_at l i x hx j v hv;have hlt:=(List.getElem?_eq_some_iff.1 ha).1;have h1:=h.1;refine ⟨?_,h.frozenAt _⟩;rw [h.cellAt _ (by rw [← h1]; exact hlt)];exact ha

theorem zdC {F:Flat α} {w:World} {base n cap:Nat} {T:TypeId} {ao:Option Addr} {l:List α} (h:w.ownsRow base T F.k (.slice ao n cap) n (F.all l)) (hn:0 < n):∃g,ao=some ⟨g,0,none⟩∧base≤g∧g < w.heap.size:=by
 have hlt:=h.lt;rcases h.2 with ⟨e,h0⟩ | ⟨g,cap',cur,e,hg,_⟩
 ·omega
 ·cases e;exact ⟨g,rfl,hg,(hlt g rfl).2⟩

end

theorem zhU {w:World} {o:Obj} {i:Nat} (h:i=w.heap.size):(w.alloc o).heap[i]? = some o:=by subst h; exact zt w o

theorem zbf {w:World} {o:Obj} {i:Nat} (h:w.heap[i]? = some o):w.drew.heap[i]? = some o:=h

def lenB (n:Nat):List Int:=if n < 128 then [(n:Int)] else [129,(n:Int)]
def zgX (b:List Int) (tag:Int) (body:List Int):List Int :=
 if tag < 0∨255 < tag∨250 < body.length then b else b++([tag]++lenB body.length++body)

def sgn (b:Int):Int:=if 127 < b then b - 256 else b
def val (zs:List Int):Nat→Int
 | 0=>sgn (zs.getD 0 0)
 | k+1=>val zs k*256+zs.getD (k+1) 0

structure VD where
 r:Int
 c:Int
 h:Int
 b:Int
 p:Int

def okVc (r c h b p:Int):Bool:=decide (1≤r∧r≤99) && (decide (0≤c∧c≤100000) && (decide (0≤h∧h≤10) && (decide (1≤b∧b≤99) && decide (0≤p∧p≤7))))
def zlA (r c h b p:Int):List Int:=zgX (zgX (zgX (zgX (zgX [] 2 (zgW r)) 2 (zgW c)) 2 (zgW h)) 2 (zgW b)) 2 (zgW p)
def putVc (r c h b p:Int):List Int:=if okVc r c h b p=true then zlA r c h b p else []

theorem zfy {r c h b p:Int} (k:okVc r c h b p=true):(1≤r∧r≤99)∧(0≤c∧c≤100000)∧(0≤h∧h≤10)∧(1≤b∧b≤99)∧(0≤p∧p≤7):=by
 unfold okVc at k;simp only [Bool.and_eq_true,decide_eq_true_eq] at k;exact k

theorem zh (x lo hi:Int) (w:World) :
  Calls Tryz.prog 40 #[.int .i64 x,.int .i64 lo,.int .i64 hi] w fun e w'=>e=.returned (.bool (decide (lo≤x) && decide (x≤hi)))∧w'=w:=by
 by_cases h1:lo≤x
 ·go_enter Tryz.func40,Tryz.ntmps40;go_wp2;go_ret;exact ⟨zH (by simp [h1]),rfl⟩
 ·go_enter Tryz.func40,Tryz.ntmps40;go_wp2;go_ret;exact ⟨zH (by rw [decide_eq_false (show ¬lo≤x by omega)]; rfl),rfl⟩

end Go.Proofs.YtkcoehmpnkdinaaGreat
