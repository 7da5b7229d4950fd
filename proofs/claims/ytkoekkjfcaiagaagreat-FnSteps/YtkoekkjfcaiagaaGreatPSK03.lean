/-
  Packed: OwnGen ImplIn PtLaws BrLaws VecNums VecNear VecOk VecStep PtOkI.
-/
import Derived.Test.YtkoekkjfcaiagaaGreatPSK01
import Derived.Test.YtkoekkjfcaiagaaGreatPSK02
import Derived.Deep.RegionHeld3
import Derived.Deep.CutRange
import Derived.Lib.MinMax
namespace Go.Proofs.YtkoekkjfcaiagaaGreat
set_option maxRecDepth 100000
set_option maxHeartbeats 16000000
open Go.RowKit

def blkL (ao:Option Addr):List Nat:=match ao with | some a=>[a.block] | none=>[]

theorem zap {ao:Option Addr} {n c b:Nat}:(Value.slice ao n c).ownBlock=some b↔b∈blkL ao:=by
 cases ao <;> simp [Value.ownBlock,blkL,eq_comm]

structure Only (bs:List Nat) (w w':World):Prop where
 os:w'.os=w.os
 tape:w'.tape=w.tape
 output:w'.output=w.output
 size:w.heap.size≤w'.heap.size
 block:∀k,k < w.heap.size→k∉bs→w'.heap[k]?=w.heap[k]?

theorem Only.refl (bs:List Nat) (w:World):Only bs w w:=⟨rfl,rfl,rfl,Nat.le_refl _,fun _ _ _=>rfl⟩
theorem Only.trans {bs:List Nat} {a b c:World} (h:Only bs a b) (k:Only bs b c):Only bs a c :=
 ⟨k.os.trans h.os,k.tape.trans h.tape,k.output.trans h.output,Nat.le_trans h.size k.size,fun i hi hn=>(k.block i (Nat.lt_of_lt_of_le hi h.size) hn).trans (h.block i hi hn)⟩
theorem Only.wider {bs cs:List Nat} {a b:World} (h:Only bs a b) (hs:∀x∈bs,x∈cs):Only cs a b :=
 ⟨h.os,h.tape,h.output,h.size,fun k hk hn=>h.block k hk (fun hb=>hn (hs k hb))⟩
theorem Only.of_below {bs:List Nat} {a b:World} (h:Below a.heap.size a b):Only bs a b:=⟨h.os,h.tape,h.output,h.size,fun k hk _=>h.block k hk⟩
theorem Only.of_grown {ao:Option Addr} {n c:Nat} {a b:World} (h:a.grownBy b (Value.slice ao n c).ownBlock):Only (blkL ao) a b :=
 ⟨h.os,h.tape,h.output,h.size,fun k hk hn=>h.block k hk (fun e=>hn (zap.1 e.symm))⟩
theorem Only.set (w:World) (g j:Nat) (u:Value):Only [g] w (w.setCell ⟨g,j,none⟩ u) :=
 ⟨rfl,rfl,rfl,by simp,fun k _ hn=>Below.heap_setCell _ _ _ _ (by intro e; exact hn (by simp [e]))⟩
theorem Only.below {bs:List Nat} {w w':World} (h:Only bs w w') {B:Nat} (hB:B≤w.heap.size) (hs:∀b∈bs,B≤b):Below B w w' :=
 ⟨h.os,h.tape,h.output,h.size,fun k hk=>h.block k (by omega) (fun hb=>by have:=hs k hb; omega)⟩
theorem Only.kept {bs:List Nat} {w w':World} (h:Only bs w w') {i:Nat} {o:Obj} (hi:w.heap[i]?=some o) (hn:i∉bs):w'.heap[i]?=some o:=by
 rw [h.block i (Array.getElem?_eq_some_iff.1 hi).1 hn]; exact hi
theorem Only.own {bs:List Nat} {w w':World} {base:Nat} {e:TypeId} {size:Nat} {v:Value} {n:Nat} {xs:List Value} (h:Only bs w w') (ho:w.ownsRow base e size v n xs) (hn:∀k,v.ownBlock=some k→k∉bs):w'.ownsRow base e size v n xs:=by
 obtain ⟨hl,h0 | ⟨g,cap,cur,rfl,hg,hh,r⟩⟩:=ho
 ·exact ⟨hl,.inl h0⟩
 ·exact ⟨hl,.inr ⟨g,cap,cur,rfl,hg,h.kept hh (hn g rfl),r⟩⟩

theorem zhU {w w':World} {base:Nat} {e:TypeId} {size:Nat} {v:Value} {n:Nat} {xs:List Value} (h:w.ownsRow base e size v n xs) (hb:Below w.heap.size w w'):w'.ownsRow base e size v n xs :=
 (Only.of_below (bs:=[]) hb).own h (by intro k _ hk; cases hk)
theorem zka {w:World} {base:Nat} {e:TypeId} {size:Nat} {v:Value} {n:Nat} {xs:List Value} (h:w.ownsRow base e size v n xs) {base':Nat} (hle:base'≤base):w.ownsRow base' e size v n xs:=by
 obtain ⟨hl,h | ⟨g,cap,cur,rfl,hg,r⟩⟩:=h
 ·exact ⟨hl,.inl h⟩
 ·exact ⟨hl,.inr ⟨g,cap,cur,rfl,by omega,r⟩⟩

theorem zb1 {w:World} {base base':Nat} {e e':TypeId} {s s':Nat} {v v':Value} {n n':Nat} {xs xs':List Value} (h:w.ownsRow base e s v n xs) (h':w.ownsRow base' e' s' v' n' xs') (hne:e≠e') {k:Nat} (hk:v.ownBlock=some k):v'.ownBlock≠some k:=by
 intro hk';rcases h.2 with ⟨rfl,_⟩ | ⟨g,cap,cur,rfl,_,hh,_⟩
 ·cases hk
 ·rcases h'.2 with ⟨rfl,_⟩ | ⟨g',cap',cur',rfl,_,hh',_⟩
  ·cases hk'
  ·simp only [Value.ownBlock,Option.some.injEq] at hk hk';subst hk hk';rw [hh] at hh';cases hh';exact hne rfl

theorem zD (n lo hi:Int) (w:World):Calls Tryz.prog 42 #[.int .i64 n,.int .i64 lo,.int .i64 hi] w fun e w'=>e=.returned (.bool (decide (lo≤n) && decide (n≤hi)))∧w'=w:=by
 by_cases h1:lo≤n
 ·by_cases h2:n≤hi
  ·rw [decide_eq_true h1,decide_eq_true h2];go_enter Tryz.func42,Tryz.ntmps42;go_wp2;go_ret;exact ⟨rfl,rfl⟩
  ·rw [decide_eq_true h1,decide_eq_false h2];go_enter Tryz.func42,Tryz.ntmps42;go_wp2;go_ret;exact ⟨rfl,rfl⟩
 ·rw [decide_eq_false h1,Bool.false_and];go_enter Tryz.func42,Tryz.ntmps42;go_wp2;go_ret;exact ⟨rfl,rfl⟩

theorem zfj {id:Int} {l:List PT}:∀{k:Nat} {f:VD} {j:Nat},zbe id l k=some (f,j)→∃x,l[j]?=some x∧offers id x=true∧f=stepV x.v x.k
 | 0,f,j,h=>by simp [zbe] at h
 | k+1,f,j,h=>by
  rw [zbe] at h;cases hx:l[k]? with
  | none=>rw [hx] at h; exact zfj (k:=k) h
  | some x =>
   rw [hx] at h;simp only [zbv] at h;by_cases ho:offers id x=true
   ·rw [if_pos ho] at h;cases hs:zbe id l k with
    | none =>
     rw [hs] at h
     simp at h
     obtain ⟨rfl,rfl⟩:=h;exact ⟨x,hx,ho,rfl⟩
    | some s =>
     obtain ⟨g,i⟩:=s;rw [hs] at h
     simp only at h
     split at h
     ·simp at h
      obtain ⟨rfl,rfl⟩:=h;exact ⟨x,hx,ho,rfl⟩
     ·simp at h
      obtain ⟨rfl,rfl⟩:=h;exact zfj hs
   ·rw [if_neg ho] at h;exact zfj h

theorem zf4 {id:Int} {x:PT} (h:offers id x=true):x.up=true∧x.has=true∧zcX x.v x.k=true∧x.v.r < id:=by
 unfold offers at h;simp only [Bool.and_eq_true,decide_eq_true_eq] at h;exact h

theorem zhv {id:Int} {l:List PT} (port:Int):1≤zaL id l port∧zaL id l port≤4:=by
 unfold zaL
 split
 ·split
  ·unfold zcU
   repeat' split
   all_goals omega
  ·omega
 ·omega

def zcV (f:Nat→Bool):Nat→Int
 | 0=>0
 | k+1=>if f k=true then bits .or .i64 (zcV f k) (2 ^ k) else zcV f k

theorem zhx (id:Int) (l:List PT):∀k,zaY id l k=zcV (fun i=>decide (zaL id l (i:Int)≤2)) k
 | 0=>rfl
 | k+1=>by
  rw [zaY,zcV,zhx id l k]
  simp

theorem zfc (f g:Nat→Bool):∀k,(∀i,i < k→f i=g i)→zcV f k=zcV g k
 | 0,_=>rfl
 | k+1,h=>by
  rw [zcV,zcV,zfc f g k (fun i hi=>h i (by omega)),h k (by omega)]

def six (b0 b1 b2 b3 b4 b5:Bool):Nat→Bool
 | 0=>b0
 | 1=>b1
 | 2=>b2
 | 3=>b3
 | 4=>b4
 | _=>b5

def zad (n:Int):Int:=if n≥1000000 then n else n+1

def zaD (bits:Int) (l:List FE):Nat→List FE
 | 0=>l
 | k+1=>if bitOf bits (k:Int)=true then zaD bits l k else zZ (zaD bits l k) (k:Int)

def turned (b:BR):BR:={ b with vers:=zad b.vers,f:=zaD (zbd b.id b.ports) b.f b.ports.length }

def zaW (b:BR) (port:Int):Bool:=zx b && (decide (0≤port) && decide (port≤(b.ports.length:Int) - 1))

def hearB (b:BR) (port:Int) (v:VD):BR :=
 if zaW b port=true then
  match b.ports[port.toNat]? with
  | some x=>if (x.up && okVd v)=true then turned { b with ports:=b.ports.set port.toNat ⟨x.up,x.k,true,v⟩ } else b
  | none=>b
 else b

def linkB (b:BR) (port:Int) (up:Bool):BR :=
 if zaW b port=true then
  match b.ports[port.toNat]? with
  | some x=>turned { b with ports:=b.ports.set port.toNat ⟨up,x.k,false,⟨0,0,0,0,0⟩⟩ }
  | none=>b
 else b

def tickB (b:BR):BR:=if zx b=true then turned { b with ticks:=zad b.ticks,f:=ageF b.f } else b

theorem zhg (x:Int):in1m x=true↔0≤x∧x≤1000000:=by
 unfold in1m
 simp

theorem ze3 {n:Int} (h:in1m n=true):in1m (zad n)=true:=by
 rw [zhg] at *;unfold zad
 split <;> omega

theorem zdF (bits:Int) {l:List FE} (h:fdbOk l=true):∀k,fdbOk (zaD bits l k)=true
 | 0=>h
 | k+1=>by
  rw [zaD]
  split
  ·exact zdF bits h k
  ·exact zjl (zdF bits h k) _

theorem zb8 (bits:Int) (l:List FE):∀k,(zaD bits l k).Sublist l
 | 0=>List.Sublist.refl _
 | k+1=>by
  rw [zaD]
  split
  ·exact zb8 bits l k
  ·exact List.Sublist.trans List.filter_sublist (zb8 bits l k)

theorem zae {b:BR} (h:zx b=true):b.ports.all ptOk=true∧in3 b.id 1 99=true∧(b.name.size:Int)≤10∧in3 (b.ports.length:Int) 1 6=true∧fdbOk b.f=true∧zaw b.v (b.ports.length:Int)=true∧in1m b.ticks=true∧in1m b.parse=true∧in1m b.word=true∧in1m b.drops=true∧in1m b.vers=true:=by
 unfold zx zan at h;simp only [Bool.and_eq_true,decide_eq_true_eq] at h;obtain ⟨h1,h2,h3,h4,h5,h6,h7,h8,h9,h10,h11⟩:=h;exact ⟨h1,h2,h3,h4,h5,h6,h7,h8,h9,h10,h11⟩

theorem zc2 {b:BR} (h:b.ports.all ptOk=true∧in3 b.id 1 99=true∧(b.name.size:Int)≤10∧in3 (b.ports.length:Int) 1 6=true∧fdbOk b.f=true∧zaw b.v (b.ports.length:Int)=true∧in1m b.ticks=true∧in1m b.parse=true∧in1m b.word=true∧in1m b.drops=true∧in1m b.vers=true):zx b=true:=by
 obtain ⟨h1,h2,h3,h4,h5,h6,h7,h8,h9,h10,h11⟩:=h;unfold zx zan;rw [h1,h2,decide_eq_true h3,h4,h5,h6,h7,h8,h9,h10,h11]
 rfl

theorem zeC {b:BR} (h:zx b=true):zx (turned b)=true:=by
 obtain ⟨h1,h2,h3,h4,h5,h6,h7,h8,h9,h10,h11⟩:=zae h;exact zc2 ⟨h1,h2,h3,h4,zdF _ h5 _,h6,h7,h8,h9,h10,ze3 h11⟩

theorem zfx {b:BR} (h:zx b=true) {i:Nat} {y:PT} (hy:ptOk y=true):zx { b with ports:=b.ports.set i y }=true:=by
 obtain ⟨h1,h2,h3,h4,h5,h6,h7,h8,h9,h10,h11⟩:=zae h;refine zc2 ⟨?_,h2,h3, ?_,h5, ?_,h7,h8,h9,h10,h11⟩
 ·rw [List.all_eq_true] at h1 ⊢;intro x hx;rcases List.mem_or_eq_of_mem_set hx with hx | rfl
  ·exact h1 x hx
  ·exact hy
 ·simpa using h4
 ·simpa using h6

theorem zgT {b:BR} (h:zx b=true) {i:Nat} {x:PT} (hx:b.ports[i]?=some x):ptOk x=true:=by
 have h1:=(zae h).1;rw [List.all_eq_true] at h1;exact h1 x (List.mem_of_getElem? hx)

theorem zjZ {x:PT} {v:VD} (h:ptOk x=true) (hu:x.up=true) (hv:okVd v=true):ptOk ⟨x.up,x.k,true,v⟩=true:=by
 unfold ptOk at *;simp only [Bool.and_eq_true] at h
 simp [h.1,hu,hv]

theorem zj3 {x:PT} (up:Bool) (h:ptOk x=true):ptOk ⟨up,x.k,false,⟨0,0,0,0,0⟩⟩=true:=by
 unfold ptOk at *;simp only [Bool.and_eq_true] at h
 simp [h.1,zdS]

theorem zhy {b:BR} {port:Int} (h:zaW b port=true):zx b=true:=by
 unfold zaW at h;simp only [Bool.and_eq_true] at h;exact h.1

theorem zjn {b:BR} (h:zx b=true) (port:Int) (v:VD):zx (hearB b port v)=true:=by
 unfold hearB
 split
 ·split
  ·next x hx =>
   split
   ·next hu =>
    simp only [Bool.and_eq_true] at hu;exact zeC (zfx h (zjZ (zgT h hx) hu.1 hu.2))
   ·exact h
  ·exact h
 ·exact h

theorem zhi {b:BR} (h:zx b=true) (port:Int) (up:Bool):zx (linkB b port up)=true:=by
 unfold linkB
 split
 ·split
  ·next x hx=>exact zeC (zfx h (zj3 up (zgT h hx)))
  ·exact h
 ·exact h

theorem zjI {b:BR} (h:zx b=true):zx (tickB b)=true:=by
 unfold tickB;rw [if_pos h];obtain ⟨h1,h2,h3,h4,h5,h6,h7,h8,h9,h10,h11⟩:=zae h;exact zeC (zc2 ⟨h1,h2,h3,h4,zkh h5,h6,ze3 h7,h8,h9,h10,h11⟩)

theorem zfu (R C H B P:Int) (w:World) :
  Calls Tryz.prog 184 #[.agg #[.int .i64 R,.int .i64 C,.int .i64 H,.int .i64 B,.int .i64 P]] w fun e w'=>e=.returned (.agg #[.int .i64 R,.int .i64 C,.int .i64 H,.int .i64 B,.int .i64 P])∧Below w.heap.size w w':=by
 go_enter Tryz.func184,Tryz.ntmps184;go_wp2;exact bodyPost_ret (v:=.agg #[.int .i64 R,.int .i64 C,.int .i64 H,.int .i64 B,.int .i64 P]) (by simp [results,Tryz.results184,go_sem, *]) rfl ⟨rfl,zP _ _ _⟩

theorem zf3 (R C H B P:Int) (w:World) :
  Calls Tryz.prog 184 #[.agg #[.int .i64 R,.int .i64 C,.int .i64 H,.int .i64 B,.int .i64 P]] w fun e w'=>e=.returned (.agg #[.int .i64 R,.int .i64 C,.int .i64 H,.int .i64 B,.int .i64 P]) ∧
   w'=(w.alloc (.cells #[.int .i64 R,.int .i64 C,.int .i64 H,.int .i64 B,.int .i64 P] 65)).alloc (.cells #[.int .i64 R,.int .i64 C,.int .i64 H,.int .i64 B,.int .i64 P] 135):=by
 go_enter Tryz.func184,Tryz.ntmps184;go_wp2;exact bodyPost_ret (v:=.agg #[.int .i64 R,.int .i64 C,.int .i64 H,.int .i64 B,.int .i64 P]) (by simp [results,Tryz.results184,go_sem, *]) rfl ⟨rfl,rfl⟩

theorem ziW (R C H B P:Int) (w:World) :
  Calls Tryz.prog 185 #[.agg #[.int .i64 R,.int .i64 C,.int .i64 H,.int .i64 B,.int .i64 P]] w fun e w'=>e=.returned (.agg #[.int .i64 R,.int .i64 C,.int .i64 H,.int .i64 B,.int .i64 P])∧Below w.heap.size w w':=by
 go_enter Tryz.func185,Tryz.ntmps185;go_wp2;exact bodyPost_ret (v:=.agg #[.int .i64 R,.int .i64 C,.int .i64 H,.int .i64 B,.int .i64 P]) (by simp [results,Tryz.results185,go_sem, *]) rfl ⟨rfl,zP _ _ _⟩

theorem zjo (R C H B P:Int) (w:World):(Instr.index 135 (.agg #[.int .i64 R,.int .i64 C,.int .i64 H,.int .i64 B,.int .i64 P]) (.int .i64 0)).run Tryz.prog w=.ok (.int .i64 R) w:=by kernel_rfl
theorem zjp (R C H B P:Int) (w:World):(Instr.index 135 (.agg #[.int .i64 R,.int .i64 C,.int .i64 H,.int .i64 B,.int .i64 P]) (.int .i64 1)).run Tryz.prog w=.ok (.int .i64 C) w:=by kernel_rfl
theorem zjq (R C H B P:Int) (w:World):(Instr.index 135 (.agg #[.int .i64 R,.int .i64 C,.int .i64 H,.int .i64 B,.int .i64 P]) (.int .i64 2)).run Tryz.prog w=.ok (.int .i64 H) w:=by kernel_rfl
theorem zjr (R C H B P:Int) (w:World):(Instr.index 135 (.agg #[.int .i64 R,.int .i64 C,.int .i64 H,.int .i64 B,.int .i64 P]) (.int .i64 3)).run Tryz.prog w=.ok (.int .i64 B) w:=by kernel_rfl
theorem zjs (R C H B P:Int) (w:World):(Instr.index 135 (.agg #[.int .i64 R,.int .i64 C,.int .i64 H,.int .i64 B,.int .i64 P]) (.int .i64 4)).run Tryz.prog w=.ok (.int .i64 P) w:=by kernel_rfl

abbrev zkw:Array Value:=#[.int .i64 1,.int .i64 0,.int .i64 0,.int .i64 1,.int .i64 0]
abbrev mostC:Array Value:=#[.int .i64 99,.int .i64 100000,.int .i64 10,.int .i64 99,.int .i64 7]
abbrev endsC:Array Value:=#[.int .i64 1,.int .i64 0,.int .i64 0,.int .i64 1,.int .i64 0,.int .i64 99,.int .i64 100000,.int .i64 10,.int .i64 99,.int .i64 7]

def cl (n lo hi:Int):Int:=min (max n lo) hi

def nearC (R C H B P:Int) (k:Nat):Array Value :=
 #[.int .i64 (if 0 < k then cl R 1 99 else R),.int .i64 (if 1 < k then cl C 0 100000 else C),.int .i64 (if 2 < k then cl H 0 10 else H),.int .i64 (if 3 < k then cl B 1 99 else B),.int .i64 (if 4 < k then cl P 0 7 else P)]

theorem zh9 {w:World} {C:Nat} {t:TypeId} {c0 c1 c2 c3 c4 c5 c6 c7 c8 c9:Value} (h:w.heap[C]?=some (.cells #[c0,c1,c2,c3,c4,c5,c6,c7,c8,c9] t)) :
  w.cell? ⟨C,0,none⟩=some c0∧w.cell? ⟨C,1,none⟩=some c1∧w.cell? ⟨C,2,none⟩=some c2∧w.cell? ⟨C,3,none⟩=some c3∧w.cell? ⟨C,4,none⟩=some c4∧w.cell? ⟨C,5,none⟩=some c5∧w.cell? ⟨C,6,none⟩=some c6∧w.cell? ⟨C,7,none⟩=some c7∧w.cell? ⟨C,8,none⟩=some c8∧w.cell? ⟨C,9,none⟩=some c9:=by
 refine ⟨?_, ?_, ?_, ?_, ?_, ?_, ?_, ?_, ?_, ?_⟩ <;> simp [World.cell?,h]

theorem zgQ (R C H B P:Int) (w:World) :
  Calls Tryz.prog 146 #[.agg #[.int .i64 R,.int .i64 C,.int .i64 H,.int .i64 B,.int .i64 P]] w fun e w'=>e=.returned (.agg #[.int .i64 (cl R 1 99),.int .i64 (cl C 0 100000),.int .i64 (cl H 0 10),.int .i64 (cl B 1 99),.int .i64 (cl P 0 7)])∧Below w.heap.size w w':=by
 have q3:=zbb w (.cells #[.int .i64 R,.int .i64 C,.int .i64 H,.int .i64 B,.int .i64 P] 65) (.cells #[.int .i64 0,.int .i64 0,.int .i64 0,.int .i64 0,.int .i64 0] 65) (.cells endsC 206);obtain ⟨k0,k1,k2⟩:=zbL (Below.refl _ (((w.alloc (.cells #[.int .i64 R,.int .i64 C,.int .i64 H,.int .i64 B,.int .i64 P] 65)).alloc (.cells #[.int .i64 0,.int .i64 0,.int .i64 0,.int .i64 0,.int .i64 0] 65)).alloc (.cells endsC 206)));have hn:(((w.alloc (.cells #[.int .i64 R,.int .i64 C,.int .i64 H,.int .i64 B,.int .i64 P] 65)).alloc (.cells #[.int .i64 0,.int .i64 0,.int .i64 0,.int .i64 0,.int .i64 0] 65)).alloc (.cells endsC 206)).heap.size=w.heap.size+3:=by simp
 have HQ:=hide q3;have HK0:=hide k0;have HK1:=hide k1;have HN:=hide hn;clear q3 k0 k1 hn;go_enter Tryz.func146,Tryz.ntmps146;go_upto_region 2 with fail
 generalize (((w.alloc (.cells #[.int .i64 R,.int .i64 C,.int .i64 H,.int .i64 B,.int .i64 P] 65)).alloc (.cells #[.int .i64 0,.int .i64 0,.int .i64 0,.int .i64 0,.int .i64 0] 65)).alloc (.cells endsC 206))=w3 at *;obtain ⟨x0,x1,x2,x3,x4,x5,x6,x7,x8,x9⟩:=zh9 k2;have K2:=hide k2;clear k2
 go_cut [4,5] from 9 to 38 (fun s t wc=>∃p4 p5:Nat,s=.pointer (some ⟨p4,0,none⟩)∧t=.pointer (some ⟨p5,0,none⟩)∧wc.heap[p4]?=some (.cells zkw 135)∧wc.heap[p5]?=some (.cells mostC 135)∧¬p4=p5∧w3.heap.size≤p4∧w3.heap.size≤p5∧Below w3.heap.size w3 wc)
 case first =>
  go_region_held3 (fun W=>W.cell? ⟨w.heap.size+1+1,0,none⟩=some (.int .i64 1)∧W.cell? ⟨w.heap.size+1+1,1,none⟩=some (.int .i64 0)∧W.cell? ⟨w.heap.size+1+1,2,none⟩=some (.int .i64 0)∧W.cell? ⟨w.heap.size+1+1,3,none⟩=some (.int .i64 1)∧W.cell? ⟨w.heap.size+1+1,4,none⟩=some (.int .i64 0)∧W.cell? ⟨w.heap.size+1+1,5,none⟩=some (.int .i64 99)∧W.cell? ⟨w.heap.size+1+1,6,none⟩=some (.int .i64 100000)∧W.cell? ⟨w.heap.size+1+1,7,none⟩=some (.int .i64 10)∧W.cell? ⟨w.heap.size+1+1,8,none⟩=some (.int .i64 99)∧W.cell? ⟨w.heap.size+1+1,9,none⟩=some (.int .i64 7))
   (first | assumption | exact zh9 (za K2.out (by repeat (first | exact Below.refl _ _ | refine zp ?_ | refine zb9 ?_ _))) | go_keep) (first
   | (go_at_call 184; refine (zf3 _ _ _ _ _ _).mono ?_; rintro e wx ⟨rfl,rfl⟩))
  all_goals
   (go_wp2_with fail)
   go_meet
   refine ⟨_,_,rfl,rfl,by repeat (first | (refine zg5 ?_; simp; done) | refine za ?_ (zm _ _) | refine zbg ?_),by repeat (first | (refine zg5 ?_; simp; done) | refine za ?_ (zm _ _) | refine zbg ?_),by omega,by omega,by omega,by repeat (first | exact Below.refl _ _ | refine zp ?_ | refine zb9 ?_ _)⟩
 case rest =>
  obtain ⟨p4,p5,rfl,rfl,h4,h5,hne,hp4,hp5,hbc⟩:=hcut;have hn:=HN.out;have hsz:=hbc.size;obtain ⟨⟨v0,v1,v2,v3,v4⟩,-⟩:=zC (za HK0.out hbc);clear x0 x1 x2 x3 x4 x5 x6 x7 x8 x9;(go_wp2_with fail);refine (zfu R C H B P _).mono ?_;rintro e w6 ⟨rfl,hb6⟩;have hs6:=hb6.size;have q6:=zc hbc hb6;have k4:=za (za h4 hb6) (zm w6 (.cells #[.int .i64 R,.int .i64 C,.int .i64 H,.int .i64 B,.int .i64 P] 135));have k5:=za (za h5 hb6) (zm w6 (.cells #[.int .i64 R,.int .i64 C,.int .i64 H,.int .i64 B,.int .i64 P] 135));have k6:=zw w6 (.cells #[.int .i64 R,.int .i64 C,.int .i64 H,.int .i64 B,.int .i64 P] 135);have k1:=za (za HK1.out q6) (zm w6 (.cells #[.int .i64 R,.int .i64 C,.int .i64 H,.int .i64 B,.int .i64 P] 135));have hq:=HQ.out;have lt4:p4 < w6.heap.size:=(Array.getElem?_eq_some_iff.1 (za h4 hb6)).1;have lt5:p5 < w6.heap.size:=(Array.getElem?_eq_some_iff.1 (za h5 hb6)).1;clear v0 v1 v2 v3 v4 hb6;(go_wp2_with fail)
  go_loopw [21] (fun i wr=>∃k:Nat,k≤5∧i=.int .i64 k∧wr.heap[w6.heap.size]?=some (.cells (nearC R C H B P k) 135)∧(w6.alloc (.cells #[.int .i64 R,.int .i64 C,.int .i64 H,.int .i64 B,.int .i64 P] 135)).grownBy wr (some w6.heap.size)) (fun i _=>5 - (intOf i).toNat)
  case atStart=>exact ⟨0,Nat.zero_le _,rfl,k6,World.grownBy.refl _ _⟩
  case round =>
   obtain ⟨k,hk,hi,hc6,hg⟩:=hrel;have c4:=ze k4 hg (by intro j e; cases e; omega);have c5:=ze k5 hg (by intro j e; cases e; omega);have c1:=ze k1 hg (by intro j e; cases e; omega);have HG:=hide hg;obtain ⟨⟨y0,y1,y2,y3,y4⟩,-⟩:=zC c4;obtain ⟨⟨z0,z1,z2,z3,z4⟩,-⟩:=zC c5;have H6:=hide hc6;have H1:=hide c1;clear c4 c5 k4 k5 k6 k1 h4 h5 hg c1 hc6;rcases (show k=0∨k=1∨k=2∨k=3∨k=4∨k=5 by omega) with rfl | rfl | rfl | rfl | rfl | rfl
   ·have hi:_=Value.int .i64 0:=hi;subst hi;have h6:wr.heap[w6.heap.size]?=some (.cells #[.int .i64 R,.int .i64 C,.int .i64 H,.int .i64 B,.int .i64 P] 135):=H6.out;obtain ⟨⟨u0,u1,u2,u3,u4⟩,f0,f1,f2,f3,f4⟩:=zC h6;clear h6;have ix:=zjo R C H B P wr;(go_wp2_with fail)
    go_region
    go_wp2
    go_roundw
    case rel =>
     refine ⟨0+1,by omega,by go_num, ?_,zL (zL HG.out (zn _ _)) (zca (zp (Below.refl _ _)))⟩
     have:=zE (j:=0) H6.out (.int .i64 (cl R 1 99))
     exact zbg this
    case measure=>simp [intOf]
   ·have hi:_=Value.int .i64 1:=hi;subst hi;have h6:wr.heap[w6.heap.size]?=some (.cells #[.int .i64 (cl R 1 99),.int .i64 C,.int .i64 H,.int .i64 B,.int .i64 P] 135):=H6.out;obtain ⟨⟨u0,u1,u2,u3,u4⟩,f0,f1,f2,f3,f4⟩:=zC h6;clear h6;have ix:=zjp R C H B P wr;(go_wp2_with fail)
    go_region
    go_wp2
    go_roundw
    case rel =>
     refine ⟨1+1,by omega,by go_num, ?_,zL (zL HG.out (zn _ _)) (zca (zp (Below.refl _ _)))⟩
     have:=zE (j:=1) H6.out (.int .i64 (cl C 0 100000))
     exact zbg this
    case measure=>simp [intOf]
   ·have hi:_=Value.int .i64 2:=hi;subst hi;have h6:wr.heap[w6.heap.size]?=some (.cells #[.int .i64 (cl R 1 99),.int .i64 (cl C 0 100000),.int .i64 H,.int .i64 B,.int .i64 P] 135):=H6.out;obtain ⟨⟨u0,u1,u2,u3,u4⟩,f0,f1,f2,f3,f4⟩:=zC h6;clear h6;have ix:=zjq R C H B P wr;(go_wp2_with fail)
    go_region
    go_wp2
    go_roundw
    case rel =>
     refine ⟨2+1,by omega,by go_num, ?_,zL (zL HG.out (zn _ _)) (zca (zp (Below.refl _ _)))⟩
     have:=zE (j:=2) H6.out (.int .i64 (cl H 0 10))
     exact zbg this
    case measure=>simp [intOf]
   ·have hi:_=Value.int .i64 3:=hi;subst hi;have h6:wr.heap[w6.heap.size]?=some (.cells #[.int .i64 (cl R 1 99),.int .i64 (cl C 0 100000),.int .i64 (cl H 0 10),.int .i64 B,.int .i64 P] 135):=H6.out;obtain ⟨⟨u0,u1,u2,u3,u4⟩,f0,f1,f2,f3,f4⟩:=zC h6;clear h6;have ix:=zjr R C H B P wr;(go_wp2_with fail)
    go_region
    go_wp2
    go_roundw
    case rel =>
     refine ⟨3+1,by omega,by go_num, ?_,zL (zL HG.out (zn _ _)) (zca (zp (Below.refl _ _)))⟩
     have:=zE (j:=3) H6.out (.int .i64 (cl B 1 99))
     exact zbg this
    case measure=>simp [intOf]
   ·have hi:_=Value.int .i64 4:=hi;subst hi;have h6:wr.heap[w6.heap.size]?=some (.cells #[.int .i64 (cl R 1 99),.int .i64 (cl C 0 100000),.int .i64 (cl H 0 10),.int .i64 (cl B 1 99),.int .i64 P] 135):=H6.out;obtain ⟨⟨u0,u1,u2,u3,u4⟩,f0,f1,f2,f3,f4⟩:=zC h6;clear h6;have ix:=zjs R C H B P wr;(go_wp2_with fail)
    go_region
    go_wp2
    go_roundw
    case rel =>
     refine ⟨4+1,by omega,by go_num, ?_,zL (zL HG.out (zn _ _)) (zca (zp (Below.refl _ _)))⟩
     have:=zE (j:=4) H6.out (.int .i64 (cl P 0 7))
     exact zbg this
    case measure=>simp [intOf]
   ·have hi:_=Value.int .i64 5:=hi;subst hi;have h6:wr.heap[w6.heap.size]?=some (.cells #[.int .i64 (cl R 1 99),.int .i64 (cl C 0 100000),.int .i64 (cl H 0 10),.int .i64 (cl B 1 99),.int .i64 (cl P 0 7)] 135):=H6.out;obtain ⟨⟨u0,u1,u2,u3,u4⟩,f0,f1,f2,f3,f4⟩:=zC h6;clear h6;(go_wp2_with fail);refine (ziW (cl R 1 99) (cl C 0 100000) (cl H 0 10) (cl B 1 99) (cl P 0 7) _).mono ?_;rintro e w9 ⟨rfl,hb9⟩;obtain ⟨⟨t0,t1,t2,t3,t4⟩,g0,g1,g2,g3,g4⟩:=zC (za H1.out hb9);have b9:=zc hq (zc q6 (zc (zjV (zm w6 _) HG.out (Nat.le_refl _)) hb9));have HB:=hide b9;clear u0 u1 u2 u3 u4 f0 f1 f2 f3 f4 hb9 b9;go_wp2;exact bodyPost_ret (v:=.agg #[.int .i64 (cl R 1 99),.int .i64 (cl C 0 100000),.int .i64 (cl H 0 10),.int .i64 (cl B 1 99),.int .i64 (cl P 0 7)]) (by simp [results,Tryz.results146,go_sem, *]) rfl ⟨rfl,zag HB.out (by omega) _ _ _ _ _⟩

theorem zeb (n lo hi:Int) (h:lo≤hi):(n == cl n lo hi)=(decide (lo≤n) && decide (n≤hi)):=by
 unfold cl;rw [Bool.eq_iff_iff]
 simp
 omega

theorem ziA (R C H B P:Int):((R == cl R 1 99) && ((C == cl C 0 100000) && ((H == cl H 0 10) && ((B == cl B 1 99) && (P == cl P 0 7)))))=okVc R C H B P:=by
 rw [ziz,zeb _ _ _ (by omega),zeb _ _ _ (by omega),zeb _ _ _ (by omega),zeb _ _ _ (by omega),zeb _ _ _ (by omega)]

theorem zaE (R C H B P:Int) (w:World) :
  Calls Tryz.prog 100 #[.agg #[.int .i64 R,.int .i64 C,.int .i64 H,.int .i64 B,.int .i64 P]] w fun e w'=>e=.returned (.bool (okVc R C H B P))∧Below w.heap.size w w':=by
 have k0:=zw w (.cells #[.int .i64 R,.int .i64 C,.int .i64 H,.int .i64 B,.int .i64 P] 65);have q0:=zm w (.cells #[.int .i64 R,.int .i64 C,.int .i64 H,.int .i64 B,.int .i64 P] 65);have he:∀W,(binOp .eql 65 (.agg #[.int .i64 R,.int .i64 C,.int .i64 H,.int .i64 B,.int .i64 P]) (.agg #[.int .i64 (cl R 1 99),.int .i64 (cl C 0 100000),.int .i64 (cl H 0 10),.int .i64 (cl B 1 99),.int .i64 (cl P 0 7)])).run Tryz.prog W=.ok (.bool (okVc R C H B P)) W:=fun W=>by rw [zg0,ziA]
 have hgd:Tryz.prog.eqGuardType Tryz.prog.depth 65=false:=by kernel_rfl
 generalize okVc R C H B P=Q at *;go_enter Tryz.func100,Tryz.ntmps100;go_wp2_with fail
 generalize (w.alloc (.cells #[.int .i64 R,.int .i64 C,.int .i64 H,.int .i64 B,.int .i64 P] 65))=wb at *;obtain ⟨⟨x0,x1,x2,x3,x4⟩,-⟩:=zC k0;have K0:=hide k0;clear k0
 go_region_held3 (fun W=>W.cell? ⟨w.heap.size,0,none⟩=some (.int .i64 R)∧W.cell? ⟨w.heap.size,1,none⟩=some (.int .i64 C)∧W.cell? ⟨w.heap.size,2,none⟩=some (.int .i64 H)∧W.cell? ⟨w.heap.size,3,none⟩=some (.int .i64 B)∧W.cell? ⟨w.heap.size,4,none⟩=some (.int .i64 P)) (first | assumption | exact (zC k1).1 | go_keep) (first
  | (go_at_call 146; refine (zgQ R C H B P _).mono ?_; rintro e w1 ⟨rfl,hb1⟩; have k1:=za K0.out (undrew hb1)))
 go_wp2;go_ret;exact ⟨rfl,zc q0 (undrew hb1)⟩

theorem zel (R C H B P k:Int) (w:World) :
  Calls Tryz.prog 207 #[.agg #[.int .i64 R,.int .i64 C,.int .i64 H,.int .i64 B,.int .i64 P],.int .i64 k] w fun e w'=>e=.returned (.tuple #[if zbi R C H B P k=true then .agg #[.int .i64 R,.int .i64 (C+k),.int .i64 (H+1),.int .i64 B,.int .i64 P] else .agg #[.int .i64 R,.int .i64 C,.int .i64 H,.int .i64 B,.int .i64 P],.bool (zbi R C H B P k)])∧Below w.heap.size w w':=by
 cases t1:okVc R C H B P
 ·have e:zbi R C H B P k=false:=by unfold zbi; rw [t1]; rfl
  rw [e,if_neg (by simp)];have T1:=hide t1;clear e t1;go_enter Tryz.func207,Tryz.ntmps207;(go_wp2_with fail);refine (zaE R C H B P _).mono ?_;rintro e w1 ⟨rfl,hb1⟩;rw [T1.out];have q3:=zc (zbb w _ _ _) hb1;obtain ⟨k0,k1,k2⟩:=zbL hb1;obtain ⟨⟨x0,x1,x2,x3,x4⟩,f0,f1,f2,f3,f4⟩:=zC k0;obtain ⟨⟨y0,y1,y2,y3,y4⟩,g0,g1,g2,g3,g4⟩:=zC k1;have HB:=hide q3;have K1:=hide k1;have K2:=hide k2;have K0:=hide k0;clear hb1 k0 k1 k2 q3;go_wp2;exact bodyPost_ret (v:=.tuple #[.agg #[.int .i64 R,.int .i64 C,.int .i64 H,.int .i64 B,.int .i64 P],.bool false]) (by simp [results,Tryz.results207,go_sem, *]) rfl ⟨rfl,zag HB.out (by omega) _ _ _ _ _⟩
 cases t2:(decide (1≤k) && decide (k≤1000))
 ·have e:zbi R C H B P k=false:=by unfold zbi; rw [t1,t2]; rfl
  rw [e,if_neg (by simp)];have T1:=hide t1;have T2:=hide t2;clear e t1 t2;go_enter Tryz.func207,Tryz.ntmps207;(go_wp2_with fail);refine (zaE R C H B P _).mono ?_;rintro e w1 ⟨rfl,hb1⟩;rw [T1.out];have q3:=zc (zbb w _ _ _) hb1;obtain ⟨k0,k1,k2⟩:=zbL hb1;obtain ⟨⟨x0,x1,x2,x3,x4⟩,f0,f1,f2,f3,f4⟩:=zC k0;obtain ⟨⟨y0,y1,y2,y3,y4⟩,g0,g1,g2,g3,g4⟩:=zC k1;have HB:=hide q3;have K1:=hide k1;have K2:=hide k2;have K0:=hide k0;clear hb1 k0 k1 k2 q3;(go_wp2_with fail);refine (zD k 1 1000 _).mono ?_;rintro e w2 ⟨rfl,rfl⟩;rw [T2.out];go_wp2;exact bodyPost_ret (v:=.tuple #[.agg #[.int .i64 R,.int .i64 C,.int .i64 H,.int .i64 B,.int .i64 P],.bool false]) (by simp [results,Tryz.results207,go_sem, *]) rfl ⟨rfl,zag HB.out (by omega) _ _ _ _ _⟩
 obtain ⟨-,o2,o3,-,-⟩:=ze2 t1;have hk:1≤k∧k≤1000:=by simpa using t2
 have es:zbi R C H B P k=okVc R (C+k) (H+1) B P:=by unfold zbi; rw [t1,t2]; rfl
 rw [es];clear es;cases t3:okVc R (C+k) (H+1) B P
 ·rw [if_neg (by simp)];have T1:=hide t1;have T2:=hide t2;have T3:=hide t3;clear t1 t2 t3;go_enter Tryz.func207,Tryz.ntmps207;(go_wp2_with fail);refine (zaE R C H B P _).mono ?_;rintro e w1 ⟨rfl,hb1⟩;rw [T1.out];have q3:=zc (zbb w _ _ _) hb1;obtain ⟨k0,k1,k2⟩:=zbL hb1;obtain ⟨⟨x0,x1,x2,x3,x4⟩,f0,f1,f2,f3,f4⟩:=zC k0;obtain ⟨⟨y0,y1,y2,y3,y4⟩,g0,g1,g2,g3,g4⟩:=zC k1;have HB:=hide q3;have K1:=hide k1;have K2:=hide k2;have K0:=hide k0;clear hb1 k0 k1 k2 q3;(go_wp2_with fail);refine (zD k 1 1000 _).mono ?_;rintro e w2 ⟨rfl,rfl⟩;rw [T2.out];obtain ⟨⟨z0,z1,z2,z3,z4⟩,-⟩:=zC K2.out;(go_wp2_with fail);refine (zaE R (C+k) (H+1) B P _).mono ?_;rintro e w3 ⟨rfl,hb3⟩;rw [T3.out];clear x0 x1 x2 x3 x4 f0 f1 f2 f3 f4 y0 y1 y2 y3 y4 g0 g1 g2 g3 g4 z0 z1 z2 z3 z4;obtain ⟨⟨x0,x1,x2,x3,x4⟩,f0,f1,f2,f3,f4⟩:=zC (za K0.out hb3);obtain ⟨⟨y0,y1,y2,y3,y4⟩,g0,g1,g2,g3,g4⟩:=zC (za K1.out hb3);have HB:=hide (zc HB.out hb3);clear hb3;go_wp2;exact bodyPost_ret (v:=.tuple #[.agg #[.int .i64 R,.int .i64 C,.int .i64 H,.int .i64 B,.int .i64 P],.bool false]) (by simp [results,Tryz.results207,go_sem, *]) rfl ⟨rfl,zag HB.out (by omega) _ _ _ _ _⟩
 ·rw [if_pos rfl];have T1:=hide t1;have T2:=hide t2;have T3:=hide t3;clear t1 t2 t3;go_enter Tryz.func207,Tryz.ntmps207;(go_wp2_with fail);refine (zaE R C H B P _).mono ?_;rintro e w1 ⟨rfl,hb1⟩;rw [T1.out];have q3:=zc (zbb w _ _ _) hb1;obtain ⟨k0,k1,k2⟩:=zbL hb1;obtain ⟨⟨x0,x1,x2,x3,x4⟩,f0,f1,f2,f3,f4⟩:=zC k0;obtain ⟨⟨y0,y1,y2,y3,y4⟩,g0,g1,g2,g3,g4⟩:=zC k1;have HB:=hide q3;have K1:=hide k1;have K2:=hide k2;have K0:=hide k0;clear hb1 k0 k1 k2 q3;(go_wp2_with fail);refine (zD k 1 1000 _).mono ?_;rintro e w2 ⟨rfl,rfl⟩;rw [T2.out];obtain ⟨⟨z0,z1,z2,z3,z4⟩,-⟩:=zC K2.out;(go_wp2_with fail);refine (zaE R (C+k) (H+1) B P _).mono ?_;rintro e w3 ⟨rfl,hb3⟩;rw [T3.out];clear x0 x1 x2 x3 x4 f0 f1 f2 f3 f4 y0 y1 y2 y3 y4 g0 g1 g2 g3 g4 z0 z1 z2 z3 z4;obtain ⟨⟨x0,x1,x2,x3,x4⟩,f0,f1,f2,f3,f4⟩:=zC (za K2.out hb3);obtain ⟨⟨y0,y1,y2,y3,y4⟩,g0,g1,g2,g3,g4⟩:=zC (za K1.out hb3);have HB:=hide (zc HB.out hb3);clear hb3;go_wp2;exact bodyPost_ret (v:=.tuple #[.agg #[.int .i64 R,.int .i64 (C+k),.int .i64 (H+1),.int .i64 B,.int .i64 P],.bool true]) (by simp [results,Tryz.results207,go_sem, *]) rfl ⟨rfl,zag HB.out (by omega) _ _ _ _ _⟩

theorem zfT (x:PT) (w:World) :
  Calls Tryz.prog 205 #[.agg #[.bool x.up,.int .i64 x.k,.bool x.has,.int .i64 x.v.r,.int .i64 x.v.c,.int .i64 x.v.h,.int .i64 x.v.b,.int .i64 x.v.p]] w fun e w'=>e=.returned (.bool (ptOk x))∧Below w.heap.size w w':=by
 have he:∀W,(binOp .eql 65 (.agg #[.int .i64 x.v.r,.int .i64 x.v.c,.int .i64 x.v.h,.int .i64 x.v.b,.int .i64 x.v.p]) (.agg #[.int .i64 0,.int .i64 0,.int .i64 0,.int .i64 0,.int .i64 0])).run Tryz.prog W=.ok (.bool (zdS x.v)) W:=fun W=>by rw [zg0]; rfl
 have hgd:Tryz.prog.eqGuardType Tryz.prog.depth 65=false:=by kernel_rfl
 obtain ⟨up,k,has,⟨r,c,h,b,p⟩⟩:=x
 simp only at he ⊢
 generalize hw1:w.alloc (.cells #[.bool up,.int .i64 k,.bool has,.int .i64 r,.int .i64 c,.int .i64 h,.int .i64 b,.int .i64 p] 67)=w1;have q0:=zb hw1;obtain ⟨c0,c1,c2,c3,c4,c5,c6,c7⟩:=zg8 (by rw [← hw1]; exact zw w _:w1.heap[w.heap.size]?=_);cases t1:(decide (1≤k) && decide (k≤1000))
 ·have T1:=hide t1;rw [show ptOk ⟨up,k,has,⟨r,c,h,b,p⟩⟩=false by unfold ptOk; rw [t1]; rfl];clear t1;go_enter Tryz.func205,Tryz.ntmps205;(go_wp2_with fail);refine (zD k 1 1000 _).mono ?_;rintro e w2 ⟨rfl,rfl⟩;rw [T1.out];go_wp2;go_ret;exact ⟨rfl,q0⟩
 cases has
 ·rw [show ptOk ⟨up,k,false,⟨r,c,h,b,p⟩⟩=zdS ⟨r,c,h,b,p⟩ by unfold ptOk; rw [t1]; cases up <;> rfl];have T1:=hide t1;generalize zdS ⟨r,c,h,b,p⟩=Q at *;clear t1;go_enter Tryz.func205,Tryz.ntmps205;(go_wp2_with fail);refine (zD k 1 1000 _).mono ?_;rintro e w2 ⟨rfl,rfl⟩;rw [T1.out];go_wp2;go_ret;exact ⟨rfl,q0⟩
 cases up
 ·rw [show ptOk ⟨false,k,true,⟨r,c,h,b,p⟩⟩=false by unfold ptOk; rw [t1]; rfl];have T1:=hide t1;clear t1;go_enter Tryz.func205,Tryz.ntmps205;(go_wp2_with fail);refine (zD k 1 1000 _).mono ?_;rintro e w2 ⟨rfl,rfl⟩;rw [T1.out];go_wp2;go_ret;exact ⟨rfl,q0⟩
 ·rw [show ptOk ⟨true,k,true,⟨r,c,h,b,p⟩⟩=okVc r c h b p by unfold ptOk; rw [t1]; rfl];have T1:=hide t1;clear t1;go_enter Tryz.func205,Tryz.ntmps205;(go_wp2_with fail);refine (zD k 1 1000 _).mono ?_;rintro e w2 ⟨rfl,rfl⟩;rw [T1.out];(go_wp2_with fail);refine (zaE r c h b p _).mono ?_;rintro e w3 ⟨rfl,hb3⟩;have HB:=hide (zc q0 hb3);clear hb3;go_wp2;go_ret;exact ⟨rfl,HB.out⟩

def overB (x:PT):Bool:=x.up && (x.has && zcX x.v x.k)
def overV (x:PT):VD:=if (x.up && x.has)=true then (if zcX x.v x.k=true then stepV x.v x.k else x.v) else ⟨0,0,0,0,0⟩

theorem zhq {x:PT} (h:overB x=true):overV x=stepV x.v x.k:=by
 unfold overB at h;simp only [Bool.and_eq_true] at h;unfold overV;rw [h.1,h.2.1,h.2.2]
 rfl

theorem zck (id:Int) (x:PT):offers id x=(overB x && decide ((overV x).r < id)):=by
 cases h:overB x
 ·unfold offers overB at *;cases hu:x.up <;> cases hh:x.has <;> cases hs:zcX x.v x.k <;> rw [hu,hh,hs] at h <;> simp_all
 ·rw [zhq h];unfold overB at h;simp only [Bool.and_eq_true] at h;unfold offers;rw [h.1,h.2.1,h.2.2]
  rfl

theorem zf6 (x:PT) (w:World) :
  Calls Tryz.prog 192 #[.agg #[.bool x.up,.int .i64 x.k,.bool x.has,.int .i64 x.v.r,.int .i64 x.v.c,.int .i64 x.v.h,.int .i64 x.v.b,.int .i64 x.v.p]] w fun e w'=>e=.returned (.tuple #[.agg #[.int .i64 (overV x).r,.int .i64 (overV x).c,.int .i64 (overV x).h,.int .i64 (overV x).b,.int .i64 (overV x).p],.bool (overB x)])∧Below w.heap.size w w':=by
 by_cases hno:(x.up && x.has)=false
 ·rw [show overV x=⟨0,0,0,0,0⟩ by unfold overV; rw [hno]; rfl,show overB x=false by unfold overB; cases hu:x.up <;> cases hh:x.has <;> simp_all]
  simp only
  cases hu:x.up
  ·clear hno;go_enter Tryz.func192,Tryz.ntmps192;go_wp2;exact bodyPost_ret (v:=.tuple #[.agg #[.int .i64 0,.int .i64 0,.int .i64 0,.int .i64 0,.int .i64 0],.bool false]) (by simp [results,Tryz.results192,go_sem, *]) rfl ⟨rfl,zP _ _ _⟩
  ·have hh:x.has=false:=by rw [hu] at hno; simpa using hno
   rw [hh];clear hno;go_enter Tryz.func192,Tryz.ntmps192;go_wp2;exact bodyPost_ret (v:=.tuple #[.agg #[.int .i64 0,.int .i64 0,.int .i64 0,.int .i64 0,.int .i64 0],.bool false]) (by simp [results,Tryz.results192,go_sem, *]) rfl ⟨rfl,zP _ _ _⟩
 generalize hw1:w.alloc (.cells #[.bool x.up,.int .i64 x.k,.bool x.has,.int .i64 x.v.r,.int .i64 x.v.c,.int .i64 x.v.h,.int .i64 x.v.b,.int .i64 x.v.p] 67)=w1;generalize hw2:w1.alloc (.cells #[.int .i64 0,.int .i64 0,.int .i64 0,.int .i64 0,.int .i64 0] 65)=w2;have q1:=zb hw1;have q2:=zb hw2;have k1:=zk hw1;have k2:=zk hw2;have hs1:w1.heap.size=w.heap.size+1:=by rw [← hw1]; simp
 rw [hs1] at k2;obtain ⟨c0,c1,c2,c3,c4,c5,c6,c7⟩:=zg8 (za k1 q2);have HQ:=hide (zc q1 q2);have K2:=hide k2;have hyes:(x.up && x.has)=true:=by simpa using hno
 have hu:x.up=true:=by simp only [Bool.and_eq_true] at hyes; exact hyes.1
 have hh:x.has=true:=by simp only [Bool.and_eq_true] at hyes; exact hyes.2
 rw [hu] at c0;rw [hh] at c2;generalize hq:overB x=q;generalize hu':overV x=u;have HST:Hid (zbi x.v.r x.v.c x.v.h x.v.b x.v.p x.k=q):=hide (by rw [← hq]; unfold overB zcX; rw [hu,hh]; rfl);have HUV:Hid ((if q=true then Value.agg #[.int .i64 x.v.r,.int .i64 (x.v.c+x.k),.int .i64 (x.v.h+1),.int .i64 x.v.b,.int .i64 x.v.p] else Value.agg #[.int .i64 x.v.r,.int .i64 x.v.c,.int .i64 x.v.h,.int .i64 x.v.b,.int .i64 x.v.p])=.agg #[.int .i64 u.r,.int .i64 u.c,.int .i64 u.h,.int .i64 u.b,.int .i64 u.p]):=hide (by
  rw [← hu'];unfold overV;rw [if_pos hyes];unfold zcX;rw [HST.out];cases q <;> rfl)
 clear hq hu' hu hh hyes hno q1 q2 k1 k2;go_enter Tryz.func192,Tryz.ntmps192;go_wp2_with fail
 refine (zel x.v.r x.v.c x.v.h x.v.b x.v.p x.k _).mono ?_;rintro e w3 ⟨rfl,hb3⟩;rw [HST.out,HUV.out];obtain ⟨⟨r0,r1,r2,r3,r4⟩,z0,z1,z2,z3,z4⟩:=zC (za K2.out hb3);have HS:=hide (zag (zc HQ.out hb3) (g:=w.heap.size+1) (by omega) (.int .i64 u.r) (.int .i64 u.c) (.int .i64 u.h) (.int .i64 u.b) (.int .i64 u.p));clear hb3 c0 c1 c2 c3 c4 c5 c6 c7;go_wp2;exact bodyPost_ret (v:=.tuple #[.agg #[.int .i64 u.r,.int .i64 u.c,.int .i64 u.h,.int .i64 u.b,.int .i64 u.p],.bool q]) (by simp [results,Tryz.results192,go_sem, *]) rfl ⟨rfl,HS.out⟩

end Go.Proofs.YtkoekkjfcaiagaaGreat
