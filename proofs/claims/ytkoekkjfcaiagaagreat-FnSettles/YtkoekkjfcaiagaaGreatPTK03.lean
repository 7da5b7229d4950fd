/-
  Packed: PtLaws BrLaws VecNums VecNear VecOk VecStep PtOkI PtBest.
-/
import Derived.Test.YtkoekkjfcaiagaaGreatPTKW
import Derived.Test.YtkoekkjfcaiagaaGreatPTK01
import Derived.Test.YtkoekkjfcaiagaaGreatPTK02
import Derived.Deep.RegionHeld3
import Derived.Deep.CutRange
import Derived.Lib.MinMax
namespace Go.Proofs.YtkoekkjfcaiagaaGreat
set_option maxRecDepth 100000
set_option maxHeartbeats 16000000
open Go.RowKit

theorem zhn {x y f:VD} (h1:lessV y f=true) (h2:lessV x f=false):lessV x y=false:=by
 unfold lessV zaM at *;simp only [bne_iff_ne,ne_eq,ite_not] at *
 repeat' split at h1
 all_goals repeat' split at h2
 all_goals repeat' split
 all_goals simp at *
 all_goals omega

theorem zfs (x:VD):lessV x x=false:=by
 unfold lessV zaM
 simp

theorem zdi {id:Int} {l:List PT}:∀{k:Nat} {f:VD} {j:Nat},zaW id l k=some (f,j)→∃x,l[j]?=some x∧offers id x=true∧f=stepV x.v x.k
 | 0,f,j,h=>by simp [zaW] at h
 | k+1,f,j,h=>by
  rw [zaW] at h;cases hx:l[k]? with
  | none=>rw [hx] at h; exact zdi (k:=k) h
  | some x =>
   rw [hx] at h;simp only [za7] at h;by_cases ho:offers id x=true
   ·rw [if_pos ho] at h;cases hs:zaW id l k with
    | none =>
     rw [hs] at h
     simp at h
     obtain ⟨rfl,rfl⟩:=h;exact ⟨x,hx,ho,rfl⟩
    | some s =>
     obtain ⟨g,i⟩:=s;rw [hs] at h
     simp only at h
     split at h
     ·simp at h
      obtain ⟨rfl,rfl⟩:=h;exact ⟨x,hx,ho,rfl⟩
     ·simp at h
      obtain ⟨rfl,rfl⟩:=h;exact zdi hs
   ·rw [if_neg ho] at h;exact zdi h

theorem zdV {id:Int} {l:List PT}:∀{k i:Nat} {x:PT},i < k→l[i]?=some x→offers id x=true→∃f j,zaW id l k=some (f,j)∧lessV (stepV x.v x.k) f=false
 | 0,i,x,h,_,_=>by omega
 | k+1,i,x,h,hx,ho=>by
  by_cases hik:i=k
  ·subst hik;rw [zdh hx];unfold za7;rw [if_pos ho];cases hs:zaW id l i with
   | none=>exact ⟨_,_,rfl,zfs _⟩
   | some s =>
    obtain ⟨g,j⟩:=s
    simp only
    cases hl:lessV (stepV x.v x.k) g
    ·exact ⟨g,j,by simp,hl⟩
    ·exact ⟨_,i,by simp,zfs _⟩
  ·obtain ⟨f,j,hf,hle⟩:=zdV (k:=k) (i:=i) (by omega) hx ho;rw [zaW];cases hy:l[k]? with
   | none=>exact ⟨f,j,hf,hle⟩
   | some y =>
    simp only [za7];by_cases hoy:offers id y=true
    ·rw [if_pos hoy,hf]
     simp only
     cases hl:lessV (stepV y.v y.k) f
     ·exact ⟨f,j,by simp,hle⟩
     ·exact ⟨_,k,by simp,zhn hl hle⟩
    ·rw [if_neg hoy];exact ⟨f,j,hf,hle⟩

theorem zbX {id:Int} {x:PT} (h:offers id x=true):x.up=true∧x.has=true∧zbR x.v x.k=true∧x.v.r < id:=by
 unfold offers at h;simp only [Bool.and_eq_true,decide_eq_true_eq] at h;exact h

theorem zh5 {id:Int} {l:List PT} (port:Int):1≤zaF id l port∧zaF id l port≤4:=by
 unfold zaF
 split
 ·split
  ·unfold zdb
   repeat' split
   all_goals omega
  ·omega
 ·omega

def zcA (f:Nat→Bool):Nat→Int
 | 0=>0
 | k+1=>if f k=true then bits .or .i64 (zcA f k) (2 ^ k) else zcA f k

theorem zf3 (id:Int) (l:List PT):∀k,zaY id l k=zcA (fun i=>decide (zaF id l (i:Int)≤2)) k
 | 0=>rfl
 | k+1=>by
  rw [zaY,zcA,zf3 id l k]
  simp

theorem zd5 (f g:Nat→Bool):∀k,(∀i,i < k→f i=g i)→zcA f k=zcA g k
 | 0,_=>rfl
 | k+1,h=>by
  rw [zcA,zcA,zd5 f g k (fun i hi=>h i (by omega)),h k (by omega)]

def six (b0 b1 b2 b3 b4 b5:Bool):Nat→Bool
 | 0=>b0
 | 1=>b1
 | 2=>b2
 | 3=>b3
 | 4=>b4
 | _=>b5

def zan (n:Int):Int:=if n≥1000000 then n else n+1

def zax (bits:Int) (l:List FE):Nat→List FE
 | 0=>l
 | k+1=>if bitOf bits (k:Int)=true then zax bits l k else zW (zax bits l k) (k:Int)

def turned (b:BR):BR:={ b with vers:=zan b.vers,f:=zax (zam b.id b.ports) b.f b.ports.length }

def zaZ (b:BR) (port:Int):Bool:=zt b && (decide (0≤port) && decide (port≤(b.ports.length:Int) - 1))

def hearB (b:BR) (port:Int) (v:VD):BR :=
 if zaZ b port=true then
  match b.ports[port.toNat]? with
  | some x=>if (x.up && okVd v)=true then turned { b with ports:=b.ports.set port.toNat ⟨x.up,x.k,true,v⟩ } else b
  | none=>b
 else b

def linkB (b:BR) (port:Int) (up:Bool):BR :=
 if zaZ b port=true then
  match b.ports[port.toNat]? with
  | some x=>turned { b with ports:=b.ports.set port.toNat ⟨up,x.k,false,⟨0,0,0,0,0⟩⟩ }
  | none=>b
 else b

def tickB (b:BR):BR:=if zt b=true then turned { b with ticks:=zan b.ticks,f:=ageF b.f } else b

theorem zhT (x:Int):in1m x=true↔0≤x∧x≤1000000:=by
 unfold in1m
 simp

theorem zfv {n:Int} (h:in1m n=true):in1m (zan n)=true:=by
 rw [zhT] at *;unfold zan
 split <;> omega

theorem zdY (bits:Int) {l:List FE} (h:fdbOk l=true):∀k,fdbOk (zax bits l k)=true
 | 0=>h
 | k+1=>by
  rw [zax]
  split
  ·exact zdY bits h k
  ·exact zj2 (zdY bits h k) _

theorem zbI (bits:Int) (l:List FE):∀k,(zax bits l k).Sublist l
 | 0=>List.Sublist.refl _
 | k+1=>by
  rw [zax]
  split
  ·exact zbI bits l k
  ·exact List.Sublist.trans List.filter_sublist (zbI bits l k)

theorem zS {b:BR} (h:zt b=true):b.ports.all ptOk=true∧in3 b.id 1 99=true∧(b.name.size:Int)≤10∧in3 (b.ports.length:Int) 1 6=true∧fdbOk b.f=true∧zas b.v (b.ports.length:Int)=true∧in1m b.ticks=true∧in1m b.parse=true∧in1m b.word=true∧in1m b.drops=true∧in1m b.vers=true:=by
 unfold zt zal at h;simp only [Bool.and_eq_true,decide_eq_true_eq] at h;obtain ⟨h1,h2,h3,h4,h5,h6,h7,h8,h9,h10,h11⟩:=h;exact ⟨h1,h2,h3,h4,h5,h6,h7,h8,h9,h10,h11⟩

theorem zdj {b:BR} (h:b.ports.all ptOk=true∧in3 b.id 1 99=true∧(b.name.size:Int)≤10∧in3 (b.ports.length:Int) 1 6=true∧fdbOk b.f=true∧zas b.v (b.ports.length:Int)=true∧in1m b.ticks=true∧in1m b.parse=true∧in1m b.word=true∧in1m b.drops=true∧in1m b.vers=true):zt b=true:=by
 obtain ⟨h1,h2,h3,h4,h5,h6,h7,h8,h9,h10,h11⟩:=h;unfold zt zal;rw [h1,h2,decide_eq_true h3,h4,h5,h6,h7,h8,h9,h10,h11]
 rfl

theorem ze3 {b:BR} (h:zt b=true):zt (turned b)=true:=by
 obtain ⟨h1,h2,h3,h4,h5,h6,h7,h8,h9,h10,h11⟩:=zS h;exact zdj ⟨h1,h2,h3,h4,zdY _ h5 _,h6,h7,h8,h9,h10,zfv h11⟩

theorem zf0 {b:BR} (h:zt b=true) {i:Nat} {y:PT} (hy:ptOk y=true):zt { b with ports:=b.ports.set i y }=true:=by
 obtain ⟨h1,h2,h3,h4,h5,h6,h7,h8,h9,h10,h11⟩:=zS h;refine zdj ⟨?_,h2,h3, ?_,h5, ?_,h7,h8,h9,h10,h11⟩
 ·rw [List.all_eq_true] at h1 ⊢;intro x hx;rcases List.mem_or_eq_of_mem_set hx with hx | rfl
  ·exact h1 x hx
  ·exact hy
 ·simpa using h4
 ·simpa using h6

theorem zhs {b:BR} (h:zt b=true) {i:Nat} {x:PT} (hx:b.ports[i]?=some x):ptOk x=true:=by
 have h1:=(zS h).1;rw [List.all_eq_true] at h1;exact h1 x (List.mem_of_getElem? hx)

theorem zkL {x:PT} {v:VD} (h:ptOk x=true) (hu:x.up=true) (hv:okVd v=true):ptOk ⟨x.up,x.k,true,v⟩=true:=by
 unfold ptOk at *;simp only [Bool.and_eq_true] at h
 simp [h.1,hu,hv]

theorem zkQ {x:PT} (up:Bool) (h:ptOk x=true):ptOk ⟨up,x.k,false,⟨0,0,0,0,0⟩⟩=true:=by
 unfold ptOk at *;simp only [Bool.and_eq_true] at h
 simp [h.1,zeg]

theorem zh9 {b:BR} {port:Int} (h:zaZ b port=true):zt b=true:=by
 unfold zaZ at h;simp only [Bool.and_eq_true] at h;exact h.1

theorem zhR {b:BR} (h:zt b=true) (port:Int) (v:VD):zt (hearB b port v)=true:=by
 unfold hearB
 split
 ·split
  ·next x hx =>
   split
   ·next hu =>
    simp only [Bool.and_eq_true] at hu;exact ze3 (zf0 h (zkL (zhs h hx) hu.1 hu.2))
   ·exact h
  ·exact h
 ·exact h

theorem zhU {b:BR} (h:zt b=true) (port:Int) (up:Bool):zt (linkB b port up)=true:=by
 unfold linkB
 split
 ·split
  ·next x hx=>exact ze3 (zf0 h (zkQ up (zhs h hx)))
  ·exact h
 ·exact h

theorem zks {b:BR} (h:zt b=true):zt (tickB b)=true:=by
 unfold tickB;rw [if_pos h];obtain ⟨h1,h2,h3,h4,h5,h6,h7,h8,h9,h10,h11⟩:=zS h;exact ze3 (zdj ⟨h1,h2,h3,h4,zk8 h5,h6,zfv h7,h8,h9,h10,h11⟩)

theorem zfX (R C H B P:Int) (w:World) :
  Calls Tryz.prog 184 #[.agg #[.int .i64 R,.int .i64 C,.int .i64 H,.int .i64 B,.int .i64 P]] w fun e w'=>e=.returned (.agg #[.int .i64 R,.int .i64 C,.int .i64 H,.int .i64 B,.int .i64 P])∧Below w.heap.size w w':=by
 go_enter Tryz.func184,Tryz.ntmps184;go_wp2;exact bodyPost_ret (v:=.agg #[.int .i64 R,.int .i64 C,.int .i64 H,.int .i64 B,.int .i64 P]) (by simp [results,Tryz.results184,go_sem, *]) rfl ⟨rfl,zX _ _ _⟩

theorem zgH (R C H B P:Int) (w:World) :
  Calls Tryz.prog 184 #[.agg #[.int .i64 R,.int .i64 C,.int .i64 H,.int .i64 B,.int .i64 P]] w fun e w'=>e=.returned (.agg #[.int .i64 R,.int .i64 C,.int .i64 H,.int .i64 B,.int .i64 P]) ∧
   w'=(w.alloc (.cells #[.int .i64 R,.int .i64 C,.int .i64 H,.int .i64 B,.int .i64 P] 65)).alloc (.cells #[.int .i64 R,.int .i64 C,.int .i64 H,.int .i64 B,.int .i64 P] 135):=by
 go_enter Tryz.func184,Tryz.ntmps184;go_wp2;exact bodyPost_ret (v:=.agg #[.int .i64 R,.int .i64 C,.int .i64 H,.int .i64 B,.int .i64 P]) (by simp [results,Tryz.results184,go_sem, *]) rfl ⟨rfl,rfl⟩

theorem zjJ (R C H B P:Int) (w:World) :
  Calls Tryz.prog 185 #[.agg #[.int .i64 R,.int .i64 C,.int .i64 H,.int .i64 B,.int .i64 P]] w fun e w'=>e=.returned (.agg #[.int .i64 R,.int .i64 C,.int .i64 H,.int .i64 B,.int .i64 P])∧Below w.heap.size w w':=by
 go_enter Tryz.func185,Tryz.ntmps185;go_wp2;exact bodyPost_ret (v:=.agg #[.int .i64 R,.int .i64 C,.int .i64 H,.int .i64 B,.int .i64 P]) (by simp [results,Tryz.results185,go_sem, *]) rfl ⟨rfl,zX _ _ _⟩

theorem zj6 (R C H B P:Int) (w:World):(Instr.index 135 (.agg #[.int .i64 R,.int .i64 C,.int .i64 H,.int .i64 B,.int .i64 P]) (.int .i64 0)).run Tryz.prog w=.ok (.int .i64 R) w:=by kernel_rfl
theorem zj7 (R C H B P:Int) (w:World):(Instr.index 135 (.agg #[.int .i64 R,.int .i64 C,.int .i64 H,.int .i64 B,.int .i64 P]) (.int .i64 1)).run Tryz.prog w=.ok (.int .i64 C) w:=by kernel_rfl
theorem zj8 (R C H B P:Int) (w:World):(Instr.index 135 (.agg #[.int .i64 R,.int .i64 C,.int .i64 H,.int .i64 B,.int .i64 P]) (.int .i64 2)).run Tryz.prog w=.ok (.int .i64 H) w:=by kernel_rfl
theorem zj9 (R C H B P:Int) (w:World):(Instr.index 135 (.agg #[.int .i64 R,.int .i64 C,.int .i64 H,.int .i64 B,.int .i64 P]) (.int .i64 3)).run Tryz.prog w=.ok (.int .i64 B) w:=by kernel_rfl
theorem zka (R C H B P:Int) (w:World):(Instr.index 135 (.agg #[.int .i64 R,.int .i64 C,.int .i64 H,.int .i64 B,.int .i64 P]) (.int .i64 4)).run Tryz.prog w=.ok (.int .i64 P) w:=by kernel_rfl

abbrev zlm:Array Value:=#[.int .i64 1,.int .i64 0,.int .i64 0,.int .i64 1,.int .i64 0]
abbrev mostC:Array Value:=#[.int .i64 99,.int .i64 100000,.int .i64 10,.int .i64 99,.int .i64 7]
abbrev endsC:Array Value:=#[.int .i64 1,.int .i64 0,.int .i64 0,.int .i64 1,.int .i64 0,.int .i64 99,.int .i64 100000,.int .i64 10,.int .i64 99,.int .i64 7]

def cl (n lo hi:Int):Int:=min (max n lo) hi

def nearC (R C H B P:Int) (k:Nat):Array Value :=
 #[.int .i64 (if 0 < k then cl R 1 99 else R),.int .i64 (if 1 < k then cl C 0 100000 else C),.int .i64 (if 2 < k then cl H 0 10 else H),.int .i64 (if 3 < k then cl B 1 99 else B),.int .i64 (if 4 < k then cl P 0 7 else P)]

theorem ziP {w:World} {C:Nat} {t:TypeId} {c0 c1 c2 c3 c4 c5 c6 c7 c8 c9:Value} (h:w.heap[C]?=some (.cells #[c0,c1,c2,c3,c4,c5,c6,c7,c8,c9] t)) :
  w.cell? ⟨C,0,none⟩=some c0∧w.cell? ⟨C,1,none⟩=some c1∧w.cell? ⟨C,2,none⟩=some c2∧w.cell? ⟨C,3,none⟩=some c3∧w.cell? ⟨C,4,none⟩=some c4∧w.cell? ⟨C,5,none⟩=some c5∧w.cell? ⟨C,6,none⟩=some c6∧w.cell? ⟨C,7,none⟩=some c7∧w.cell? ⟨C,8,none⟩=some c8∧w.cell? ⟨C,9,none⟩=some c9:=by
 refine ⟨?_, ?_, ?_, ?_, ?_, ?_, ?_, ?_, ?_, ?_⟩ <;> simp [World.cell?,h]

theorem zhq (R C H B P:Int) (w:World) :
  Calls Tryz.prog 146 #[.agg #[.int .i64 R,.int .i64 C,.int .i64 H,.int .i64 B,.int .i64 P]] w fun e w'=>e=.returned (.agg #[.int .i64 (cl R 1 99),.int .i64 (cl C 0 100000),.int .i64 (cl H 0 10),.int .i64 (cl B 1 99),.int .i64 (cl P 0 7)])∧Below w.heap.size w w':=by
 have q3:=zba w (.cells #[.int .i64 R,.int .i64 C,.int .i64 H,.int .i64 B,.int .i64 P] 65) (.cells #[.int .i64 0,.int .i64 0,.int .i64 0,.int .i64 0,.int .i64 0] 65) (.cells endsC 206);obtain ⟨k0,k1,k2⟩:=zbH (Below.refl _ (((w.alloc (.cells #[.int .i64 R,.int .i64 C,.int .i64 H,.int .i64 B,.int .i64 P] 65)).alloc (.cells #[.int .i64 0,.int .i64 0,.int .i64 0,.int .i64 0,.int .i64 0] 65)).alloc (.cells endsC 206)));have hn:(((w.alloc (.cells #[.int .i64 R,.int .i64 C,.int .i64 H,.int .i64 B,.int .i64 P] 65)).alloc (.cells #[.int .i64 0,.int .i64 0,.int .i64 0,.int .i64 0,.int .i64 0] 65)).alloc (.cells endsC 206)).heap.size=w.heap.size+3:=by simp
 have HQ:=hide q3;have HK0:=hide k0;have HK1:=hide k1;have HN:=hide hn;clear q3 k0 k1 hn;go_enter Tryz.func146,Tryz.ntmps146;go_upto_region 2 with fail
 generalize (((w.alloc (.cells #[.int .i64 R,.int .i64 C,.int .i64 H,.int .i64 B,.int .i64 P] 65)).alloc (.cells #[.int .i64 0,.int .i64 0,.int .i64 0,.int .i64 0,.int .i64 0] 65)).alloc (.cells endsC 206))=w3 at *;obtain ⟨x0,x1,x2,x3,x4,x5,x6,x7,x8,x9⟩:=ziP k2;have K2:=hide k2;clear k2
 go_cut [4,5] from 9 to 38 (fun s t wc=>∃p4 p5:Nat,s=.pointer (some ⟨p4,0,none⟩)∧t=.pointer (some ⟨p5,0,none⟩)∧wc.heap[p4]?=some (.cells zlm 135)∧wc.heap[p5]?=some (.cells mostC 135)∧¬p4=p5∧w3.heap.size≤p4∧w3.heap.size≤p5∧Below w3.heap.size w3 wc)
 case first =>
  go_region_held3 (fun W=>W.cell? ⟨w.heap.size+1+1,0,none⟩=some (.int .i64 1)∧W.cell? ⟨w.heap.size+1+1,1,none⟩=some (.int .i64 0)∧W.cell? ⟨w.heap.size+1+1,2,none⟩=some (.int .i64 0)∧W.cell? ⟨w.heap.size+1+1,3,none⟩=some (.int .i64 1)∧W.cell? ⟨w.heap.size+1+1,4,none⟩=some (.int .i64 0)∧W.cell? ⟨w.heap.size+1+1,5,none⟩=some (.int .i64 99)∧W.cell? ⟨w.heap.size+1+1,6,none⟩=some (.int .i64 100000)∧W.cell? ⟨w.heap.size+1+1,7,none⟩=some (.int .i64 10)∧W.cell? ⟨w.heap.size+1+1,8,none⟩=some (.int .i64 99)∧W.cell? ⟨w.heap.size+1+1,9,none⟩=some (.int .i64 7))
   (first | assumption | exact ziP (za K2.out (by repeat (first | exact Below.refl _ _ | refine zw ?_ | refine zcd ?_ _))) | go_keep) (first
   | (go_at_call 184; refine (zgH _ _ _ _ _ _).mono ?_; rintro e wx ⟨rfl,rfl⟩))
  all_goals
   (go_wp2_with fail)
   go_meet
   refine ⟨_,_,rfl,rfl,by repeat (first | (refine zhH ?_; simp; done) | refine za ?_ (zl _ _) | refine zbe ?_),by repeat (first | (refine zhH ?_; simp; done) | refine za ?_ (zl _ _) | refine zbe ?_),by omega,by omega,by omega,by repeat (first | exact Below.refl _ _ | refine zw ?_ | refine zcd ?_ _)⟩
 case rest =>
  obtain ⟨p4,p5,rfl,rfl,h4,h5,hne,hp4,hp5,hbc⟩:=hcut;have hn:=HN.out;have hsz:=hbc.size;obtain ⟨⟨v0,v1,v2,v3,v4⟩,-⟩:=zB (za HK0.out hbc);clear x0 x1 x2 x3 x4 x5 x6 x7 x8 x9;(go_wp2_with fail);refine (zfX R C H B P _).mono ?_;rintro e w6 ⟨rfl,hb6⟩;have hs6:=hb6.size;have q6:=zc hbc hb6;have k4:=za (za h4 hb6) (zl w6 (.cells #[.int .i64 R,.int .i64 C,.int .i64 H,.int .i64 B,.int .i64 P] 135));have k5:=za (za h5 hb6) (zl w6 (.cells #[.int .i64 R,.int .i64 C,.int .i64 H,.int .i64 B,.int .i64 P] 135));have k6:=zz w6 (.cells #[.int .i64 R,.int .i64 C,.int .i64 H,.int .i64 B,.int .i64 P] 135);have k1:=za (za HK1.out q6) (zl w6 (.cells #[.int .i64 R,.int .i64 C,.int .i64 H,.int .i64 B,.int .i64 P] 135));have hq:=HQ.out;have lt4:p4 < w6.heap.size:=(Array.getElem?_eq_some_iff.1 (za h4 hb6)).1;have lt5:p5 < w6.heap.size:=(Array.getElem?_eq_some_iff.1 (za h5 hb6)).1;clear v0 v1 v2 v3 v4 hb6;(go_wp2_with fail)
  go_loopw [21] (fun i wr=>∃k:Nat,k≤5∧i=.int .i64 k∧wr.heap[w6.heap.size]?=some (.cells (nearC R C H B P k) 135)∧(w6.alloc (.cells #[.int .i64 R,.int .i64 C,.int .i64 H,.int .i64 B,.int .i64 P] 135)).grownBy wr (some w6.heap.size)) (fun i _=>5 - (intOf i).toNat)
  case atStart=>exact ⟨0,Nat.zero_le _,rfl,k6,World.grownBy.refl _ _⟩
  case round =>
   obtain ⟨k,hk,hi,hc6,hg⟩:=hrel;have c4:=ze k4 hg (by intro j e; cases e; omega);have c5:=ze k5 hg (by intro j e; cases e; omega);have c1:=ze k1 hg (by intro j e; cases e; omega);have HG:=hide hg;obtain ⟨⟨y0,y1,y2,y3,y4⟩,-⟩:=zB c4;obtain ⟨⟨z0,z1,z2,z3,z4⟩,-⟩:=zB c5;have H6:=hide hc6;have H1:=hide c1;clear c4 c5 k4 k5 k6 k1 h4 h5 hg c1 hc6;rcases (show k=0∨k=1∨k=2∨k=3∨k=4∨k=5 by omega) with rfl | rfl | rfl | rfl | rfl | rfl
   ·have hi:_=Value.int .i64 0:=hi;subst hi;have h6:wr.heap[w6.heap.size]?=some (.cells #[.int .i64 R,.int .i64 C,.int .i64 H,.int .i64 B,.int .i64 P] 135):=H6.out;obtain ⟨⟨u0,u1,u2,u3,u4⟩,f0,f1,f2,f3,f4⟩:=zB h6;clear h6;have ix:=zj6 R C H B P wr;(go_wp2_with fail)
    go_region
    go_wp2
    go_roundw
    case rel =>
     refine ⟨0+1,by omega,by go_num, ?_,zK (zK HG.out (zj _ _)) (zce (zw (Below.refl _ _)))⟩
     have:=zC (j:=0) H6.out (.int .i64 (cl R 1 99))
     exact zbe this
    case measure=>simp [intOf]
   ·have hi:_=Value.int .i64 1:=hi;subst hi;have h6:wr.heap[w6.heap.size]?=some (.cells #[.int .i64 (cl R 1 99),.int .i64 C,.int .i64 H,.int .i64 B,.int .i64 P] 135):=H6.out;obtain ⟨⟨u0,u1,u2,u3,u4⟩,f0,f1,f2,f3,f4⟩:=zB h6;clear h6;have ix:=zj7 R C H B P wr;(go_wp2_with fail)
    go_region
    go_wp2
    go_roundw
    case rel =>
     refine ⟨1+1,by omega,by go_num, ?_,zK (zK HG.out (zj _ _)) (zce (zw (Below.refl _ _)))⟩
     have:=zC (j:=1) H6.out (.int .i64 (cl C 0 100000))
     exact zbe this
    case measure=>simp [intOf]
   ·have hi:_=Value.int .i64 2:=hi;subst hi;have h6:wr.heap[w6.heap.size]?=some (.cells #[.int .i64 (cl R 1 99),.int .i64 (cl C 0 100000),.int .i64 H,.int .i64 B,.int .i64 P] 135):=H6.out;obtain ⟨⟨u0,u1,u2,u3,u4⟩,f0,f1,f2,f3,f4⟩:=zB h6;clear h6;have ix:=zj8 R C H B P wr;(go_wp2_with fail)
    go_region
    go_wp2
    go_roundw
    case rel =>
     refine ⟨2+1,by omega,by go_num, ?_,zK (zK HG.out (zj _ _)) (zce (zw (Below.refl _ _)))⟩
     have:=zC (j:=2) H6.out (.int .i64 (cl H 0 10))
     exact zbe this
    case measure=>simp [intOf]
   ·have hi:_=Value.int .i64 3:=hi;subst hi;have h6:wr.heap[w6.heap.size]?=some (.cells #[.int .i64 (cl R 1 99),.int .i64 (cl C 0 100000),.int .i64 (cl H 0 10),.int .i64 B,.int .i64 P] 135):=H6.out;obtain ⟨⟨u0,u1,u2,u3,u4⟩,f0,f1,f2,f3,f4⟩:=zB h6;clear h6;have ix:=zj9 R C H B P wr;(go_wp2_with fail)
    go_region
    go_wp2
    go_roundw
    case rel =>
     refine ⟨3+1,by omega,by go_num, ?_,zK (zK HG.out (zj _ _)) (zce (zw (Below.refl _ _)))⟩
     have:=zC (j:=3) H6.out (.int .i64 (cl B 1 99))
     exact zbe this
    case measure=>simp [intOf]
   ·have hi:_=Value.int .i64 4:=hi;subst hi;have h6:wr.heap[w6.heap.size]?=some (.cells #[.int .i64 (cl R 1 99),.int .i64 (cl C 0 100000),.int .i64 (cl H 0 10),.int .i64 (cl B 1 99),.int .i64 P] 135):=H6.out;obtain ⟨⟨u0,u1,u2,u3,u4⟩,f0,f1,f2,f3,f4⟩:=zB h6;clear h6;have ix:=zka R C H B P wr;(go_wp2_with fail)
    go_region
    go_wp2
    go_roundw
    case rel =>
     refine ⟨4+1,by omega,by go_num, ?_,zK (zK HG.out (zj _ _)) (zce (zw (Below.refl _ _)))⟩
     have:=zC (j:=4) H6.out (.int .i64 (cl P 0 7))
     exact zbe this
    case measure=>simp [intOf]
   ·have hi:_=Value.int .i64 5:=hi;subst hi;have h6:wr.heap[w6.heap.size]?=some (.cells #[.int .i64 (cl R 1 99),.int .i64 (cl C 0 100000),.int .i64 (cl H 0 10),.int .i64 (cl B 1 99),.int .i64 (cl P 0 7)] 135):=H6.out;obtain ⟨⟨u0,u1,u2,u3,u4⟩,f0,f1,f2,f3,f4⟩:=zB h6;clear h6;(go_wp2_with fail);refine (zjJ (cl R 1 99) (cl C 0 100000) (cl H 0 10) (cl B 1 99) (cl P 0 7) _).mono ?_;rintro e w9 ⟨rfl,hb9⟩;obtain ⟨⟨t0,t1,t2,t3,t4⟩,g0,g1,g2,g3,g4⟩:=zB (za H1.out hb9);have b9:=zc hq (zc q6 (zc (zkG (zl w6 _) HG.out (Nat.le_refl _)) hb9));have HB:=hide b9;clear u0 u1 u2 u3 u4 f0 f1 f2 f3 f4 hb9 b9;go_wp2;exact bodyPost_ret (v:=.agg #[.int .i64 (cl R 1 99),.int .i64 (cl C 0 100000),.int .i64 (cl H 0 10),.int .i64 (cl B 1 99),.int .i64 (cl P 0 7)]) (by simp [results,Tryz.results146,go_sem, *]) rfl ⟨rfl,zab HB.out (by omega) _ _ _ _ _⟩

theorem zeu (n lo hi:Int) (h:lo≤hi):(n == cl n lo hi)=(decide (lo≤n) && decide (n≤hi)):=by
 unfold cl;rw [Bool.eq_iff_iff]
 simp
 omega

theorem zjm (R C H B P:Int):((R == cl R 1 99) && ((C == cl C 0 100000) && ((H == cl H 0 10) && ((B == cl B 1 99) && (P == cl P 0 7)))))=okVc R C H B P:=by
 rw [zjl,zeu _ _ _ (by omega),zeu _ _ _ (by omega),zeu _ _ _ (by omega),zeu _ _ _ (by omega),zeu _ _ _ (by omega)]

theorem zay (R C H B P:Int) (w:World) :
  Calls Tryz.prog 100 #[.agg #[.int .i64 R,.int .i64 C,.int .i64 H,.int .i64 B,.int .i64 P]] w fun e w'=>e=.returned (.bool (okVc R C H B P))∧Below w.heap.size w w':=by
 have k0:=zz w (.cells #[.int .i64 R,.int .i64 C,.int .i64 H,.int .i64 B,.int .i64 P] 65);have q0:=zl w (.cells #[.int .i64 R,.int .i64 C,.int .i64 H,.int .i64 B,.int .i64 P] 65);have he:∀W,(binOp .eql 65 (.agg #[.int .i64 R,.int .i64 C,.int .i64 H,.int .i64 B,.int .i64 P]) (.agg #[.int .i64 (cl R 1 99),.int .i64 (cl C 0 100000),.int .i64 (cl H 0 10),.int .i64 (cl B 1 99),.int .i64 (cl P 0 7)])).run Tryz.prog W=.ok (.bool (okVc R C H B P)) W:=fun W=>by rw [zge,zjm]
 have hgd:Tryz.prog.eqGuardType Tryz.prog.depth 65=false:=by kernel_rfl
 generalize okVc R C H B P=Q at *;go_enter Tryz.func100,Tryz.ntmps100;go_wp2_with fail
 generalize (w.alloc (.cells #[.int .i64 R,.int .i64 C,.int .i64 H,.int .i64 B,.int .i64 P] 65))=wb at *;obtain ⟨⟨x0,x1,x2,x3,x4⟩,-⟩:=zB k0;have K0:=hide k0;clear k0
 go_region_held3 (fun W=>W.cell? ⟨w.heap.size,0,none⟩=some (.int .i64 R)∧W.cell? ⟨w.heap.size,1,none⟩=some (.int .i64 C)∧W.cell? ⟨w.heap.size,2,none⟩=some (.int .i64 H)∧W.cell? ⟨w.heap.size,3,none⟩=some (.int .i64 B)∧W.cell? ⟨w.heap.size,4,none⟩=some (.int .i64 P)) (first | assumption | exact (zB k1).1 | go_keep) (first
  | (go_at_call 146; refine (zhq R C H B P _).mono ?_; rintro e w1 ⟨rfl,hb1⟩; have k1:=za K0.out (undrew hb1)))
 go_wp2;go_ret;exact ⟨rfl,zc q0 (undrew hb1)⟩

theorem zeG (R C H B P k:Int) (w:World) :
  Calls Tryz.prog 207 #[.agg #[.int .i64 R,.int .i64 C,.int .i64 H,.int .i64 B,.int .i64 P],.int .i64 k] w fun e w'=>e=.returned (.tuple #[if zaP R C H B P k=true then .agg #[.int .i64 R,.int .i64 (C+k),.int .i64 (H+1),.int .i64 B,.int .i64 P] else .agg #[.int .i64 R,.int .i64 C,.int .i64 H,.int .i64 B,.int .i64 P],.bool (zaP R C H B P k)])∧Below w.heap.size w w':=by
 cases t1:okVc R C H B P
 ·have e:zaP R C H B P k=false:=by unfold zaP; rw [t1]; rfl
  rw [e,if_neg (by simp)];have T1:=hide t1;clear e t1;go_enter Tryz.func207,Tryz.ntmps207;(go_wp2_with fail);refine (zay R C H B P _).mono ?_;rintro e w1 ⟨rfl,hb1⟩;rw [T1.out];have q3:=zc (zba w _ _ _) hb1;obtain ⟨k0,k1,k2⟩:=zbH hb1;obtain ⟨⟨x0,x1,x2,x3,x4⟩,f0,f1,f2,f3,f4⟩:=zB k0;obtain ⟨⟨y0,y1,y2,y3,y4⟩,g0,g1,g2,g3,g4⟩:=zB k1;have HB:=hide q3;have K1:=hide k1;have K2:=hide k2;have K0:=hide k0;clear hb1 k0 k1 k2 q3;go_wp2;exact bodyPost_ret (v:=.tuple #[.agg #[.int .i64 R,.int .i64 C,.int .i64 H,.int .i64 B,.int .i64 P],.bool false]) (by simp [results,Tryz.results207,go_sem, *]) rfl ⟨rfl,zab HB.out (by omega) _ _ _ _ _⟩
 cases t2:(decide (1≤k) && decide (k≤1000))
 ·have e:zaP R C H B P k=false:=by unfold zaP; rw [t1,t2]; rfl
  rw [e,if_neg (by simp)];have T1:=hide t1;have T2:=hide t2;clear e t1 t2;go_enter Tryz.func207,Tryz.ntmps207;(go_wp2_with fail);refine (zay R C H B P _).mono ?_;rintro e w1 ⟨rfl,hb1⟩;rw [T1.out];have q3:=zc (zba w _ _ _) hb1;obtain ⟨k0,k1,k2⟩:=zbH hb1;obtain ⟨⟨x0,x1,x2,x3,x4⟩,f0,f1,f2,f3,f4⟩:=zB k0;obtain ⟨⟨y0,y1,y2,y3,y4⟩,g0,g1,g2,g3,g4⟩:=zB k1;have HB:=hide q3;have K1:=hide k1;have K2:=hide k2;have K0:=hide k0;clear hb1 k0 k1 k2 q3;(go_wp2_with fail);refine (zM k 1 1000 _).mono ?_;rintro e w2 ⟨rfl,rfl⟩;rw [T2.out];go_wp2;exact bodyPost_ret (v:=.tuple #[.agg #[.int .i64 R,.int .i64 C,.int .i64 H,.int .i64 B,.int .i64 P],.bool false]) (by simp [results,Tryz.results207,go_sem, *]) rfl ⟨rfl,zab HB.out (by omega) _ _ _ _ _⟩
 obtain ⟨-,o2,o3,-,-⟩:=zfu t1;have hk:1≤k∧k≤1000:=by simpa using t2
 have es:zaP R C H B P k=okVc R (C+k) (H+1) B P:=by unfold zaP; rw [t1,t2]; rfl
 rw [es];clear es;cases t3:okVc R (C+k) (H+1) B P
 ·rw [if_neg (by simp)];have T1:=hide t1;have T2:=hide t2;have T3:=hide t3;clear t1 t2 t3;go_enter Tryz.func207,Tryz.ntmps207;(go_wp2_with fail);refine (zay R C H B P _).mono ?_;rintro e w1 ⟨rfl,hb1⟩;rw [T1.out];have q3:=zc (zba w _ _ _) hb1;obtain ⟨k0,k1,k2⟩:=zbH hb1;obtain ⟨⟨x0,x1,x2,x3,x4⟩,f0,f1,f2,f3,f4⟩:=zB k0;obtain ⟨⟨y0,y1,y2,y3,y4⟩,g0,g1,g2,g3,g4⟩:=zB k1;have HB:=hide q3;have K1:=hide k1;have K2:=hide k2;have K0:=hide k0;clear hb1 k0 k1 k2 q3;(go_wp2_with fail);refine (zM k 1 1000 _).mono ?_;rintro e w2 ⟨rfl,rfl⟩;rw [T2.out];obtain ⟨⟨z0,z1,z2,z3,z4⟩,-⟩:=zB K2.out;(go_wp2_with fail);refine (zay R (C+k) (H+1) B P _).mono ?_;rintro e w3 ⟨rfl,hb3⟩;rw [T3.out];clear x0 x1 x2 x3 x4 f0 f1 f2 f3 f4 y0 y1 y2 y3 y4 g0 g1 g2 g3 g4 z0 z1 z2 z3 z4;obtain ⟨⟨x0,x1,x2,x3,x4⟩,f0,f1,f2,f3,f4⟩:=zB (za K0.out hb3);obtain ⟨⟨y0,y1,y2,y3,y4⟩,g0,g1,g2,g3,g4⟩:=zB (za K1.out hb3);have HB:=hide (zc HB.out hb3);clear hb3;go_wp2;exact bodyPost_ret (v:=.tuple #[.agg #[.int .i64 R,.int .i64 C,.int .i64 H,.int .i64 B,.int .i64 P],.bool false]) (by simp [results,Tryz.results207,go_sem, *]) rfl ⟨rfl,zab HB.out (by omega) _ _ _ _ _⟩
 ·rw [if_pos rfl];have T1:=hide t1;have T2:=hide t2;have T3:=hide t3;clear t1 t2 t3;go_enter Tryz.func207,Tryz.ntmps207;(go_wp2_with fail);refine (zay R C H B P _).mono ?_;rintro e w1 ⟨rfl,hb1⟩;rw [T1.out];have q3:=zc (zba w _ _ _) hb1;obtain ⟨k0,k1,k2⟩:=zbH hb1;obtain ⟨⟨x0,x1,x2,x3,x4⟩,f0,f1,f2,f3,f4⟩:=zB k0;obtain ⟨⟨y0,y1,y2,y3,y4⟩,g0,g1,g2,g3,g4⟩:=zB k1;have HB:=hide q3;have K1:=hide k1;have K2:=hide k2;have K0:=hide k0;clear hb1 k0 k1 k2 q3;(go_wp2_with fail);refine (zM k 1 1000 _).mono ?_;rintro e w2 ⟨rfl,rfl⟩;rw [T2.out];obtain ⟨⟨z0,z1,z2,z3,z4⟩,-⟩:=zB K2.out;(go_wp2_with fail);refine (zay R (C+k) (H+1) B P _).mono ?_;rintro e w3 ⟨rfl,hb3⟩;rw [T3.out];clear x0 x1 x2 x3 x4 f0 f1 f2 f3 f4 y0 y1 y2 y3 y4 g0 g1 g2 g3 g4 z0 z1 z2 z3 z4;obtain ⟨⟨x0,x1,x2,x3,x4⟩,f0,f1,f2,f3,f4⟩:=zB (za K2.out hb3);obtain ⟨⟨y0,y1,y2,y3,y4⟩,g0,g1,g2,g3,g4⟩:=zB (za K1.out hb3);have HB:=hide (zc HB.out hb3);clear hb3;go_wp2;exact bodyPost_ret (v:=.tuple #[.agg #[.int .i64 R,.int .i64 (C+k),.int .i64 (H+1),.int .i64 B,.int .i64 P],.bool true]) (by simp [results,Tryz.results207,go_sem, *]) rfl ⟨rfl,zab HB.out (by omega) _ _ _ _ _⟩

theorem zgv (x:PT) (w:World) :
  Calls Tryz.prog 205 #[.agg #[.bool x.up,.int .i64 x.k,.bool x.has,.int .i64 x.v.r,.int .i64 x.v.c,.int .i64 x.v.h,.int .i64 x.v.b,.int .i64 x.v.p]] w fun e w'=>e=.returned (.bool (ptOk x))∧Below w.heap.size w w':=by
 have he:∀W,(binOp .eql 65 (.agg #[.int .i64 x.v.r,.int .i64 x.v.c,.int .i64 x.v.h,.int .i64 x.v.b,.int .i64 x.v.p]) (.agg #[.int .i64 0,.int .i64 0,.int .i64 0,.int .i64 0,.int .i64 0])).run Tryz.prog W=.ok (.bool (zeg x.v)) W:=fun W=>by rw [zge]; rfl
 have hgd:Tryz.prog.eqGuardType Tryz.prog.depth 65=false:=by kernel_rfl
 obtain ⟨up,k,has,⟨r,c,h,b,p⟩⟩:=x
 simp only at he ⊢
 generalize hw1:w.alloc (.cells #[.bool up,.int .i64 k,.bool has,.int .i64 r,.int .i64 c,.int .i64 h,.int .i64 b,.int .i64 p] 67)=w1;have q0:=zb hw1;obtain ⟨c0,c1,c2,c3,c4,c5,c6,c7⟩:=zhL (by rw [← hw1]; exact zz w _:w1.heap[w.heap.size]?=_);cases t1:(decide (1≤k) && decide (k≤1000))
 ·have T1:=hide t1;rw [show ptOk ⟨up,k,has,⟨r,c,h,b,p⟩⟩=false by unfold ptOk; rw [t1]; rfl];clear t1;go_enter Tryz.func205,Tryz.ntmps205;(go_wp2_with fail);refine (zM k 1 1000 _).mono ?_;rintro e w2 ⟨rfl,rfl⟩;rw [T1.out];go_wp2;go_ret;exact ⟨rfl,q0⟩
 cases has
 ·rw [show ptOk ⟨up,k,false,⟨r,c,h,b,p⟩⟩=zeg ⟨r,c,h,b,p⟩ by unfold ptOk; rw [t1]; cases up <;> rfl];have T1:=hide t1;generalize zeg ⟨r,c,h,b,p⟩=Q at *;clear t1;go_enter Tryz.func205,Tryz.ntmps205;(go_wp2_with fail);refine (zM k 1 1000 _).mono ?_;rintro e w2 ⟨rfl,rfl⟩;rw [T1.out];go_wp2;go_ret;exact ⟨rfl,q0⟩
 cases up
 ·rw [show ptOk ⟨false,k,true,⟨r,c,h,b,p⟩⟩=false by unfold ptOk; rw [t1]; rfl];have T1:=hide t1;clear t1;go_enter Tryz.func205,Tryz.ntmps205;(go_wp2_with fail);refine (zM k 1 1000 _).mono ?_;rintro e w2 ⟨rfl,rfl⟩;rw [T1.out];go_wp2;go_ret;exact ⟨rfl,q0⟩
 ·rw [show ptOk ⟨true,k,true,⟨r,c,h,b,p⟩⟩=okVc r c h b p by unfold ptOk; rw [t1]; rfl];have T1:=hide t1;clear t1;go_enter Tryz.func205,Tryz.ntmps205;(go_wp2_with fail);refine (zM k 1 1000 _).mono ?_;rintro e w2 ⟨rfl,rfl⟩;rw [T1.out];(go_wp2_with fail);refine (zay r c h b p _).mono ?_;rintro e w3 ⟨rfl,hb3⟩;have HB:=hide (zc q0 hb3);clear hb3;go_wp2;go_ret;exact ⟨rfl,HB.out⟩

def overB (x:PT):Bool:=x.up && (x.has && zbR x.v x.k)
def overV (x:PT):VD:=if (x.up && x.has)=true then (if zbR x.v x.k=true then stepV x.v x.k else x.v) else ⟨0,0,0,0,0⟩

theorem zhZ {x:PT} (h:overB x=true):overV x=stepV x.v x.k:=by
 unfold overB at h;simp only [Bool.and_eq_true] at h;unfold overV;rw [h.1,h.2.1,h.2.2]
 rfl

theorem zcn (id:Int) (x:PT):offers id x=(overB x && decide ((overV x).r < id)):=by
 cases h:overB x
 ·unfold offers overB at *;cases hu:x.up <;> cases hh:x.has <;> cases hs:zbR x.v x.k <;> rw [hu,hh,hs] at h <;> simp_all
 ·rw [zhZ h];unfold overB at h;simp only [Bool.and_eq_true] at h;unfold offers;rw [h.1,h.2.1,h.2.2]
  rfl

theorem zgI (x:PT) (w:World) :
  Calls Tryz.prog 192 #[.agg #[.bool x.up,.int .i64 x.k,.bool x.has,.int .i64 x.v.r,.int .i64 x.v.c,.int .i64 x.v.h,.int .i64 x.v.b,.int .i64 x.v.p]] w fun e w'=>e=.returned (.tuple #[.agg #[.int .i64 (overV x).r,.int .i64 (overV x).c,.int .i64 (overV x).h,.int .i64 (overV x).b,.int .i64 (overV x).p],.bool (overB x)])∧Below w.heap.size w w':=by
 by_cases hno:(x.up && x.has)=false
 ·rw [show overV x=⟨0,0,0,0,0⟩ by unfold overV; rw [hno]; rfl,show overB x=false by unfold overB; cases hu:x.up <;> cases hh:x.has <;> simp_all]
  simp only
  cases hu:x.up
  ·clear hno;go_enter Tryz.func192,Tryz.ntmps192;go_wp2;exact bodyPost_ret (v:=.tuple #[.agg #[.int .i64 0,.int .i64 0,.int .i64 0,.int .i64 0,.int .i64 0],.bool false]) (by simp [results,Tryz.results192,go_sem, *]) rfl ⟨rfl,zX _ _ _⟩
  ·have hh:x.has=false:=by rw [hu] at hno; simpa using hno
   rw [hh];clear hno;go_enter Tryz.func192,Tryz.ntmps192;go_wp2;exact bodyPost_ret (v:=.tuple #[.agg #[.int .i64 0,.int .i64 0,.int .i64 0,.int .i64 0,.int .i64 0],.bool false]) (by simp [results,Tryz.results192,go_sem, *]) rfl ⟨rfl,zX _ _ _⟩
 generalize hw1:w.alloc (.cells #[.bool x.up,.int .i64 x.k,.bool x.has,.int .i64 x.v.r,.int .i64 x.v.c,.int .i64 x.v.h,.int .i64 x.v.b,.int .i64 x.v.p] 67)=w1;generalize hw2:w1.alloc (.cells #[.int .i64 0,.int .i64 0,.int .i64 0,.int .i64 0,.int .i64 0] 65)=w2;have q1:=zb hw1;have q2:=zb hw2;have k1:=zk hw1;have k2:=zk hw2;have hs1:w1.heap.size=w.heap.size+1:=by rw [← hw1]; simp
 rw [hs1] at k2;obtain ⟨c0,c1,c2,c3,c4,c5,c6,c7⟩:=zhL (za k1 q2);have HQ:=hide (zc q1 q2);have K2:=hide k2;have hyes:(x.up && x.has)=true:=by simpa using hno
 have hu:x.up=true:=by simp only [Bool.and_eq_true] at hyes; exact hyes.1
 have hh:x.has=true:=by simp only [Bool.and_eq_true] at hyes; exact hyes.2
 rw [hu] at c0;rw [hh] at c2;generalize hq:overB x=q;generalize hu':overV x=u;have HST:Hid (zaP x.v.r x.v.c x.v.h x.v.b x.v.p x.k=q):=hide (by rw [← hq]; unfold overB zbR; rw [hu,hh]; rfl);have HUV:Hid ((if q=true then Value.agg #[.int .i64 x.v.r,.int .i64 (x.v.c+x.k),.int .i64 (x.v.h+1),.int .i64 x.v.b,.int .i64 x.v.p] else Value.agg #[.int .i64 x.v.r,.int .i64 x.v.c,.int .i64 x.v.h,.int .i64 x.v.b,.int .i64 x.v.p])=.agg #[.int .i64 u.r,.int .i64 u.c,.int .i64 u.h,.int .i64 u.b,.int .i64 u.p]):=hide (by
  rw [← hu'];unfold overV;rw [if_pos hyes];unfold zbR;rw [HST.out];cases q <;> rfl)
 clear hq hu' hu hh hyes hno q1 q2 k1 k2;go_enter Tryz.func192,Tryz.ntmps192;go_wp2_with fail
 refine (zeG x.v.r x.v.c x.v.h x.v.b x.v.p x.k _).mono ?_;rintro e w3 ⟨rfl,hb3⟩;rw [HST.out,HUV.out];obtain ⟨⟨r0,r1,r2,r3,r4⟩,z0,z1,z2,z3,z4⟩:=zB (za K2.out hb3);have HS:=hide (zab (zc HQ.out hb3) (g:=w.heap.size+1) (by omega) (.int .i64 u.r) (.int .i64 u.c) (.int .i64 u.h) (.int .i64 u.b) (.int .i64 u.p));clear hb3 c0 c1 c2 c3 c4 c5 c6 c7;go_wp2;exact bodyPost_ret (v:=.tuple #[.agg #[.int .i64 u.r,.int .i64 u.c,.int .i64 u.h,.int .i64 u.b,.int .i64 u.p],.bool q]) (by simp [results,Tryz.results192,go_sem, *]) rfl ⟨rfl,HS.out⟩

abbrev q220:Oper:=⟨some 47,.call ⟨.value (.func 194),#[.tmp 41,.tmp 46],#[65,3]⟩,211,"l10_role.go:23",#[⟨4,.data⟩,⟨9,.data⟩],none⟩
abbrev q221:Oper:=⟨some 36,.move (.tmp 47),211,"l10_role.go:23",#[⟨10,.data⟩],none⟩
abbrev q222:Oper:=⟨some 48,.extract (.tmp 36) 0,65,"l10_role.go:23",#[⟨11,.data⟩],none⟩
abbrev q223:Oper:=⟨some 49,.extract (.tmp 36) 1,4,"l10_role.go:23",#[⟨11,.data⟩,{ on:=15,ground:=Ground.gcOnly Departure.lateStores }],none⟩
abbrev q224:Oper:=⟨some 10,.alloc 65,0,"l10_role.go:23",#[],none⟩
abbrev q225:Oper:=⟨none,.store 65 (.tmp 10) (.tmp 48),0,"l10_role.go:23",#[⟨14,.data⟩,⟨12,.data⟩,⟨10,.chain⟩,⟨0,.phase⟩,⟨1,.phase⟩,⟨2,.phase⟩,⟨3,.phase⟩,⟨4,.phase⟩,⟨5,.phase⟩,⟨6,.phase⟩,⟨7,.phase⟩,⟨8,.phase⟩,⟨9,.phase⟩,⟨10,.phase⟩,⟨11,.phase⟩,⟨12,.phase⟩,{ on:=13,ground:=Ground.textOnly Departure.lateStores },⟨14,.phase⟩],none⟩
abbrev q226:Oper:=⟨some 11,.assign (.tmp 49),4,"l10_role.go:23",#[⟨13,.data⟩,⟨15,.chain⟩,⟨0,.phase⟩,⟨1,.phase⟩,⟨2,.phase⟩,⟨3,.phase⟩,⟨4,.phase⟩,⟨5,.phase⟩,⟨6,.phase⟩,⟨7,.phase⟩,⟨8,.phase⟩,⟨9,.phase⟩,⟨10,.phase⟩,⟨11,.phase⟩,⟨12,.phase⟩,⟨13,.phase⟩,⟨14,.phase⟩,⟨15,.phase⟩],none⟩

theorem zdq {w:World} {g:Nat} {c0 c1 c2 c3 c4:Value} {T:TypeId} (h:w.heap[g]?=some (.cells #[c0,c1,c2,c3,c4] T)) (u0 u1 u2 u3 u4:Value):(((((w.setCell ⟨g,0,none⟩ u0).setCell ⟨g,1,none⟩ u1).setCell ⟨g,2,none⟩ u2).setCell ⟨g,3,none⟩ u3).setCell ⟨g,4,none⟩ u4).heap[g]?=some (.cells #[u0,u1,u2,u3,u4] T) :=
 zC (j:=4) (zC (j:=3) (zC (j:=2) (zC (j:=1) (zC (j:=0) h u0) u1) u2) u3) u4

theorem zbL {w:World} {i g:Nat} {o:Obj} (h:w.heap[i]?=some o) (hne:i≠g) (u0 u1 u2 u3 u4:Value):(((((w.setCell ⟨g,0,none⟩ u0).setCell ⟨g,1,none⟩ u1).setCell ⟨g,2,none⟩ u2).setCell ⟨g,3,none⟩ u3).setCell ⟨g,4,none⟩ u4).heap[i]?=some o :=
 zap (zap (zap (zap (zap h hne) hne) hne) hne) hne

structure BvSt (w W:World) (v f:VD):Prop where
 res:W.heap[w.heap.size]?=some (.cells #[.int .i64 0,.int .i64 0,.int .i64 0,.int .i64 0,.int .i64 0] 65)
 best:W.heap[w.heap.size+1]?=some (.cells #[.int .i64 v.r,.int .i64 v.c,.int .i64 v.h,.int .i64 v.b,.int .i64 v.p] 65)
 frm:W.heap[w.heap.size+1+1]?=some (.cells #[.int .i64 f.r,.int .i64 f.c,.int .i64 f.h,.int .i64 f.b,.int .i64 f.p] 65)
 below:Below w.heap.size w W

theorem BvSt.later {w W W':World} {v f:VD} (h:BvSt w W v f) (hb:Below W.heap.size W W'):BvSt w W' v f :=
 ⟨za h.res hb,za h.best hb,za h.frm hb,zc h.below hb⟩

theorem BvSt.setBest {w W:World} {v f:VD} (h:BvSt w W v f) (u:VD):BvSt w (((((W.setCell ⟨w.heap.size+1,0,none⟩ (.int .i64 u.r)).setCell ⟨w.heap.size+1,1,none⟩ (.int .i64 u.c)).setCell ⟨w.heap.size+1,2,none⟩ (.int .i64 u.h)).setCell ⟨w.heap.size+1,3,none⟩ (.int .i64 u.b)).setCell ⟨w.heap.size+1,4,none⟩ (.int .i64 u.p)) u f :=
 ⟨zbL h.res (by omega) _ _ _ _ _,zdq h.best _ _ _ _ _,zbL h.frm (by omega) _ _ _ _ _,zab h.below (by omega) _ _ _ _ _⟩

theorem BvSt.setFrom {w W:World} {v f:VD} (h:BvSt w W v f) (u:VD):BvSt w (((((W.setCell ⟨w.heap.size+1+1,0,none⟩ (.int .i64 u.r)).setCell ⟨w.heap.size+1+1,1,none⟩ (.int .i64 u.c)).setCell ⟨w.heap.size+1+1,2,none⟩ (.int .i64 u.h)).setCell ⟨w.heap.size+1+1,3,none⟩ (.int .i64 u.b)).setCell ⟨w.heap.size+1+1,4,none⟩ (.int .i64 u.p)) v u :=
 ⟨zbL h.res (by omega) _ _ _ _ _,zbL h.best (by omega) _ _ _ _ _,zdq h.frm _ _ _ _ _,zab h.below (by omega) _ _ _ _ _⟩

theorem zbO (id:Int) (a:Option Addr) (n c:Nat) (l:List PT) (w:World) (h:GRow ptF w a n c l) :
  Calls Tryz.prog 161 #[.int .i64 id,.slice a n c] w fun e w'=>e=.returned (.tuple #[.agg #[.int .i64 (bestV id (zR id l)).r,.int .i64 (bestV id (zR id l)).c,.int .i64 (bestV id (zR id l)).h,.int .i64 (bestV id (zR id l)).b,.int .i64 (bestV id (zR id l)).p],.int .i64 (bestP (zR id l))])∧Below w.heap.size w w':=by
 have hle:=h.le;have htop:=h.top;unfold maxLen at htop;have hsz:=hide h.size;go_enter Tryz.func161,Tryz.ntmps161;go_wp2_with fail
 generalize hw3:((w.alloc (Obj.cells #[.int .i64 0,.int .i64 0,.int .i64 0,.int .i64 0,.int .i64 0] 65)).alloc (Obj.cells #[.int .i64 id,.int .i64 0,.int .i64 0,.int .i64 id,.int .i64 0] 65)).alloc (Obj.cells #[.int .i64 0,.int .i64 0,.int .i64 0,.int .i64 0,.int .i64 0] 65)=w3;have st3:BvSt w w3 (bestV id none) (fromV none):=by
  subst hw3;obtain ⟨k0,k1,k2⟩:=zbH (Below.refl _ (((w.alloc (Obj.cells #[.int .i64 0,.int .i64 0,.int .i64 0,.int .i64 0,.int .i64 0] 65)).alloc (Obj.cells #[.int .i64 id,.int .i64 0,.int .i64 0,.int .i64 id,.int .i64 0] 65)).alloc (Obj.cells #[.int .i64 0,.int .i64 0,.int .i64 0,.int .i64 0,.int .i64 0] 65)));exact ⟨k0,k1,k2,zba _ _ _ _⟩
 clear hw3
 go_loopw [8,9] (fun p i wr=>∃(k:Nat) (s:Option (VD × Nat)),k≤n∧i=.int .i64 k∧p=.int .i64 (bestP s)∧zaW id l k=s∧BvSt w wr (bestV id s) (fromV s)) (fun _ i _=>n - (intOf i).toNat)
 case atStart=>exact ⟨0,none,Nat.zero_le _,rfl,rfl,rfl,st3⟩
 case round =>
  obtain ⟨k,s,hk,rfl,rfl,hs,st⟩:=hrel;obtain ⟨bv,hbv⟩:∃y,y=bestV id s:=⟨_,rfl⟩;obtain ⟨fv,hfv⟩:∃y,y=fromV s:=⟨_,rfl⟩;have BACK:Hid (∀W,BvSt w W bv fv→BvSt w W (bestV id s) (fromV s)):=hide (by subst hbv hfv; exact fun W h=>h);rw [← hbv,← hfv] at st;have HBV:=hide hbv;have HFV:=hide hfv;clear hbv hfv;by_cases hlt:k < n
  ·obtain ⟨x,b,off,hx,rfl,c0,c1,c2,c3,c4,c5,c6,c7⟩:=pt_at (h.below st.below) k hlt;have hnx:=zdh (id:=id) hx;rw [hs] at hnx;have i1:(0:Int)≤(k:Int):=by omega
   have i2:(k:Int) < (n:Int):=by omega
   have NX:=hide hnx;clear hs hnx hx;cases hu:x.up
   ·rw [hu] at c0;have HE:=hide (NX.out.trans (zbs (by unfold offers; rw [hu]; rfl)));clear hu c1 c2 c3 c4 c5 c6 c7;go_wp2
    go_roundw
    case rel=>exact ⟨k+1,s,by omega,by go_num,rfl,HE.out,BACK.out _ st⟩
    case measure=>simp [intOf]; omega
   cases hh:x.has
   ·rw [hu] at c0;rw [hh] at c2;have HE:=hide (NX.out.trans (zbs (by unfold offers; rw [hu,hh]; rfl)));clear hu hh c1 c3 c4 c5 c6 c7;go_wp2
    go_roundw
    case rel=>exact ⟨k+1,s,by omega,by go_num,rfl,HE.out,BACK.out _ st⟩
    case measure=>simp [intOf]; omega
   rw [hu] at c0;rw [hh] at c2;have HUH:Hid (x.up=true∧x.has=true):=hide ⟨hu,hh⟩;have HSS:Hid (∀W',Below wr.heap.size wr W'→W'.cell? ⟨b,off+k*8+1,none⟩=some (.int .i64 x.k)∧W'.cell? ⟨b,off+k*8+3,none⟩=some (.int .i64 x.v.r)∧W'.cell? ⟨b,off+k*8+4,none⟩=some (.int .i64 x.v.c)∧W'.cell? ⟨b,off+k*8+5,none⟩=some (.int .i64 x.v.h)∧W'.cell? ⟨b,off+k*8+6,none⟩=some (.int .i64 x.v.b)∧W'.cell? ⟨b,off+k*8+7,none⟩=some (.int .i64 x.v.p)):=hide (fun W' hb=>⟨(hb.cell (zo c1)).trans c1,(hb.cell (zo c3)).trans c3,(hb.cell (zo c4)).trans c4,(hb.cell (zo c5)).trans c5,(hb.cell (zo c6)).trans c6,(hb.cell (zo c7)).trans c7⟩);obtain ⟨q,hq⟩:∃q,zaP x.v.r x.v.c x.v.h x.v.b x.v.p x.k=q:=⟨_,rfl⟩;obtain ⟨u,hu'⟩:∃u,u=(if q=true then stepV x.v x.k else x.v):=⟨_,rfl⟩;have HST:=hide hq;have HQ:Hid ((if q=true then Value.agg #[.int .i64 x.v.r,.int .i64 (x.v.c+x.k),.int .i64 (x.v.h+1),.int .i64 x.v.b,.int .i64 x.v.p] else Value.agg #[.int .i64 x.v.r,.int .i64 x.v.c,.int .i64 x.v.h,.int .i64 x.v.b,.int .i64 x.v.p])=.agg #[.int .i64 u.r,.int .i64 u.c,.int .i64 u.h,.int .i64 u.b,.int .i64 u.p]):=hide (by subst hu'; cases q <;> rfl);have HU:=hide hu';have ST:=hide st;clear hq hu' hu hh c1 c3 c4 c5 c6 c7;(go_upto_region 8 with fail);clear c0 c2
   go_cut [10,11] from 16 to 75 (fun s10 s11 wx=>∃g:Nat,s10=.pointer (some ⟨g,0,none⟩)∧s11=.bool q∧wr.heap.size≤g∧wx.heap[g]?=some (.cells #[.int .i64 u.r,.int .i64 u.c,.int .i64 u.h,.int .i64 u.b,.int .i64 u.p] 65)∧Below wr.heap.size wr wx)
   case first =>
    have vv:Below wr.heap.size wr wr.drew:=zw (Below.refl _ _);(go_wp2_with fail);refine wp_region_held_drew (S:=(fun W=>W.cell? ⟨b,off+k*8+1,none⟩=some (.int .i64 x.k)∧W.cell? ⟨b,off+k*8+3,none⟩=some (.int .i64 x.v.r)∧W.cell? ⟨b,off+k*8+4,none⟩=some (.int .i64 x.v.c)∧W.cell? ⟨b,off+k*8+5,none⟩=some (.int .i64 x.v.h)∧W.cell? ⟨b,off+k*8+6,none⟩=some (.int .i64 x.v.b)∧W.cell? ⟨b,off+k*8+7,none⟩=some (.int .i64 x.v.p))) (by kernel_rfl) (HSS.out _ vv) (fun hHeld => ?_);refine kK 0 ⟨some 37,.move (.tmp 1),57,"l10_role.go:23",#[],none⟩ ?_;refine kK 1 ⟨some 38,.move (.tmp 9),3,"l10_role.go:23",#[],none⟩ ?_;refine kK 2 ⟨some 39,.indexAddr 57 (.tmp 37) (.tmp 38),0,"l10_role.go:23",#[⟨0,.data⟩,⟨1,.data⟩],none⟩ ?_;refine kK 3 ⟨some 40,.fieldAddr 67 (.tmp 39) 3,0,"l10_role.go:23",#[⟨2,.data⟩],none⟩ ?_;refine kK 4 ⟨some 41,.load 65 (.tmp 40),65,"l10_role.go:23",#[⟨3,.data⟩],none⟩ ?_;refine kK 5 ⟨some 42,.move (.tmp 1),57,"l10_role.go:23",#[],none⟩ ?_;refine kK 6 ⟨some 43,.move (.tmp 9),3,"l10_role.go:23",#[],none⟩ ?_;refine kK 7 ⟨some 44,.indexAddr 57 (.tmp 42) (.tmp 43),0,"l10_role.go:23",#[⟨5,.data⟩,⟨6,.data⟩],none⟩ ?_;refine kK 8 ⟨some 45,.fieldAddr 67 (.tmp 44) 1,0,"l10_role.go:23",#[⟨7,.data⟩],none⟩ ?_;refine kK 9 ⟨some 46,.load 3 (.tmp 45),3,"l10_role.go:23",#[⟨8,.data⟩],none⟩ ?_;refine tR [10,14] ?_;refine AllReadyH.cons (o:=q220) rfl (fun K hK => ?_) ?_
    ·go_simp;refine (zcM x.v.r x.v.c x.v.h x.v.b x.v.p x.k _).mono ?_;rintro e wx ⟨rfl,hbx⟩;rw [HST.out,HQ.out];(try have kB:=za kB hbx);have vv:=zc vv hbx;clear hbx;(go_wp2_with fail);refine hK.out _ _ (HSS.out _ vv) (fun hHeld => ?_);clear hK K;(try simp only [Act.put,lA,lB,lC]);refine kK 11 q221 ?_;refine kK 12 q222 ?_;refine kK 13 q223 ?_;refine kR 14 q224 (fun K hK => ?_);go_simp
     first
     | refine zy (K:=K _) (fun wx kB hbx => ?_)
     | refine zp (K:=K _) (fun wx kB hbx => ?_)
     have gB:=vv.size;have vv:=zc vv hbx;clear hbx;refine hK.out _ _ (HSS.out _ vv) (fun hHeld => ?_);clear hK K;(try simp only [Act.put,lA,lB,lC]);refine kR 15 q225 (fun K hK => ?_);obtain ⟨⟨b0,b1,b2,b3,b4⟩,f0,f1,f2,f3,f4⟩:=zB kB;go_simp;have vv:=zab vv gB (.int .i64 u.r) (.int .i64 u.c) (.int .i64 u.h) (.int .i64 u.b) (.int .i64 u.p);have kB:=zdq kB (.int .i64 u.r) (.int .i64 u.c) (.int .i64 u.h) (.int .i64 u.b) (.int .i64 u.p);clear b0 b1 b2 b3 b4 f0 f1 f2 f3 f4;refine hK.out _ _ (HSS.out _ vv) (fun hHeld => ?_);clear hK K;(try simp only [Act.put,lA,lB,lC]);refine kK 16 q226 ?_;refine wpAnyH_done (by kernel_rfl) ?_ _;clear hHeld;(go_wp2_with fail)
     go_meet
     exact ⟨_,rfl,rfl,gB,kB,vv⟩
    refine AllReadyH.cons (o:=q224) rfl (fun K hK => ?_) ?_
    ·go_simp
     first
     | refine zy (K:=K _) (fun wx kB hbx => ?_)
     | refine zp (K:=K _) (fun wx kB hbx => ?_)
     have gB:=vv.size;have vv:=zc vv hbx;clear hbx;refine hK.out _ _ (HSS.out _ vv) (fun hHeld => ?_);clear hK K;(try simp only [Act.put,lA,lB,lC]);refine kR 10 q220 (fun K hK => ?_);go_simp;refine (zcM x.v.r x.v.c x.v.h x.v.b x.v.p x.k _).mono ?_;rintro e wx ⟨rfl,hbx⟩;rw [HST.out,HQ.out];(try have kB:=za kB hbx);have vv:=zc vv hbx;clear hbx;(go_wp2_with fail);refine hK.out _ _ (HSS.out _ vv) (fun hHeld => ?_);clear hK K;(try simp only [Act.put,lA,lB,lC]);refine kK 11 q221 ?_;refine kK 12 q222 ?_;refine kK 13 q223 ?_;refine kR 15 q225 (fun K hK => ?_);obtain ⟨⟨b0,b1,b2,b3,b4⟩,f0,f1,f2,f3,f4⟩:=zB kB;go_simp;have vv:=zab vv gB (.int .i64 u.r) (.int .i64 u.c) (.int .i64 u.h) (.int .i64 u.b) (.int .i64 u.p);have kB:=zdq kB (.int .i64 u.r) (.int .i64 u.c) (.int .i64 u.h) (.int .i64 u.b) (.int .i64 u.p);clear b0 b1 b2 b3 b4 f0 f1 f2 f3 f4;refine hK.out _ _ (HSS.out _ vv) (fun hHeld => ?_);clear hK K;(try simp only [Act.put,lA,lB,lC]);refine kK 16 q226 ?_;refine wpAnyH_done (by kernel_rfl) ?_ _;clear hHeld;(go_wp2_with fail)
     go_meet
     exact ⟨_,rfl,rfl,gB,kB,vv⟩
    exact AllReadyH.nil
   case rest =>
    obtain ⟨g,rfl,rfl,hg,kX,hb⟩:=hcut;obtain ⟨wS,hwS⟩:∃x,x=wc:=⟨_,rfl⟩;subst hwS;have st:=ST.out.later hb;have hz:=ST.out.frm;have hlt2:=(Array.getElem?_eq_some_iff.1 hz).1;have ne1:¬g=w.heap.size+1+1:=by omega
    have ne2:¬w.heap.size+1+1=g:=by omega
    have ne3:¬g=w.heap.size+1:=by omega
    have ne4:¬w.heap.size+1=g:=by omega
    obtain ⟨⟨x0,x1,x2,x3,x4⟩,-⟩:=zB kX;have KX:=hide kX;clear hb hz hlt2 hg kX;cases q
    ·have HE:=hide (NX.out.trans (zbs (by unfold offers zbR; rw [HST.out]; simp)));go_wp2
     go_roundw
     case rel=>exact ⟨k+1,s,by omega,by go_num,rfl,HE.out,BACK.out _ st⟩
     case measure=>simp [intOf]; omega
    have hur:u.r=x.v.r:=by rw [HU.out]; rfl
    cases hlr:decide (u.r < id)
    ·have HE:=hide (NX.out.trans (zbs (by unfold offers; rw [← hur,hlr]; simp)));have hlr:¬u.r < id:=by simpa using hlr
     clear hur;go_wp2
     go_roundw
     case rel=>exact ⟨k+1,s,by omega,by go_num,rfl,HE.out,BACK.out _ st⟩
     case measure=>simp [intOf]; omega
    have ho:offers id x=true:=by unfold offers zbR; rw [HUH.out.1,HUH.out.2,HST.out,← hur,hlr]; rfl
    have hlr:u.r < id:=by simpa using hlr
    have huu:stepV x.v x.k=u:=HU.out.symm;have HO:=hide ho;have HUU:=hide huu;clear hur ho huu;clear ne3 ne4;cases s with
    | none =>
     have HE:Hid (zaW id l (k+1)=some (u,k)):=hide (by rw [NX.out]; unfold za7; rw [if_pos HO.out,HUU.out]);rw [show bestP none = -1 from rfl];have SL:=hide st;obtain ⟨⟨z0,z1,z2,z3,z4⟩,v0,v1,v2,v3,v4⟩:=zB st.frm;clear st;(go_upto_region 11 with fail);generalize hwf:((((wS.setCell ⟨w.heap.size+1+1,0,none⟩ (.int .i64 u.r)).setCell ⟨w.heap.size+1+1,1,none⟩ (.int .i64 u.c)).setCell ⟨w.heap.size+1+1,2,none⟩ (.int .i64 u.h)).setCell ⟨w.heap.size+1+1,3,none⟩ (.int .i64 u.b)).setCell ⟨w.heap.size+1+1,4,none⟩ (.int .i64 u.p)=wf;have stf:BvSt w wf bv u:=by rw [← hwf]; exact SL.out.setFrom u
     have kf:wf.heap[g]?=some (.cells #[.int .i64 u.r,.int .i64 u.c,.int .i64 u.h,.int .i64 u.b,.int .i64 u.p] 65):=by rw [← hwf]; exact zbL KX.out (by omega) _ _ _ _ _
     clear hwf x0 x1 x2 x3 x4 v0 v1 v2 v3 v4 z0 z1 z2 z3 z4;obtain ⟨⟨x0,x1,x2,x3,x4⟩,-⟩:=zB kf;obtain ⟨⟨n0,n1,n2,n3,n4⟩,m0,m1,m2,m3,m4⟩:=zB stf.best;have HSET:Hid (BvSt w _ ⟨u.r,u.c,u.h,id,0⟩ u):=hide (stf.setBest ⟨u.r,u.c,u.h,id,0⟩);clear stf kf;go_wp2
     go_roundw
     case rel=>exact ⟨k+1,some (u,k),by omega,by go_num,rfl,HE.out,HSET.out⟩
     case measure=>simp [intOf]; omega
    | some fj =>
     obtain ⟨f,j⟩:=fj;rw [show bestP (some (f,j))=(j:Int) from rfl];have hneg:¬((j:Int) < 0):=by omega
     have hff:fv=f:=HFV.out;subst hff;obtain ⟨⟨z0,z1,z2,z3,z4⟩,-⟩:=zB st.frm;cases hl:lessV u fv
     ·have HE:Hid (zaW id l (k+1)=some (fv,j)):=hide (by rw [NX.out]; unfold za7; rw [if_pos HO.out,HUU.out]; simp only; rw [if_neg (by rw [hl]; decide)]);have HL:Hid (zaM u.r u.c u.b u.p fv.r fv.c fv.b fv.p=false):=hide hl;clear hl;(go_wp2_with fail);refine (zbo u.r u.c u.h u.b u.p fv.r fv.c fv.h fv.b fv.p _).mono ?_;rintro e wl ⟨rfl,hbl⟩;rw [HL.out];have SL:=hide (st.later hbl);clear hbl st z0 z1 z2 z3 z4 x0 x1 x2 x3 x4;go_wp2
      go_roundw
      case rel=>exact ⟨k+1,some (fv,j),by omega,by go_num,rfl,HE.out,BACK.out _ SL.out⟩
      case measure=>simp [intOf]; omega
     ·have HE:Hid (zaW id l (k+1)=some (u,k)):=hide (by rw [NX.out]; unfold za7; rw [if_pos HO.out,HUU.out]; simp only; rw [if_pos hl]);have HL:Hid (zaM u.r u.c u.b u.p fv.r fv.c fv.b fv.p=true):=hide hl;clear hl;(go_wp2_with fail);refine (zbo u.r u.c u.h u.b u.p fv.r fv.c fv.h fv.b fv.p _).mono ?_;rintro e wl ⟨rfl,hbl⟩;rw [HL.out];have SL:=hide (st.later hbl);have KX:=hide (za KX.out hbl);clear hbl st z0 z1 z2 z3 z4 x0 x1 x2 x3 x4;obtain ⟨⟨x0,x1,x2,x3,x4⟩,-⟩:=zB KX.out;obtain ⟨⟨z0,z1,z2,z3,z4⟩,v0,v1,v2,v3,v4⟩:=zB SL.out.frm;(go_upto_region 11 with fail);generalize hwf:((((wl.setCell ⟨w.heap.size+1+1,0,none⟩ (.int .i64 u.r)).setCell ⟨w.heap.size+1+1,1,none⟩ (.int .i64 u.c)).setCell ⟨w.heap.size+1+1,2,none⟩ (.int .i64 u.h)).setCell ⟨w.heap.size+1+1,3,none⟩ (.int .i64 u.b)).setCell ⟨w.heap.size+1+1,4,none⟩ (.int .i64 u.p)=wf;have stf:BvSt w wf bv u:=by rw [← hwf]; exact SL.out.setFrom u
      have kf:wf.heap[g]?=some (.cells #[.int .i64 u.r,.int .i64 u.c,.int .i64 u.h,.int .i64 u.b,.int .i64 u.p] 65):=by rw [← hwf]; exact zbL KX.out (by omega) _ _ _ _ _
      clear hwf x0 x1 x2 x3 x4 v0 v1 v2 v3 v4 z0 z1 z2 z3 z4;obtain ⟨⟨x0,x1,x2,x3,x4⟩,-⟩:=zB kf;obtain ⟨⟨n0,n1,n2,n3,n4⟩,m0,m1,m2,m3,m4⟩:=zB stf.best;have HSET:Hid (BvSt w _ ⟨u.r,u.c,u.h,id,0⟩ u):=hide (stf.setBest ⟨u.r,u.c,u.h,id,0⟩);clear stf kf;go_wp2
      go_roundw
      case rel=>exact ⟨k+1,some (u,k),by omega,by go_num,rfl,HE.out,HSET.out⟩
      case measure=>simp [intOf]; omega
  ·have hkn:k=n:=by omega
   subst hkn;have HB:Hid (zR id l=s):=hide (by unfold zR; rw [hsz.out]; exact hs);obtain ⟨⟨x0,x1,x2,x3,x4⟩,y0,y1,y2,y3,y4⟩:=zB st.best;obtain ⟨⟨r0,r1,r2,r3,r4⟩,z0,z1,z2,z3,z4⟩:=zB st.res;have ne:¬w.heap.size=w.heap.size+1:=by omega
   have hb:=zab st.below (Nat.le_refl w.heap.size) (.int .i64 bv.r) (.int .i64 bv.c) (.int .i64 bv.h) (.int .i64 bv.b) (.int .i64 bv.p);clear hs st;go_wp2;exact bodyPost_ret (v:=.tuple #[.agg #[.int .i64 bv.r,.int .i64 bv.c,.int .i64 bv.h,.int .i64 bv.b,.int .i64 bv.p],.int .i64 (bestP s)]) (by simp [results,Tryz.results161,go_sem, *]) rfl ⟨(by rw [HB.out,← HBV.out]),hb⟩

end Go.Proofs.YtkoekkjfcaiagaaGreat
