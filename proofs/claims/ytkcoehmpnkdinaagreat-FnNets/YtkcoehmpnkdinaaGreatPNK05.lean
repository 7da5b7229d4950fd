/-
  Packed: BitPort MapIs MapEnt FdbKeys PtRole PtSends BrList0 GTake.
-/
import Derived.Test.YtkcoehmpnkdinaaGreatPNK04
import Derived.Maps.RangeWalk
namespace Go.Proofs.YtkcoehmpnkdinaaGreat
set_option maxRecDepth 100000
set_option maxHeartbeats 16000000
open Go.RowKit

theorem zev {n port:Int} (h:in3 port 0 7=false):bitOf n port=false:=by
 unfold bitOf;rw [h]
 rfl

theorem zhT {n:Int} {k:Nat} (h:k≤7):bitOf n (k:Int)=(bits .and .i64 (n / 2 ^ k) 1 == 1):=by
 unfold bitOf in3;rw [Int.toNat_natCast,decide_eq_true (show (0:Int)≤(k:Int) by omega),decide_eq_true (show (k:Int)≤7 by omega)]
 rfl

theorem zhM (n port:Int) (w:World) :
  Calls Tryz.prog 88 #[.int .i64 n,.int .i64 port] w fun e w'=>e=.returned (.bool (bitOf n port))∧w'=w:=by
 cases hin:in3 port 0 7
 ·rw [zev hin];have HIN:=hide hin;clear hin;go_enter Tryz.func88,Tryz.ntmps88;(go_wp2_with fail);refine (zh port 0 7 _).mono ?_;rintro e w1 ⟨rfl,e1⟩;obtain rfl:=e1.symm;rw [show (decide (0≤port) && decide (port≤7))=false from HIN.out];go_wp2;go_ret;exact ⟨rfl,rfl⟩
 ·have hp:0≤port∧port≤7:=by unfold in3 at hin; simpa using hin
  obtain ⟨k,rfl⟩:∃k:Nat,port=(k:Int):=⟨port.toNat,by omega⟩;rw [zhT (by omega)];generalize hB:(bits .and .i64 (n / 2 ^ k) 1 == 1)=B;have hwk:IntKind.u64.wrap (k:Int)=(k:Int):=by rw [IntKind.wrap_u64]; omega
  have HIN:=hide hin;clear hin;go_enter Tryz.func88,Tryz.ntmps88;(go_wp2_with fail);refine (zh (k:Int) 0 7 _).mono ?_;rintro e w1 ⟨rfl,e1⟩;obtain rfl:=e1.symm;rw [show (decide (0≤(k:Int)) && decide ((k:Int)≤7))=true from HIN.out];go_wp2;go_ret;exact ⟨zH (by first | rfl | simp [hB]),rfl⟩

def hasP (n port:Int):Bool:=decide (0≤port) && (bits .and .i64 n (2 ^ port.toNat) != 0)

theorem zjt {n port:Int} (hn:I64 n) (h:port≤7∨(port≤9∧0≤n∧n≤63)):hasP n port=bitOf n port:=by
 unfold hasP;by_cases h0:0≤port
 ·obtain ⟨k,rfl⟩:∃k:Nat,port=(k:Int):=⟨port.toNat,by omega⟩;rw [decide_eq_true h0,Bool.true_and,Int.toNat_natCast,zkh n k (by omega) hn];by_cases h7:k≤7
  ·rw [zhT h7]
  ·rw [zev (by unfold in3; rw [decide_eq_false (show ¬(k:Int)≤7 by omega),Bool.and_false])];have hn2:0≤n∧n≤63:=by rcases h with h | h <;> omega
   rcases (show k=8∨k=9 by omega) with rfl | rfl
   ·rw [show n / 2 ^ 8=0 by simp; omega]
    decide
   ·rw [show n / 2 ^ 9=0 by simp; omega]
    decide
 ·rw [decide_eq_false h0,Bool.false_and,zev (by unfold in3; rw [decide_eq_false h0,Bool.false_and])]

theorem zeF (n port:Int) (hp:port≤9) (w:World) :
  Calls Tryz.prog 138 #[.int .i64 n,.int .i64 port] w fun e w'=>e=.returned (.bool (hasP n port))∧w'=w:=by
 by_cases h0:0≤port
 ·have hx:port=0∨port=1∨port=2∨port=3∨port=4∨port=5∨port=6∨port=7∨port=8∨port=9:=by omega
  rcases hx with rfl | rfl | rfl | rfl | rfl | rfl | rfl | rfl | rfl | rfl
  ·rw [show hasP n 0=(bits .and .i64 n 1 != 0) from rfl];generalize hB:(bits .and .i64 n 1 != 0)=B;go_enter Tryz.func138,Tryz.ntmps138;go_wp2;go_ret;exact ⟨zH (by first | rfl | simp [hB]),rfl⟩
  ·rw [show hasP n 1=(bits .and .i64 n 2 != 0) from rfl];generalize hB:(bits .and .i64 n 2 != 0)=B;go_enter Tryz.func138,Tryz.ntmps138;go_wp2;go_ret;exact ⟨zH (by first | rfl | simp [hB]),rfl⟩
  ·rw [show hasP n 2=(bits .and .i64 n 4 != 0) from rfl];generalize hB:(bits .and .i64 n 4 != 0)=B;go_enter Tryz.func138,Tryz.ntmps138;go_wp2;go_ret;exact ⟨zH (by first | rfl | simp [hB]),rfl⟩
  ·rw [show hasP n 3=(bits .and .i64 n 8 != 0) from rfl];generalize hB:(bits .and .i64 n 8 != 0)=B;go_enter Tryz.func138,Tryz.ntmps138;go_wp2;go_ret;exact ⟨zH (by first | rfl | simp [hB]),rfl⟩
  ·rw [show hasP n 4=(bits .and .i64 n 16 != 0) from rfl];generalize hB:(bits .and .i64 n 16 != 0)=B;go_enter Tryz.func138,Tryz.ntmps138;go_wp2;go_ret;exact ⟨zH (by first | rfl | simp [hB]),rfl⟩
  ·rw [show hasP n 5=(bits .and .i64 n 32 != 0) from rfl];generalize hB:(bits .and .i64 n 32 != 0)=B;go_enter Tryz.func138,Tryz.ntmps138;go_wp2;go_ret;exact ⟨zH (by first | rfl | simp [hB]),rfl⟩
  ·rw [show hasP n 6=(bits .and .i64 n 64 != 0) from rfl];generalize hB:(bits .and .i64 n 64 != 0)=B;go_enter Tryz.func138,Tryz.ntmps138;go_wp2;go_ret;exact ⟨zH (by first | rfl | simp [hB]),rfl⟩
  ·rw [show hasP n 7=(bits .and .i64 n 128 != 0) from rfl];generalize hB:(bits .and .i64 n 128 != 0)=B;go_enter Tryz.func138,Tryz.ntmps138;go_wp2;go_ret;exact ⟨zH (by first | rfl | simp [hB]),rfl⟩
  ·rw [show hasP n 8=(bits .and .i64 n 256 != 0) from rfl];generalize hB:(bits .and .i64 n 256 != 0)=B;go_enter Tryz.func138,Tryz.ntmps138;go_wp2;go_ret;exact ⟨zH (by first | rfl | simp [hB]),rfl⟩
  ·rw [show hasP n 9=(bits .and .i64 n 512 != 0) from rfl];generalize hB:(bits .and .i64 n 512 != 0)=B;go_enter Tryz.func138,Tryz.ntmps138;go_wp2;go_ret;exact ⟨zH (by first | rfl | simp [hB]),rfl⟩
 ·rw [show hasP n port=false by unfold hasP; rw [decide_eq_false h0]; rfl];go_enter Tryz.func138,Tryz.ntmps138;go_wp2;go_ret;exact ⟨rfl,rfl⟩

section
open Go.RowKit Go.ChangeMaps Go.MapKept
open Go.WideElems (Fit rd rd_mk rd_key other_key)
open Go.Maps (Keyed)

def rdAny (_:Value):Option (DataW Unit × List MemPlace):=some (.nil,[])

structure MK (P:Program) (α β:Type) where
 T:TypeId
 K:TypeId
 E:TypeId
 law:Keyed P K
 und:P.underlying T=some (.map K E)
 kv:α→Value
 vv:β→Value
 ok:α→Prop
 key:∀a,ok a→∃l,keyOf P K (kv a)=some l
 inj:∀a b,kv a=kv b→a=b
 z:β
 zero:∀w,(zeroValue E).run P w=.ok (vv z) w

def upd {α γ:Type} [DecidableEq α] (g:α→γ) (a:α) (v:γ):α→γ:=fun x=>if x=a then v else g x

theorem zav {α γ:Type} [DecidableEq α] (g:α→γ) (a:α) (v:γ):upd g a v a=v:=if_pos rfl
theorem zai {α γ:Type} [DecidableEq α] (g:α→γ) {a b:α} (v:γ) (h:b≠a):upd g a v b=g b:=if_neg h

variable {P:Program} {α β:Type}

structure Ents (M:MK P α β) (es:Array MapEntry) (clock n:Nat) (g:α→Option β):Prop where
 fit:Fit P M.K rdAny es clock
 size:es.size≤n
 down:∀x∈es.toList,∃a v,M.ok a∧x.key=M.kv a∧x.val=M.vv v∧g a=some v
 up:∀a v,g a=some v→∃x∈es.toList,x.key=M.kv a∧x.val=M.vv v

def MapIs (M:MK P α β) (w:World) (b n:Nat) (g:α→Option β):Prop:=∃es clock,w.heap[b]? = some (.map es clock)∧Ents M es clock n g

theorem MapIs.made (M:MK P α β) (w:World):MapIs M (w.alloc (.map #[] 0)) w.heap.size 0 (fun _=>none) :=
 ⟨#[],0,zt w _,⟨⟨by simp,stamped_empty 0,by simp⟩,Nat.le_refl _,by simp,by simp⟩⟩

theorem MapIs.block {M:MK P α β} {w w':World} {b n:Nat} {g:α→Option β} (h:MapIs M w b n g) (hb:w'.heap[b]? = w.heap[b]?):MapIs M w' b n g:=by
 obtain ⟨es,clock,h1,h2⟩:=h;exact ⟨es,clock,hb.trans h1,h2⟩

theorem MapIs.lt {M:MK P α β} {w:World} {b n:Nat} {g:α→Option β} (h:MapIs M w b n g):b < w.heap.size:=by
 obtain ⟨es,clock,h1,-⟩:=h;exact (Array.getElem?_eq_some_iff.1 h1).1

theorem MapIs.below {M:MK P α β} {w w':World} {b n B:Nat} {g:α→Option β} (h:MapIs M w b n g) (hb:Below B w w') (hB:b < B):MapIs M w' b n g:=h.block (hb.block b hB)

theorem MapIs.kept {M:MK P α β} {w w':World} {b n:Nat} {g:α→Option β} (h:MapIs M w b n g) (hb:Below w.heap.size w w'):MapIs M w' b n g:=h.below hb h.lt

theorem MapIs.grown {M:MK P α β} {w w':World} {b n:Nat} {g:α→Option β} (h:MapIs M w b n g) {row:Option Nat} (hg:w.grownBy w' row) (hne:row≠some b):MapIs M w' b n g:=h.block (hg.block b h.lt (fun e=>hne e.symm))

theorem MapIs.mono {M:MK P α β} {w:World} {b n n':Nat} {g:α→Option β} (h:MapIs M w b n g) (hn:n≤n'):MapIs M w b n' g:=by
 obtain ⟨es,clock,h1,h2⟩:=h;exact ⟨es,clock,h1,h2.fit,Nat.le_trans h2.size hn,h2.down,h2.up⟩

theorem zfR {M:MK P α β} {es:Array MapEntry} {clock n:Nat} {g:α→Option β} (h:Ents M es clock n g) {x:MapEntry} (hx:x∈es.toList) {a:α} (hk:x.key=M.kv a):∃v,x.val=M.vv v∧g a=some v:=by
 obtain ⟨a',v,_,h1,h2,h3⟩:=h.down x hx
 have:a'=a:=M.inj _ _ (h1.symm.trans hk)
 subst this;exact ⟨v,h2,h3⟩

theorem MapIs.look {M:MK P α β} {w:World} {b n:Nat} {g:α→Option β} (h:MapIs M w b n g) (c:Bool) {a:α} (ha:M.ok a) :
  (Instr.lookup M.T (.map (some b)) (M.kv a) c).run P w=.ok (if c=true then .tuple #[M.vv ((g a).getD M.z),.bool (g a).isSome] else M.vv ((g a).getD M.z)) w:=by
 obtain ⟨es,clock,hb,he⟩:=h;obtain ⟨kl,hkey⟩:=M.key a ha;rcases M.law.find w hkey es.toList he.fit.keys with ⟨h1,h2⟩ | ⟨j,e0,h1,h2,h3⟩
 ·have hg:g a=none:=by
   cases hga:g a with
   | none=>rfl
   | some v =>
    obtain ⟨x,hx,hk,_⟩:=he.up a v hga;exact absurd hk (h2 x hx)
  rw [hg]
  simp [Instr.lookup,run_underlying M.und,MapKept.run_getObj_map hb,M.law.check w _ hkey,h1,M.zero,Result.andThen]
 ·obtain ⟨v,hv,hg⟩:=zfR he (List.mem_of_getElem? h2) h3;rw [hg]
  simp [Instr.lookup,run_underlying M.und,MapKept.run_getObj_map hb,M.law.check w _ hkey,h1,hv,Result.andThen]

theorem zfs [DecidableEq α] {M:MK P α β} {w:World} {b n:Nat} {es:Array MapEntry} {clock:Nat} {g:α→Option β} (hb:w.heap[b]? = some (.map es clock)) (he:Ents M es clock n g) (hn:n < maxLen) {a:α} (ha:M.ok a) (v:β) :
  ∃es' clock',(Instr.mapUpdate M.T (.map (some b)) (M.kv a) (M.vv v)).run P w=.ok () (setBlock w b (.map es' clock'))∧Ents M es' clock' (n+1) (upd g a (some v)) ∧
   ((g a).isSome=true→clock'=clock∧es'.size=es.size∧(∀x'∈es'.toList,∃x∈es.toList,x.key=x'.key∧x.born=x'.born)∧es'.toList.map (·.born)=es.toList.map (·.born)):=by
 obtain ⟨kl,hkey⟩:=M.key a ha;rcases M.law.find w hkey es.toList he.fit.keys with ⟨h1,h2⟩ | ⟨j,e0,h1,h2,h3⟩
 ·have hg:g a=none:=by
   cases hga:g a with
   | none=>rfl
   | some u =>
    obtain ⟨x,hx,hk,_⟩:=he.up a u hga;exact absurd hk (h2 x hx)
  have hsz:=he.size;refine ⟨es.push ⟨M.kv a,M.vv v,clock⟩,clock+1, ?_,⟨⟨by simp; omega,stamped_push he.fit.stamped h2, ?_⟩,by simp; omega, ?_, ?_⟩, ?_⟩
  ·simp [Instr.mapUpdate,run_underlying M.und,MapKept.run_getObj_map hb,M.law.check w false hkey,h1,MapKept.run_setObj_map _ hb,Result.andThen,setBlock]
  ·intro x hx;simp only [Array.toList_push,List.mem_append,List.mem_singleton] at hx;rcases hx with hx | rfl
   ·exact he.fit.reads x hx
   ·exact ⟨_,rd_mk (R:=rdAny) hkey rfl⟩
  ·intro x hx;simp only [Array.toList_push,List.mem_append,List.mem_singleton] at hx;rcases hx with hx | rfl
   ·obtain ⟨a',v',h4,h5,h6,h7⟩:=he.down x hx;refine ⟨a',v',h4,h5,h6, ?_⟩;rw [zai g _ (fun e=>h2 x hx (by rw [h5,e]))];exact h7
   ·exact ⟨a,v,ha,rfl,rfl,zav g a _⟩
  ·intro a' v' h4;by_cases e:a'=a
   ·subst e;rw [zav] at h4;cases h4;exact ⟨⟨M.kv a',M.vv v,clock⟩,by simp,rfl,rfl⟩
   ·rw [zai g _ e] at h4;obtain ⟨x,hx,h5,h6⟩:=he.up a' v' h4;exact ⟨x,by simp only [Array.toList_push,List.mem_append]; exact .inl hx,h5,h6⟩
  ·rw [hg]; intro h; cases h
 ·have hj:es[j]? = some e0:=by simpa using h2
  have hjl:j < es.toList.length:=(List.getElem?_eq_some_iff.1 h2).1;have hm0:=List.mem_of_getElem? h2;have hlist:(es.modify j (fun e'=>{ e' with key:=M.kv a,val:=M.vv v })).toList=es.toList.set j { e0 with key:=M.kv a,val:=M.vv v }:=by rw [Array.toList_modify,modify_eq_set _ _ _ _ h2]
  have who:∀x∈es.toList.set j { e0 with key:=M.kv a,val:=M.vv v },x={ e0 with key:=M.kv a,val:=M.vv v }∨(x∈es.toList∧x.key≠M.kv a):=by
   intro x hx;obtain ⟨i,hi,ex⟩:=List.getElem_of_mem hx;rw [List.getElem_set] at ex
   split at ex
   ·exact Or.inl ex.symm
   ·rename_i hne
    have hi':i < es.toList.length:=by simpa using hi
    refine Or.inr ⟨ex▸List.getElem_mem hi', ?_⟩;rw [← h3];exact other_key he.fit h2 (by rw [List.getElem?_eq_getElem hi',ex]) (fun e1=>hne e1.symm)
  have hkeyf:∀e',es[j]? = some e'→({ e' with key:=M.kv a,val:=M.vv v }:MapEntry).key=e'.key:=fun e' he'=>by rw [hj] at he'; cases he'; exact h3.symm
  have hsz:=he.size;refine ⟨es.modify j (fun e'=>{ e' with key:=M.kv a,val:=M.vv v }),clock, ?_,⟨⟨by simpa using he.fit.size,stamped_modify he.fit.stamped _ _ (fun _ _=>rfl) (fun e' _ he'=>hkeyf e' he'), ?_⟩,by simp; omega, ?_, ?_⟩, ?_⟩
  ·simp [Instr.mapUpdate,run_underlying M.und,MapKept.run_getObj_map hb,M.law.check w false hkey,h1,hj,h3,M.law.stays w hkey,MapKept.run_setObj_map _ hb,Result.andThen,setBlock]
  ·intro x hx;rw [hlist] at hx;rcases who x hx with rfl | ⟨hx',_⟩
   ·exact ⟨_,rd_mk (R:=rdAny) hkey rfl⟩
   ·exact he.fit.reads x hx'
  ·intro x hx;rw [hlist] at hx;rcases who x hx with rfl | ⟨hx',hne⟩
   ·exact ⟨a,v,ha,rfl,rfl,zav g a _⟩
   ·obtain ⟨a',v',h4,h5,h6,h7⟩:=he.down x hx';refine ⟨a',v',h4,h5,h6, ?_⟩;rw [zai g _ (fun e=>hne (by rw [h5,e]))];exact h7
  ·intro a' v' h4;rw [hlist];by_cases e:a'=a
   ·subst e;rw [zav] at h4;cases h4;exact ⟨{ e0 with key:=M.kv a',val:=M.vv v },List.mem_iff_getElem.2 ⟨j,by simpa using hjl,by simp⟩,rfl,rfl⟩
   ·rw [zai g _ e] at h4;obtain ⟨x,hx,h5,h6⟩:=he.up a' v' h4;obtain ⟨i,hi,ex⟩:=List.getElem_of_mem hx;have hij:j≠i:=by
     intro e1;subst e1;rw [List.getElem?_eq_getElem hi] at h2;cases h2;rw [ex] at h3;exact e (M.inj _ _ (h5.symm.trans h3))
    exact ⟨x,List.mem_iff_getElem.2 ⟨i,by simpa using hi,by rw [List.getElem_set_ne hij]; exact ex⟩,h5,h6⟩
  ·intro _;refine ⟨rfl,by simp, ?_, ?_⟩
   ·intro x' hx';rw [hlist] at hx';rcases who x' hx' with rfl | ⟨hx,_⟩
    ·exact ⟨e0,hm0,h3,rfl⟩
    ·exact ⟨x',hx,rfl,rfl⟩
   ·rw [hlist,List.map_set]
    have:(es.toList.map (·.born))[j]'(by simpa using hjl)=e0.born:=by
     obtain ⟨hl,e1⟩:=List.getElem?_eq_some_iff.1 h2
     simp [← e1]
    rw [← this];exact List.set_getElem_self _

theorem MapIs.store [DecidableEq α] {M:MK P α β} {w:World} {b n:Nat} {g:α→Option β} (h:MapIs M w b n g) (hn:n < maxLen) {a:α} (ha:M.ok a) (v:β) :
  ∃w',(Instr.mapUpdate M.T (.map (some b)) (M.kv a) (M.vv v)).run P w=.ok () w'∧MapIs M w' b (n+1) (upd g a (some v))∧w.grownBy w' (some b)∧w'.heap.size=w.heap.size:=by
 obtain ⟨es,clock,hb,he⟩:=h;obtain ⟨es',clock',hrun,he',-⟩:=zfs hb he hn ha v;exact ⟨_,hrun,⟨es',clock',heap_setBlock_same hb _,he'⟩,⟨rfl,rfl,rfl,by simp [setBlock],fun i _ hi=>heap_setBlock_other hb _ (fun e=>hi (by rw [e]))⟩,by simp [setBlock]⟩

theorem zgu [DecidableEq α] {M:MK P α β} {w:World} {b n:Nat} {es:Array MapEntry} {clock:Nat} {g:α→Option β} (hb:w.heap[b]? = some (.map es clock)) (he:Ents M es clock n g) {a:α} (ha:M.ok a) (ty:TypeId) :
  ∃es',(Builtin.delete_ #[M.T,M.K] ty #[.map (some b),M.kv a]).run P w=.ok (.tuple #[]) (setBlock w b (.map es' clock))∧Ents M es' clock n (upd g a none)∧es'.toList.Sublist es.toList∧∀x,x∈es'.toList↔(x∈es.toList∧x.key≠M.kv a):=by
 obtain ⟨kl,hkey⟩:=M.key a ha;obtain ⟨es',hrun,hfit,hsz,-,hsub,hwho⟩:=fit_drop_who (ty:=ty) M.law M.und hb he.fit hkey;refine ⟨es',hrun,⟨hfit,Nat.le_trans hsz he.size, ?_, ?_⟩,hsub,hwho⟩
 ·intro x hx;obtain ⟨hx1,hx2⟩:=(hwho x).1 hx;obtain ⟨a',v',h4,h5,h6,h7⟩:=he.down x hx1;refine ⟨a',v',h4,h5,h6, ?_⟩;rw [zai g _ (fun e=>hx2 (by rw [h5,e]))];exact h7
 ·intro a' v' h4;by_cases e:a'=a
  ·subst e;rw [zav] at h4;cases h4
  ·rw [zai g _ e] at h4;obtain ⟨x,hx,h5,h6⟩:=he.up a' v' h4;exact ⟨x,(hwho x).2 ⟨hx,fun e1=>e (M.inj _ _ (h5.symm.trans e1))⟩,h5,h6⟩

theorem MapIs.drop [DecidableEq α] {M:MK P α β} {w:World} {b n:Nat} {g:α→Option β} (h:MapIs M w b n g) {a:α} (ha:M.ok a) (ty:TypeId) :
  ∃w',(Builtin.delete_ #[M.T,M.K] ty #[.map (some b),M.kv a]).run P w=.ok (.tuple #[]) w'∧MapIs M w' b n (upd g a none)∧w.grownBy w' (some b)∧w'.heap.size=w.heap.size:=by
 obtain ⟨es,clock,hb,he⟩:=h;obtain ⟨es',hrun,he',-,-⟩:=zgu hb he ha ty;exact ⟨_,hrun,⟨es',clock,heap_setBlock_same hb _,he'⟩,⟨rfl,rfl,rfl,by simp [setBlock],fun i _ hi=>heap_setBlock_other hb _ (fun e=>hi (by rw [e]))⟩,by simp [setBlock]⟩

def Ranging (M:MK P α β) (w:World) (b r n:Nat) (g:α→Option β) (left:α→Bool) (cnt:Nat):Prop :=
 ∃es clock since seen c0,w.heap[b]? = some (.map es clock)∧Ents M es clock n g∧w.heap[r]? = some (.mapIter (some b) since seen c0)∧(∀x∈es.toList,x.born < since)∧(leftOf es seen).size=cnt ∧
  (∀x∈es.toList,∀a,x.key=M.kv a→left a = !seen.contains x.born)∧(∀a,left a=true→(g a).isSome=true)∧since≤c0∧since≤clock

theorem Ranging.is {M:MK P α β} {w:World} {b r n:Nat} {g:α→Option β} {left:α→Bool} {cnt:Nat} (h:Ranging M w b r n g left cnt):MapIs M w b n g:=by
 obtain ⟨es,clock,since,seen,c0,hb,he,-⟩:=h;exact ⟨es,clock,hb,he⟩

theorem Ranging.ne {M:MK P α β} {w:World} {b r n:Nat} {g:α→Option β} {left:α→Bool} {cnt:Nat} (h:Ranging M w b r n g left cnt):r≠b:=by
 obtain ⟨es,clock,since,seen,c0,hb,he,hr,-⟩:=h;intro e;rw [e,hb] at hr;cases hr

theorem Ranging.lt {M:MK P α β} {w:World} {b r n:Nat} {g:α→Option β} {left:α→Bool} {cnt:Nat} (h:Ranging M w b r n g left cnt):r < w.heap.size:=by
 obtain ⟨es,clock,since,seen,c0,hb,he,hr,-⟩:=h;exact (Array.getElem?_eq_some_iff.1 hr).1

theorem Ranging.kept {M:MK P α β} {w w':World} {b r n:Nat} {g:α→Option β} {left:α→Bool} {cnt:Nat} (h:Ranging M w b r n g left cnt) (hb1:w'.heap[b]? = w.heap[b]?) (hr1:w'.heap[r]? = w.heap[r]?):Ranging M w' b r n g left cnt:=by
 obtain ⟨es,clock,since,seen,c0,hb,he,hr,rest⟩:=h;exact ⟨es,clock,since,seen,c0,hb1.trans hb,he,hr1.trans hr,rest⟩

theorem Ranging.below {M:MK P α β} {w w':World} {b r n:Nat} {g:α→Option β} {left:α→Bool} {cnt:Nat} (h:Ranging M w b r n g left cnt) (hb:Below w.heap.size w w'):Ranging M w' b r n g left cnt :=
 h.kept (hb.block b h.is.lt) (hb.block r h.lt)

theorem Ranging.left_eq {M:MK P α β} {w:World} {b r n:Nat} {g:α→Option β} {left:α→Bool} {cnt:Nat} (h:Ranging M w b r n g left cnt):w.rangeLeft b r=cnt:=by
 obtain ⟨es,clock,since,seen,c0,hb,he,hr,h1,h2,-⟩:=h;simp only [World.rangeLeft,hb,hr];exact h2

theorem MapIs.range {M:MK P α β} {w:World} {b n:Nat} {g:α→Option β} (h:MapIs M w b n g) :
  ∃w' cnt,(Instr.range M.T (.map (some b))).run P w=.ok (.pointer (some ⟨w.heap.size,0,none⟩)) w'∧Ranging M w' b w.heap.size n g (fun a=>(g a).isSome) cnt∧Below w.heap.size w w'∧w'.heap.size=w.heap.size+1:=by
 have hlt:=h.lt;obtain ⟨es,clock,hb,he⟩:=h;refine ⟨_,_,run_range_map w M.T M.K M.E b es clock M.und hb,⟨es,clock,clock,#[],clock,((MapKept.heap_alloc w _).2 b hlt).trans hb,he,(MapKept.heap_alloc w _).1,he.fit.stamped.1,rfl, ?_, ?_,Nat.le_refl _,Nat.le_refl _⟩,zg w _,by simp⟩
 ·intro x hx a hk;obtain ⟨v,_,hg⟩:=zfR he hx hk
  simp [hg]
 ·intro a ha;exact ha

theorem Ranging.next [DecidableEq α] {M:MK P α β} {w:World} {b r n:Nat} {g:α→Option β} {left:α→Bool} {cnt:Nat} (h:Ranging M w b r n g left cnt) (ty:TypeId) :
  (cnt=0∧(∀a,left a=false)∧(Instr.next (.pointer (some ⟨r,0,none⟩)) false ty).run P w=.ok (.tuple #[.bool false]) w) ∨
  ∃a v w' cnt',M.ok a∧left a=true∧g a=some v∧(Instr.next (.pointer (some ⟨r,0,none⟩)) false ty).run P w=.ok (.tuple #[.bool true,M.kv a,M.vv v]) w' ∧
   Ranging M w' b r n g (upd left a false) cnt'∧cnt' < cnt∧w.grownBy w' (some r)∧w'.heap.size=w.heap.size∧(Instr.entry (.pointer (some ⟨r,0,none⟩))).run P w'=.ok (.tuple #[M.kv a,M.vv v]) w':=by
 have hne:=h.ne;obtain ⟨es,clock,since,seen,c0,hb,he,hr,hold,rfl,hl1,hl2,hsc,hsk⟩:=h;have hst:=(stamped_iff es clock).1 he.fit.stamped;rcases run_next_at (P:=P) w ty r b since c0 seen es clock hr hb hold hsc with ⟨h0,hrun⟩ | ⟨e,hem',w1,hal,hrun⟩
 ·refine Or.inl ⟨h0,fun a => ?_,hrun⟩;cases hk:left a
  ·rfl
  ·obtain ⟨v,hv⟩:=Option.isSome_iff_exists.1 (hl2 a hk);obtain ⟨x,hx,hxk,_⟩:=he.up a v hv;rw [hl1 x hx a hxk,all_seen es seen h0 x hx] at hk;cases hk
 ·obtain ⟨hem,hes⟩:=mem_left hem';obtain ⟨a,v,hok,hka,hva,hga⟩:=he.down e hem;have hr1:w1.heap[r]? = some (.mapIter (some b) since seen c0):=by rcases hal with rfl | rfl <;> exact hr
  have hb1:w1.heap[b]? = some (.map es clock):=by rcases hal with rfl | rfl <;> exact hb
  have hset:=heap_set (o':=.mapIter (some b) since (seen.push e.born) clock) hr1;have hb':(setBlock w1 r (.mapIter (some b) since (seen.push e.born) clock)).heap[b]? = some (.map es clock):=(hset.2 b (fun e1=>hne e1.symm)).trans hb1;rw [hka,hva] at hrun;refine Or.inr ⟨a,v,_,_,hok,by rw [hl1 e hem a hka,hes]; rfl,hga,hrun,
   ⟨es,clock,since,seen.push e.born,clock,hb',he,hset.1,hold,rfl,fun x hx a' hxa => ?_,fun a' ha' => ?_,hsk,hsk⟩,left_shrinks es seen e hem', ?_, ?_, ?_⟩
  ·rw [contains_push];by_cases e1:a'=a
   ·subst e1;rw [zav]
    have:x=e:=entry_eq_of_key hst.2.2 hx hem (hxa.trans hka.symm)
    subst this
    simp
   ·rw [zai left _ e1,hl1 x hx a' hxa]
    have:(x.born == e.born)=false:=by
     rw [beq_eq_false_iff_ne];intro e2
     have:=born_inj hst.2.1 hx hem e2
     subst this;exact e1 (M.inj _ _ (hxa.symm.trans hka))
    rw [this,Bool.or_false]
  ·refine hl2 a' ?_;by_cases e1:a'=a
   ·subst e1;rw [zav] at ha';cases ha'
   ·rw [zai left _ e1] at ha';exact ha'
  ·rcases hal with rfl | rfl <;> exact ⟨rfl,rfl,rfl,by simp [setBlock],fun i _ hi=>hset.2 i (fun e1=>hi (by rw [e1]))⟩
  ·rcases hal with rfl | rfl <;> simp [setBlock]
  ·have:=run_entry_at (P:=P) _ r b since seen es clock e hset.1 hb' hem hst.2.1
   rw [hka,hva] at this;exact this

theorem zcs (es:Array MapEntry) (seen:Array Nat):(leftOf es seen).size=((es.toList.map (·.born)).filter fun k => !seen.contains k).length:=by
 unfold leftOf;rw [← Array.length_toList,Array.toList_filter,List.filter_map,List.length_map]
 rfl

theorem Ranging.store [DecidableEq α] {M:MK P α β} {w:World} {b r n:Nat} {g:α→Option β} {left:α→Bool} {cnt:Nat} (h:Ranging M w b r n g left cnt) (hn:n < maxLen) {a:α} (ha:M.ok a) (hs:(g a).isSome=true) (v:β) :
  ∃w',(Instr.mapUpdate M.T (.map (some b)) (M.kv a) (M.vv v)).run P w=.ok () w'∧Ranging M w' b r n (upd g a (some v)) left cnt∧w.grownBy w' (some b)∧w'.heap.size=w.heap.size:=by
 have hne:=h.ne;obtain ⟨es,clock,since,seen,c0,hb,he,hr,hold,rfl,hl1,hl2,hsc,hsk⟩:=h;obtain ⟨es',clock',hrun,he',hz⟩:=zfs hb he hn ha v;obtain ⟨rfl,hsz,hwho,hborn⟩:=hz hs;refine ⟨_,hrun,⟨es',clock',since,seen,c0,heap_setBlock_same hb _,⟨he'.fit,by rw [hsz]; exact he.size,he'.down,he'.up⟩,(heap_setBlock_other hb _ hne).trans hr, ?_, ?_, ?_, ?_,hsc,hsk⟩,⟨rfl,rfl,rfl,by simp [setBlock],fun i _ hi=>heap_setBlock_other hb _ (fun e=>hi (by rw [e]))⟩,by simp [setBlock]⟩
 ·intro x' hx';obtain ⟨x,hx,_,hxb⟩:=hwho x' hx';rw [← hxb];exact hold x hx
 ·rw [zcs,zcs,hborn]
 ·intro x' hx' a' hk;obtain ⟨x,hx,hxk,hxb⟩:=hwho x' hx';rw [← hxb];exact hl1 x hx a' (hxk.trans hk)
 ·intro a' ha';by_cases e:a'=a
  ·subst e; rw [zav]; rfl
  ·rw [zai g _ e]; exact hl2 a' ha'

theorem Ranging.drop [DecidableEq α] {M:MK P α β} {w:World} {b r n:Nat} {g:α→Option β} {left:α→Bool} {cnt:Nat} (h:Ranging M w b r n g left cnt) {a:α} (ha:M.ok a) (hs:left a=false) (ty:TypeId) :
  ∃w' cnt',(Builtin.delete_ #[M.T,M.K] ty #[.map (some b),M.kv a]).run P w=.ok (.tuple #[]) w'∧Ranging M w' b r n (upd g a none) left cnt'∧cnt'≤cnt∧w.grownBy w' (some b)∧w'.heap.size=w.heap.size:=by
 have hne:=h.ne;obtain ⟨es,clock,since,seen,c0,hb,he,hr,hold,rfl,hl1,hl2,hsc,hsk⟩:=h;obtain ⟨es',hrun,he',hsub,hwho⟩:=zgu hb he ha ty;refine ⟨_,_,hrun,⟨es',clock,since,seen,c0,heap_setBlock_same hb _,he',(heap_setBlock_other hb _ hne).trans hr, ?_,rfl, ?_, ?_,hsc,hsk⟩, ?_,⟨rfl,rfl,rfl,by simp [setBlock],fun i _ hi=>heap_setBlock_other hb _ (fun e=>hi (by rw [e]))⟩,by simp [setBlock]⟩
 ·intro x hx;exact hold x ((hwho x).1 hx).1
 ·intro x hx a' hk;exact hl1 x ((hwho x).1 hx).1 a' hk
 ·intro a' ha';by_cases e:a'=a
  ·subst e; rw [hs] at ha'; cases ha'
  ·rw [zai g _ e]; exact hl2 a' ha'
 ·rw [zcs,zcs];exact ((hsub.map _).filter _).length_le

end

section
open Go.RowKit Go.ChangeMaps Go.MapKept
open Go.WideElems (Fit rd rd_mk rd_key other_key)
open Go.Maps (Keyed)

variable {P:Program} {α β:Type}

theorem zgk [DecidableEq α] {γ:Type} {g:α→γ} {a:α} {v:γ} (h:g a=v):upd g a v=g:=by
 funext x
 by_cases e:x=a
 ·subst e; rw [zav,h]
 ·rw [zai g _ e]

theorem zj4 [DecidableEq α] {γ:Type} (g:α→γ) (a:α) (u v:γ):upd (upd g a u) a v=upd g a v:=by
 funext x
 by_cases e:x=a
 ·subst e; rw [zav,zav]
 ·rw [zai _ _ e,zai _ _ e,zai _ _ e]

theorem zjn [DecidableEq α] {M:MK P α β} {n:Nat} {es:Array MapEntry} {clock:Nat} {g:α→Option β} (he:Ents M es clock n g) (hn:n < maxLen) {a:α} (ha:M.ok a) (v:β) (h2:∀x∈es.toList,x.key≠M.kv a) :
  Ents M (es.push ⟨M.kv a,M.vv v,clock⟩) (clock+1) (n+1) (upd g a (some v)):=by
 obtain ⟨kl,hkey⟩:=M.key a ha;have hsz:=he.size;refine ⟨⟨by simp; omega,stamped_push he.fit.stamped h2, ?_⟩,by simp; omega, ?_, ?_⟩
 ·intro x hx;simp only [Array.toList_push,List.mem_append,List.mem_singleton] at hx;rcases hx with hx | rfl
  ·exact he.fit.reads x hx
  ·exact ⟨_,rd_mk (R:=rdAny) hkey rfl⟩
 ·intro x hx;simp only [Array.toList_push,List.mem_append,List.mem_singleton] at hx;rcases hx with hx | rfl
  ·obtain ⟨a',v',h4,h5,h6,h7⟩:=he.down x hx;refine ⟨a',v',h4,h5,h6, ?_⟩;rw [zai g _ (fun e=>h2 x hx (by rw [h5,e]))];exact h7
  ·exact ⟨a,v,ha,rfl,rfl,zav g a _⟩
 ·intro a' v' h4;by_cases e:a'=a
  ·subst e;rw [zav] at h4;cases h4;exact ⟨⟨M.kv a',M.vv v,clock⟩,by simp,rfl,rfl⟩
  ·rw [zai g _ e] at h4;obtain ⟨x,hx,h5,h6⟩:=he.up a' v' h4;exact ⟨x,by simp only [Array.toList_push,List.mem_append]; exact .inl hx,h5,h6⟩

theorem zko [DecidableEq α] {M:MK P α β} {n:Nat} {es:Array MapEntry} {clock:Nat} {g:α→Option β} (he:Ents M es clock n g) {j:Nat} {e0:MapEntry} (h2:es.toList[j]? = some e0) {a:α} (ha:M.ok a) (h3:e0.key=M.kv a) (v:β) :
  Ents M (es.modify j (fun e'=>{ e' with val:=M.vv v })) clock n (upd g a (some v)):=by
 obtain ⟨kl,hkey⟩:=M.key a ha;have hjl:j < es.toList.length:=(List.getElem?_eq_some_iff.1 h2).1;have hlist:(es.modify j (fun e'=>{ e' with val:=M.vv v })).toList=es.toList.set j { e0 with val:=M.vv v }:=by rw [Array.toList_modify,modify_eq_set _ _ _ _ h2]
 have who:∀x∈es.toList.set j { e0 with val:=M.vv v },x={ e0 with val:=M.vv v }∨(x∈es.toList∧x.key≠M.kv a):=by
  intro x hx;obtain ⟨i,hi,ex⟩:=List.getElem_of_mem hx;rw [List.getElem_set] at ex
  split at ex
  ·exact Or.inl ex.symm
  ·rename_i hne
   have hi':i < es.toList.length:=by simpa using hi
   refine Or.inr ⟨ex▸List.getElem_mem hi', ?_⟩;rw [← h3];exact other_key he.fit h2 (by rw [List.getElem?_eq_getElem hi',ex]) (fun e1=>hne e1.symm)
 refine ⟨⟨by simpa using he.fit.size,stamped_modify he.fit.stamped _ _ (fun _ _=>rfl) (fun _ _ _=>rfl), ?_⟩,by simpa using he.size, ?_, ?_⟩
 ·intro x hx;rw [hlist] at hx;rcases who x hx with rfl | ⟨hx',_⟩
  ·exact ⟨_,rd_mk (R:=rdAny) (key:=e0.key) (by rw [h3]; exact hkey) rfl⟩
  ·exact he.fit.reads x hx'
 ·intro x hx;rw [hlist] at hx;rcases who x hx with rfl | ⟨hx',hne⟩
  ·exact ⟨a,v,ha,h3,rfl,zav g a _⟩
  ·obtain ⟨a',v',h4,h5,h6,h7⟩:=he.down x hx';refine ⟨a',v',h4,h5,h6, ?_⟩;rw [zai g _ (fun e=>hne (by rw [h5,e]))];exact h7
 ·intro a' v' h4;rw [hlist];by_cases e:a'=a
  ·subst e;rw [zav] at h4;cases h4;exact ⟨{ e0 with val:=M.vv v },List.mem_iff_getElem.2 ⟨j,by simpa using hjl,by simp⟩,h3,rfl⟩
  ·rw [zai g _ e] at h4;obtain ⟨x,hx,h5,h6⟩:=he.up a' v' h4;obtain ⟨i,hi,ex⟩:=List.getElem_of_mem hx;have hij:j≠i:=by
    intro e1;subst e1;rw [List.getElem?_eq_getElem hi] at h2;cases h2;rw [ex] at h3;exact e (M.inj _ _ (h5.symm.trans h3))
   exact ⟨x,List.mem_iff_getElem.2 ⟨i,by simpa using hi,by rw [List.getElem_set_ne hij]; exact ex⟩,h5,h6⟩

theorem zez [DecidableEq α] {M:MK P α β} {w:World} {b n:Nat} {es:Array MapEntry} {clock:Nat} {g:α→Option β} (hb:w.heap[b]? = some (.map es clock)) (he:Ents M es clock n g) {x:MapEntry} (hx:x∈es.toList) {a:α} (ha:M.ok a) (hk:x.key=M.kv a) (v:β) :
  ∃w2,(Instr.entryStore M.T (.map (some b)) (.int .i64 x.born) (M.vv v)).run P w=.ok () w2∧MapIs M w2 b n (upd g a (some v))∧w.grownBy w2 (some b)∧w2.heap.size=w.heap.size:=by
 have hst:=(stamped_iff es clock).1 he.fit.stamped;cases hf:es.findIdx? (fun e=>(e.born:Int) == (x.born:Int)) with
 | none =>
  rw [Array.findIdx?_eq_none_iff] at hf
  have:=hf x (by simpa using hx)
  simp at this
 | some j =>
  obtain ⟨hj,hp,-⟩:=Array.findIdx?_eq_some_iff_getElem.1 hf;have hj2:es.toList[j]? = some es[j]:=by simp [hj]
  have hbn:es[j].born=x.born:=by
   have h9:(es[j].born:Int)=(x.born:Int):=by simpa using hp
   omega
  have hex:es[j]=x:=born_inj hst.2.1 (List.mem_of_getElem? hj2) hx hbn;have hk2:es[j].key=M.kv a:=by rw [hex]; exact hk
  refine ⟨setBlock w b (.map (es.modify j (fun e'=>{ e' with val:=M.vv v })) clock), ?_,⟨_,_,heap_setBlock_same hb _,zko he hj2 ha hk2 v⟩,⟨rfl,rfl,rfl,by simp [setBlock],fun i _ hi=>heap_setBlock_other hb _ (fun e=>hi (by rw [e]))⟩,by simp [setBlock]⟩
  simp [Instr.entryStore,MapKept.run_getObj_map hb,asInt,asIntOf,hf,MapKept.run_setObj_map _ hb,Result.andThen,setBlock]

theorem zhx {es:Array MapEntry} {j:Nat} {e0:MapEntry} {key:Value} (h2:es.toList[j]? = some e0) (h3:e0.key=key):es.modify j (fun e'=>{ e' with key:=key })=es:=by
 apply Array.toList_inj.1
 rw [Array.toList_modify,modify_eq_set _ _ _ _ h2];have hjl:j < es.toList.length:=(List.getElem?_eq_some_iff.1 h2).1
 have:({ e0 with key:=key }:MapEntry)=es.toList[j]:=by
  rw [List.getElem?_eq_getElem hjl] at h2;cases h2;subst h3
  rfl
 rw [this];exact List.set_getElem_self _

theorem MapIs.entry [DecidableEq α] {M:MK P α β} {w:World} {b n:Nat} {g:α→Option β} (h:MapIs M w b n g) (hn:n < maxLen) {a:α} (ha:M.ok a) :
  ∃w1 st,(Instr.mapEntry M.T (.map (some b)) (M.kv a)).run P w=.ok (.tuple #[M.vv ((g a).getD M.z),.int .i64 st]) w1∧MapIs M w1 b (n+1) (upd g a (some ((g a).getD M.z)))∧w.grownBy w1 (some b)∧w1.heap.size=w.heap.size ∧
   ∀v,∃w2,(Instr.entryStore M.T (.map (some b)) (.int .i64 st) (M.vv v)).run P w1=.ok () w2∧MapIs M w2 b (n+1) (upd g a (some v))∧w1.grownBy w2 (some b)∧w2.heap.size=w1.heap.size:=by
 obtain ⟨es,clock,hb,he⟩:=h;obtain ⟨kl,hkey⟩:=M.key a ha;rcases M.law.find w hkey es.toList he.fit.keys with ⟨h1,h2⟩ | ⟨j,e0,h1,h2,h3⟩
 ·have hg:g a=none:=by
   cases hga:g a with
   | none=>rfl
   | some u =>
    obtain ⟨x,hx,hk,_⟩:=he.up a u hga;exact absurd hk (h2 x hx)
  have he1:=zjn he hn ha M.z h2;rw [hg];refine ⟨setBlock w b (.map (es.push ⟨M.kv a,M.vv M.z,clock⟩) (clock+1)),clock, ?_,⟨_,_,heap_setBlock_same hb _,he1⟩,⟨rfl,rfl,rfl,by simp [setBlock],fun i _ hi=>heap_setBlock_other hb _ (fun e=>hi (by rw [e]))⟩,by simp [setBlock], ?_⟩
  ·simp [Instr.mapEntry,run_underlying M.und,MapKept.run_getObj_map hb,M.law.check w false hkey,h1,M.zero,MapKept.run_setObj_map _ hb,Result.andThen,setBlock,goInt]
  ·intro v;obtain ⟨w2,r1,r2,r3,r4⟩:=zez (heap_setBlock_same hb _) he1 (x:=⟨M.kv a,M.vv M.z,clock⟩) (by simp) ha rfl v;rw [zj4] at r2;exact ⟨w2,r1,r2,r3,r4⟩
 ·have hm0:=List.mem_of_getElem? h2;obtain ⟨v0,hv0,hg⟩:=zfR he hm0 h3;have hj:es[j]? = some e0:=by simpa using h2
  rw [hg];simp only [Option.getD_some];rw [zgk hg];refine ⟨setBlock w b (.map es clock),e0.born, ?_,⟨es,clock,heap_setBlock_same hb _,⟨he.fit,Nat.le_trans he.size (Nat.le_succ n),he.down,he.up⟩⟩,⟨rfl,rfl,rfl,by simp [setBlock],fun i _ hi=>heap_setBlock_other hb _ (fun e=>hi (by rw [e]))⟩,by simp [setBlock], ?_⟩
  ·simp [Instr.mapEntry,run_underlying M.und,MapKept.run_getObj_map hb,M.law.check w false hkey,h1,hj,h3,M.law.stays w hkey,zhx h2 h3,hv0,MapKept.run_setObj_map _ hb,Result.andThen,setBlock,goInt]
  ·intro v;obtain ⟨w2,r1,r2,r3,r4⟩:=zez (heap_setBlock_same hb _) (n:=n+1) ⟨he.fit,Nat.le_trans he.size (Nat.le_succ n),he.down,he.up⟩ hm0 ha h3 v;exact ⟨w2,r1,r2,r3,r4⟩

end

abbrev FK:=Int × Int × Int

def cnt (l:List FE) (t m:Int):Int:=((l.filter (fun e=>both e t m)).length:Int)

theorem zle (t m:Int):cnt [] t m=0:=rfl
theorem zcY (a b:List FE) (t m:Int):cnt (a++b) t m=cnt a t m+cnt b t m:=by simp [cnt]
theorem zjh (x:FE) (t m:Int):cnt [x] t m=if both x t m=true then 1 else 0:=by
 unfold cnt;cases h:both x t m <;> simp [h]
theorem zhV (x:FE):cnt [x] x.t x.m=1:=by rw [zjh,if_pos (zbL.2 ⟨rfl,rfl⟩)]
theorem zey (l:List FE) (t m:Int):0≤cnt l t m:=by unfold cnt; omega
theorem zk0 (l:List FE) (t m:Int):cnt l t m≤l.length:=by
 unfold cnt
 have:=List.length_filter_le (fun e=>both e t m) l
 omega

def keyIn (pre:List FE) (x:FE):FK:=(x.t,x.m,cnt pre x.t x.m)

def zbt:List FE→List FE→List FK
 | _,[]=>[]
 | pre,x::r=>keyIn pre x::zbt (pre++[x]) r

def zcK (g:FK→Option FE):List FE→List FE→FK→Option FE
 | _,[]=>g
 | pre,x::r=>zcK (upd g (keyIn pre x) (some x)) (pre++[x]) r

def zaB (l:List FE):List FK:=zbt [] l
def zaO (l:List FE):FK→Option FE:=zcK (fun _=>none) [] l

theorem zeN (x:FE):∀(l pre:List FE),zbt pre (l++[x])=zbt pre l++[keyIn (pre++l) x]
 | [],pre=>by simp [zbt]
 | y::l,pre=>by
  rw [List.cons_append,zbt,zeN x l (pre++[y]),zbt,List.cons_append,List.append_assoc]
  rfl

theorem zeA (x:FE):∀(l pre:List FE) (g:FK→Option FE),zcK g pre (l++[x])=upd (zcK g pre l) (keyIn (pre++l) x) (some x)
 | [],pre,g=>by simp [zcK]
 | y::l,pre,g=>by
  rw [List.cons_append,zcK,zeA x l (pre++[y]),zcK,List.append_assoc]
  rfl

theorem zjx (l:List FE) (x:FE):zaB (l++[x])=zaB l++[keyIn l x]:=by
 unfold zaB;rw [zeN,List.nil_append]
theorem zjo (l:List FE) (x:FE):zaO (l++[x])=upd (zaO l) (keyIn l x) (some x):=by
 unfold zaO;rw [zeA,List.nil_append]

theorem zdH:∀(l pre:List FE),(zbt pre l).length=l.length
 | [],_=>rfl
 | x::r,pre=>by rw [zbt,List.length_cons,zdH r,List.length_cons]
theorem zhu (l:List FE):(zaB l).length=l.length:=zdH l []

theorem zd8:∀(l pre:List FE) (k:FK),k∈zbt pre l→cnt pre k.1 k.2.1≤k.2.2
 | [],_,_,h=>by cases h
 | x::r,pre,k,h=>by
  rw [zbt] at h;rcases List.mem_cons.1 h with rfl | h
  ·exact Int.le_refl _
  ·have:=zd8 r (pre++[x]) k h
   rw [zcY] at this
   have:=zey [x] k.1 k.2.1
   omega

theorem ziJ (l pre:List FE) (x:FE):keyIn pre x∉zbt (pre++[x]) l:=by
 intro h
 have:=zd8 _ _ _ h
 unfold keyIn at this
 simp only at this
 rw [zcY,zhV] at this;omega

theorem zcL:∀(l pre:List FE) (g:FK→Option FE) (k:FK),k∉zbt pre l→zcK g pre l k=g k
 | [],_,_,_,_=>rfl
 | x::r,pre,g,k,h=>by
  rw [zbt] at h;have h1:k≠keyIn pre x:=fun e=>h (by rw [e]; exact List.mem_cons_self)
  rw [zcK,zcL r (pre++[x]) _ k (fun hk=>h (List.mem_cons_of_mem _ hk)),zai g _ h1]

theorem zfr:∀(l pre:List FE) (g:FK→Option FE),(zbt pre l).map (zcK g pre l)=l.map some
 | [],_,_=>rfl
 | x::r,pre,g=>by
  rw [zbt,zcK,List.map_cons,List.map_cons,zfr r (pre++[x])];rw [zcL r (pre++[x]) _ _ (ziJ r pre x),zav]
theorem zfS (l:List FE):(zaB l).map (zaO l)=l.map some:=zfr l [] _

theorem zjm (l:List FE) {k:FK} (h:k∉zaB l):zaO l k=none:=zcL l [] _ k h

theorem zh9 {ks:List FK} {g:FK→Option FE} {l:List FE} (h:ks.map g=l.map some) (f:FE→Option FE):ks.filterMap (fun k=>(g k).bind f)=l.filterMap f:=by
 induction ks generalizing l with
 | nil =>
  cases l with
  | nil=>rfl
  | cons y r=>simp at h
 | cons k r ih =>
  cases l with
  | nil=>simp at h
  | cons y r' =>
   simp only [List.map_cons,List.cons.injEq] at h;rw [List.filterMap_cons,List.filterMap_cons,h.1,ih h.2]
   rfl

def FKok (k:FK):Prop:=(-9223372036854775808≤k.1∧k.1≤9223372036854775807)∧(-9223372036854775808≤k.2.1∧k.2.1≤9223372036854775807)∧(-9223372036854775808≤k.2.2∧k.2.2≤9223372036854775807)

theorem zlN {pre:List FE} {x:FE} (hx:x.Rng) (hp:pre.length≤16777216):FKok (keyIn pre x):=by
 have h1:=zey pre x.t x.m;have h2:=zk0 pre x.t x.m;exact ⟨hx.1,hx.2.1,by unfold keyIn; simp only; omega⟩

theorem zgE:∀(l pre:List FE),(∀x∈l,x.Rng)→pre.length+l.length≤16777216→∀k∈zbt pre l,FKok k
 | [],_,_,_,_,h=>by cases h
 | x::r,pre,hR,hl,k,h=>by
  rw [zbt] at h;simp only [List.length_cons] at hl;rcases List.mem_cons.1 h with rfl | h
  ·exact zlN (hR x (by simp)) (by omega)
  ·exact zgE r (pre++[x]) (fun y hy=>hR y (List.mem_cons_of_mem _ hy)) (by simp; omega) k h
theorem zlj {l:List FE} (hR:∀x∈l,x.Rng) (hl:l.length≤16777216):∀k∈zaB l,FKok k:=zgE l [] hR (by simpa using hl)

def cntF (l:List FE):FK→Option Int:=fun k=>if k.2.2=0∧0 < cnt l k.1 k.2.1 then some (cnt l k.1 k.2.1) else none

theorem zkj:cntF []=fun _=>none:=by
 funext k
 unfold cntF;rw [if_neg];rw [zle];omega

theorem zki (l:List FE) (t m:Int):(cntF l (t,m,0)).getD 0=cnt l t m:=by
 unfold cntF
 have:=zey l t m
 simp only
 split
 ·rfl
 ·rename_i h
  simp only [true_and] at h
  show (0:Int)=_
  omega

theorem zjg (l:List FE) (x:FE):cntF (l++[x])=upd (cntF l) (x.t,x.m,0) (some (cnt l x.t x.m+1)):=by
 funext k
 obtain ⟨t,m,c⟩:=k;by_cases e:((t,m,c):FK)=(x.t,x.m,0)
 ·cases e;rw [zav];unfold cntF
  simp only
  have:=zey l x.t x.m
  rw [zcY,zhV,if_pos ⟨trivial,by omega⟩]
 ·rw [zai _ _ e];unfold cntF
  simp only
  rw [zcY,zjh];by_cases hc:c=0
  ·have hb:both x t m=false:=by
    rw [za3];rintro ⟨rfl,rfl⟩;exact e (by rw [hc])
   rw [hb]
   simp
  ·simp [hc]

theorem zli {l:List FE} {i:Nat} {k:FK} (hk:(zaB l)[i]? = some k):∃e,l[i]? = some e∧zaO l k=some e:=by
 have hm:=zfS l;have h1:((zaB l).map (zaO l))[i]? = some (zaO l k):=by rw [List.getElem?_map,hk]; rfl
 rw [hm,List.getElem?_map] at h1;cases he:l[i]? with
 | none=>rw [he] at h1; cases h1
 | some e =>
  rw [he] at h1
  simp at h1
  exact ⟨e,rfl,h1.symm⟩

theorem zbz (id:Int) (a:Option Addr) (n c:Nat) (l:List PT) (port:Int) (w:World) (h:GRow ptF w a n c l) :
  Calls Tryz.prog 152 #[.int .i64 id,.slice a n c,.int .i64 port] w fun e w'=>e=.returned (.agg #[.int .i64 (sayV id l port).r,.int .i64 (sayV id l port).c,.int .i64 (sayV id l port).h,.int .i64 (sayV id l port).b,.int .i64 (sayV id l port).p])∧Below w.heap.size w w':=by
 generalize hw1:w.alloc (Obj.cells #[.int .i64 0,.int .i64 0,.int .i64 0,.int .i64 0,.int .i64 0] 72)=w1;have q1:=zb hw1;have k1:=zk hw1;have hsb:(sayV id l port)=⟨(bestV id (zS id l)).r,(bestV id (zS id l)).c,(bestV id (zS id l)).h,(bestV id (zS id l)).b,port⟩:=by
  unfold sayV;cases zS id l <;> rfl
 rw [hsb];clear hsb;go_enter Tryz.func152,Tryz.ntmps152;go_wp2_with fail
 refine (zbZ id a n c l _ (h.below q1)).mono ?_;rintro e w2 ⟨rfl,hb2⟩;generalize hv:bestV id (zS id l)=v;have HV:=hide hv;clear hv;generalize hw3:w2.alloc (Obj.cells #[.int .i64 v.r,.int .i64 v.c,.int .i64 v.h,.int .i64 v.b,.int .i64 v.p] 72)=w3;have hb3:=zb hw3;have k3:=zk hw3;have k1:=za (za k1 hb2) hb3;have lt1:=(Array.getElem?_eq_some_iff.1 (za (by rw [← hw1]; exact zt _ _:w1.heap[w.heap.size]? = some (.cells #[.int .i64 0,.int .i64 0,.int .i64 0,.int .i64 0,.int .i64 0] 72)) hb2)).1;have ne1:¬w2.heap.size=w.heap.size:=by omega
 have ne2:¬w.heap.size=w2.heap.size:=by omega
 have HB:=hide (zR (zj (zc (zc q1 hb2) hb3) (g:=w2.heap.size) (by omega) 4 (.int .i64 port)) (Nat.le_refl w.heap.size) (.int .i64 v.r) (.int .i64 v.c) (.int .i64 v.h) (.int .i64 v.b) (.int .i64 port));obtain ⟨⟨x0,x1,x2,x3,x4⟩,y0,y1,y2,y3,y4⟩:=zx k3;obtain ⟨⟨r0,r1,r2,r3,r4⟩,z0,z1,z2,z3,z4⟩:=zx k1;clear hb2 hb3 k1 k3 q1 lt1;go_wp2;exact bodyPost_ret (v:=.agg #[.int .i64 v.r,.int .i64 v.c,.int .i64 v.h,.int .i64 v.b,.int .i64 port]) (by simp [results,Tryz.results152,go_sem, *]) rfl ⟨(by rw [HV.out]),HB.out⟩

theorem zg8 (id:Int) (a:Option Addr) (n c:Nat) (l:List PT) (port:Int) (w:World) (h:GRow ptF w a n c l) :
  Calls Tryz.prog 121 #[.int .i64 id,.slice a n c,.int .i64 port] w fun e w'=>e=.returned (.int .i64 (zaH id l port))∧Below w.heap.size w w':=by
 have hle:=h.le;have htop:=h.top;unfold maxLen at htop;have hsz:=hide h.size;cases hin:(decide (0≤port) && decide (port≤(n:Int) - 1))
 ·have HIN:=hide hin;have HR:Hid (zaH id l port=4):=hide (by unfold zaH; rw [hsz.out,hin]; rfl);clear hin;go_enter Tryz.func121,Tryz.ntmps121;(go_wp2_with fail);refine (zh port 0 ((n:Int) - 1) _).mono ?_;rintro e w1 ⟨rfl,ew⟩;obtain rfl:=ew.symm;rw [HIN.out];go_wp2;go_ret;exact ⟨(by rw [HR.out]; rfl),Below.refl _ _⟩
 obtain ⟨k,rfl⟩:∃k:Nat,port=(k:Int):=⟨port.toNat,by simp at hin; omega⟩;have hlt:k < n:=by simp at hin; omega
 have HIN:=hide hin;have i1:(0:Int)≤(k:Int):=by omega
 have i2:(k:Int) < (n:Int):=by omega
 obtain ⟨x,b,off,hx,rfl,c0,c1,c2,c3,c4,c5,c6,c7⟩:=pt_at h k hlt;have hro:zaH id l (k:Int)=zdf id l k x:=by
  unfold zaH;rw [hsz.out,hin]
  simp [hx]
 have HRO:=hide hro;clear hin hro;cases hu:x.up
 ·rw [hu] at c0;have HR:Hid (zaH id l (k:Int)=4):=hide (by rw [HRO.out]; unfold zdf; rw [if_pos hu]);clear hu c1 c2 c3 c4 c5 c6 c7 hx;go_enter Tryz.func121,Tryz.ntmps121;(go_wp2_with fail);refine (zh (k:Int) 0 ((n:Int) - 1) _).mono ?_;rintro e w1 ⟨rfl,ew⟩;obtain rfl:=ew.symm;rw [HIN.out];go_wp2;go_ret;exact ⟨(by rw [HR.out]; rfl),Below.refl _ _⟩
 rw [hu] at c0;have HU:=hide hu;clear hu;by_cases hp:bestP (zS id l)=(k:Int)
 ·have HR:Hid (zaH id l (k:Int)=1):=hide (by rw [HRO.out]; unfold zdf; rw [if_neg (by rw [HU.out]; decide),if_pos hp]);have HP:=hide hp;clear c1 c2 c3 c4 c5 c6 c7 hx hp;go_enter Tryz.func121,Tryz.ntmps121;(go_wp2_with fail);refine (zh (k:Int) 0 ((n:Int) - 1) _).mono ?_;rintro e w1 ⟨rfl,ew⟩;obtain rfl:=ew.symm;rw [HIN.out];(go_wp2_with fail);refine (zbZ id (some ⟨b,off,none⟩) n c l _ h).mono ?_;rintro e w2 ⟨rfl,hb2⟩;rw [HP.out];have HB:=hide (zc hb2 (zg _ (Obj.cells #[.int .i64 (bestV id (zS id l)).r,.int .i64 (bestV id (zS id l)).c,.int .i64 (bestV id (zS id l)).h,.int .i64 (bestV id (zS id l)).b,.int .i64 (bestV id (zS id l)).p] 72)));clear hb2 c0;go_wp2;go_ret;exact ⟨(by rw [HR.out]; rfl),HB.out⟩
 go_enter Tryz.func121,Tryz.ntmps121;go_wp2_with fail
 refine (zh (k:Int) 0 ((n:Int) - 1) _).mono ?_;rintro e w1 ⟨rfl,ew⟩;obtain rfl:=ew.symm;rw [HIN.out];go_wp2_with fail
 refine (zbZ id (some ⟨b,off,none⟩) n c l _ h).mono ?_;rintro e w2 ⟨rfl,hb2⟩;generalize hw3:w2.alloc (Obj.cells #[.int .i64 (bestV id (zS id l)).r,.int .i64 (bestV id (zS id l)).c,.int .i64 (bestV id (zS id l)).h,.int .i64 (bestV id (zS id l)).b,.int .i64 (bestV id (zS id l)).p] 72)=w3;have HB:Hid (Below w.heap.size w w3):=hide (zc hb2 (by rw [← hw3]; exact zg _ _));clear hb2 c0 c1 c2 c3 c4 c5 c6 c7;obtain ⟨x',b',off',hx',ha',c0,c1,c2,c3,c4,c5,c6,c7⟩:=pt_at (h.below HB.out) k hlt;rw [hx] at hx';cases hx';cases ha';generalize hP:bestP (zS id l)=P at *;have hPne:(P == (k:Int))=false:=by simp [hp]
 have HX:=hide hx;have vv:Below w3.heap.size w3 w3.drew:=zr (Below.refl _ _);have HR0:Hid (zaH id l (k:Int)=(if (!x.has || lessV (sayV id l (k:Int)) x.v)=true then 2 else 3)):=hide (by rw [HRO.out]; unfold zdf; rw [if_neg (by rw [HU.out]; decide),hP,if_neg hp]);clear c0 c1 hx hP;cases hh:x.has
 ·rw [hh] at c2;have HR:Hid (zaH id l (k:Int)=2):=hide (by rw [HR0.out,hh]; rfl);have HSS:Hid (∀W',Below w3.heap.size w3 W'→zcc W' b (off+k*8+2) (.bool false)∧zcc W' b (off+k*8+3) (.int .i64 x.v.r)∧zcc W' b (off+k*8+4) (.int .i64 x.v.c)∧zcc W' b (off+k*8+5) (.int .i64 x.v.h)∧zcc W' b (off+k*8+6) (.int .i64 x.v.b)∧zcc W' b (off+k*8+7) (.int .i64 x.v.p)):=hide (fun W' hb=>⟨(hb.cell (zo c2)).trans c2,(hb.cell (zo c3)).trans c3,(hb.cell (zo c4)).trans c4,(hb.cell (zo c5)).trans c5,(hb.cell (zo c6)).trans c6,(hb.cell (zo c7)).trans c7⟩);clear c2 c3 c4 c5 c6 c7 hh;(go_wp2_with fail);refine wp_region_held_drew (S:=(fun W=>zcc W b (off+k*8+2) (.bool false)∧zcc W b (off+k*8+3) (.int .i64 x.v.r)∧zcc W b (off+k*8+4) (.int .i64 x.v.c)∧zcc W b (off+k*8+5) (.int .i64 x.v.h)∧zcc W b (off+k*8+6) (.int .i64 x.v.b)∧zcc W b (off+k*8+7) (.int .i64 x.v.p))) (by kernel_rfl) (HSS.out _ vv) (fun hHeld => ?_);refine kK 0 ?_;refine kK 1 ?_;refine kK 2 ?_;refine kK 3 ?_;refine kK 4 ?_;refine kK 5 ?_;refine kK 6 ?_;refine kN 7 ?_;refine kN 8 ?_;refine kN 9 ?_;refine kN 10 ?_;refine kN 11 ?_;refine kN 12 ?_;refine kN 13 ?_;refine kN 14 ?_;refine kN 15 ?_;refine kN 16 ?_;refine kK 17 ?_;refine kK 18 ?_;refine wpAnyH_done (by kernel_rfl) ?_ _;clear hHeld;go_wp2;go_ret;exact ⟨(by rw [HR.out]; rfl),zc HB.out vv⟩
 ·rw [hh] at c2;have HSS:Hid (∀W',Below w3.heap.size w3 W'→zcc W' b (off+k*8+2) (.bool true)∧zcc W' b (off+k*8+3) (.int .i64 x.v.r)∧zcc W' b (off+k*8+4) (.int .i64 x.v.c)∧zcc W' b (off+k*8+5) (.int .i64 x.v.h)∧zcc W' b (off+k*8+6) (.int .i64 x.v.b)∧zcc W' b (off+k*8+7) (.int .i64 x.v.p)):=hide (fun W' hb=>⟨(hb.cell (zo c2)).trans c2,(hb.cell (zo c3)).trans c3,(hb.cell (zo c4)).trans c4,(hb.cell (zo c5)).trans c5,(hb.cell (zo c6)).trans c6,(hb.cell (zo c7)).trans c7⟩);clear c2 c3 c4 c5 c6 c7;cases hl:lessV (sayV id l (k:Int)) x.v
  ·have HR:Hid (zaH id l (k:Int)=3):=hide (by rw [HR0.out,hh,hl]; rfl);have HL:Hid (zaY (sayV id l (k:Int)).r (sayV id l (k:Int)).c (sayV id l (k:Int)).b (sayV id l (k:Int)).p x.v.r x.v.c x.v.b x.v.p=false):=hide hl;clear hh hl;(go_wp2_with fail);refine wp_region_held_drew (S:=(fun W=>zcc W b (off+k*8+2) (.bool true)∧zcc W b (off+k*8+3) (.int .i64 x.v.r)∧zcc W b (off+k*8+4) (.int .i64 x.v.c)∧zcc W b (off+k*8+5) (.int .i64 x.v.h)∧zcc W b (off+k*8+6) (.int .i64 x.v.b)∧zcc W b (off+k*8+7) (.int .i64 x.v.p))) (by kernel_rfl) (HSS.out _ vv) (fun hHeld => ?_);refine kK 0 ?_;refine kK 1 ?_;refine kK 2 ?_;refine kK 3 ?_;refine kK 4 ?_;refine kK 5 ?_;refine kK 6 ?_;refine kK 7 ?_;refine kK 8 ?_;refine kK 9 ?_;refine kK 11 ?_;refine kK 12 ?_;refine kK 13 ?_;refine kK 14 ?_;refine kK 15 ?_;refine kR 10 fun K hK => ?_
   go_simp;refine (zbz id (some ⟨b,off,none⟩) n c l (k:Int) _ (h.below (zc HB.out vv))).mono ?_;rintro e wx ⟨rfl,hbx⟩;have vv:=zc vv hbx;clear hbx;(go_wp2_with fail);refine kO hK (HSS.out _ vv) fun hHeld => ?_
   clear hK K;refine kR 16 fun K hK => ?_
   go_simp;refine (zbo (sayV id l (k:Int)).r (sayV id l (k:Int)).c (sayV id l (k:Int)).h (sayV id l (k:Int)).b (sayV id l (k:Int)).p x.v.r x.v.c x.v.h x.v.b x.v.p _).mono ?_;rintro e wx ⟨rfl,hbx⟩;rw [HL.out];have vv:=zc vv hbx;clear hbx;(go_wp2_with fail);refine kO hK (HSS.out _ vv) fun hHeld => ?_
   clear hK K;refine kK 17 ?_;refine kK 18 ?_;refine wpAnyH_done (by kernel_rfl) ?_ _;clear hHeld;go_wp2;go_ret;exact ⟨(by rw [HR.out]; rfl),zc HB.out vv⟩
  ·have HR:Hid (zaH id l (k:Int)=2):=hide (by rw [HR0.out,hh,hl]; rfl);have HL:Hid (zaY (sayV id l (k:Int)).r (sayV id l (k:Int)).c (sayV id l (k:Int)).b (sayV id l (k:Int)).p x.v.r x.v.c x.v.b x.v.p=true):=hide hl;clear hh hl;(go_wp2_with fail);refine wp_region_held_drew (S:=(fun W=>zcc W b (off+k*8+2) (.bool true)∧zcc W b (off+k*8+3) (.int .i64 x.v.r)∧zcc W b (off+k*8+4) (.int .i64 x.v.c)∧zcc W b (off+k*8+5) (.int .i64 x.v.h)∧zcc W b (off+k*8+6) (.int .i64 x.v.b)∧zcc W b (off+k*8+7) (.int .i64 x.v.p))) (by kernel_rfl) (HSS.out _ vv) (fun hHeld => ?_);refine kK 0 ?_;refine kK 1 ?_;refine kK 2 ?_;refine kK 3 ?_;refine kK 4 ?_;refine kK 5 ?_;refine kK 6 ?_;refine kK 7 ?_;refine kK 8 ?_;refine kK 9 ?_;refine kK 11 ?_;refine kK 12 ?_;refine kK 13 ?_;refine kK 14 ?_;refine kK 15 ?_;refine kR 10 fun K hK => ?_
   go_simp;refine (zbz id (some ⟨b,off,none⟩) n c l (k:Int) _ (h.below (zc HB.out vv))).mono ?_;rintro e wx ⟨rfl,hbx⟩;have vv:=zc vv hbx;clear hbx;(go_wp2_with fail);refine kO hK (HSS.out _ vv) fun hHeld => ?_
   clear hK K;refine kR 16 fun K hK => ?_
   go_simp;refine (zbo (sayV id l (k:Int)).r (sayV id l (k:Int)).c (sayV id l (k:Int)).h (sayV id l (k:Int)).b (sayV id l (k:Int)).p x.v.r x.v.c x.v.h x.v.b x.v.p _).mono ?_;rintro e wx ⟨rfl,hbx⟩;rw [HL.out];have vv:=zc vv hbx;clear hbx;(go_wp2_with fail);refine kO hK (HSS.out _ vv) fun hHeld => ?_
   clear hK K;refine kK 17 ?_;refine kK 18 ?_;refine wpAnyH_done (by kernel_rfl) ?_ _;clear hHeld;go_wp2;go_ret;exact ⟨(by rw [HR.out]; rfl),zc HB.out vv⟩

theorem zge (id:Int) (a:Option Addr) (n c:Nat) (l:List PT) (w:World) (h:GRow ptF w a n c l) :
  Calls Tryz.prog 87 #[.int .i64 id,.slice a n c] w fun e w'=>e=.returned (.int .i64 (zbc id l))∧Below w.heap.size w w':=by
 have hle:=h.le;have htop:=h.top;unfold maxLen at htop;have hsz:=hide h.size;go_enter Tryz.func87,Tryz.ntmps87;go_wp2_with fail
 go_loopw [5,6] (fun s i wr=>∃k:Nat,k≤min n 6∧i=.int .i64 k∧s=.int .i64 (za2 id l k)∧Below w.heap.size w wr) (fun _ i _=>6 - (intOf i).toNat)
 case atStart=>exact ⟨0,Nat.zero_le _,rfl,rfl,Below.refl _ _⟩
 case round =>
  obtain ⟨k,hk,rfl,rfl,hb⟩:=hrel;have hk6:k≤6:=by omega
  generalize hS:za2 id l k=S;have HS:=hide hS;clear hS;by_cases hlt:k < min n 6
  ·have hkn:k < n:=by omega
   have hk5:k < 6:=by omega
   have i1:(0:Int)≤(k:Int):=by omega
   have i2:(k:Int) < (n:Int):=by omega
   have i3:(k:Int) < 6:=by omega
   have hmin:(if (n:Int)≤6 then (n:Int) else 6)=((min n 6:Nat):Int):=by split <;> omega
   have i4:(k:Int) < ((min n 6:Nat):Int):=by omega
   have HB:=hide hb;clear hk hb;(go_wp2_with fail);refine (zg8 id a n c l (k:Int) _ (h.below HB.out)).mono ?_;rintro e w2 ⟨rfl,hb2⟩;have HB2:=hide (zc HB.out hb2);have h14:=zij (id:=id) (l:=l) (k:Int);clear hb2;generalize hR:zaH id l (k:Int)=R at *;have HR:=hide hR;clear hR;by_cases hr:R≤2
   ·have HN:Hid (za2 id l (k+1)=bits .or .i64 S (2 ^ k)):=hide (by rw [za2,HR.out,if_pos hr,HS.out]);have hw2:wrap64 (2 ^ k)=2 ^ k:=by
     rcases (show k=0∨k=1∨k=2∨k=3∨k=4∨k=5 by omega) with rfl | rfl | rfl | rfl | rfl | rfl <;> exact Go.IntWalk.wrap64_in _ (by decide)
    have HW2:=hide hw2;clear hw2;go_wp2;rw [HW2.out]
    go_roundw
    case rel=>exact ⟨k+1,by omega,by go_num,by rw [HN.out],HB2.out⟩
    case measure=>simp [intOf]; omega
   ·have HN:Hid (za2 id l (k+1)=S):=hide (by rw [za2,HR.out,if_neg hr,HS.out]);go_wp2
    go_roundw
    case rel=>exact ⟨k+1,by omega,by go_num,by rw [HN.out],HB2.out⟩
    case measure=>simp [intOf]; omega
  ·have hkn:k=min n 6:=by omega
   have HK:Hid (zbc id l=S):=hide (by unfold zbc; rw [hsz.out,← hkn]; exact HS.out);have hend:¬((k:Int) < (n:Int)∧(k:Int) < 6):=by omega
   go_wp2
   all_goals go_ret
   all_goals exact ⟨(by rw [HK.out]; rfl),hb⟩

theorem zd0 {α:Type} (F:Flat α) {w:World} {g base:Nat} {l:List α} {cs:Array Value} {T:TypeId} (h:w.heap[g]? = some (.cells cs T)) (hc:cs.toList=F.all l) (hb:base≤g) (hm:l.length≤1000):w.ownsRow base T F.k (.slice (some ⟨g,0,none⟩) l.length l.length) l.length (F.all l):=by
 have hl:cs.toList.length=l.length*F.k:=by rw [hc,F.all_length]
 refine ⟨by rw [F.all_length],.inr ⟨g,l.length,cs,rfl,hb,h,Nat.le_refl _,by unfold maxLen; omega, ?_, ?_⟩⟩
 ·simpa using hl
 ·rw [← hc,← hl,List.take_length]

theorem GRow.take {α:Type} {F:Flat α} {w:World} {ao:Option Addr} {n c k:Nat} {l:List α} (h:GRow F w ao n c l) (hk:k≤n):GRow F w ao k c (l.take k) where
 size:=by have:=h.size; simp; omega
 le:=Nat.le_trans hk h.le
 top:=h.top
 nil:=h.nil
 cell:=by
  rcases h.cell with h0 | ⟨b,off,ha,hc⟩
  ·exact .inl (by omega)
  ·refine .inr ⟨b,off,ha,fun i x hi j v hv=>hc i x ?_ j v hv⟩;rw [List.getElem?_take] at hi
   split at hi
   ·exact hi
   ·cases hi

end Go.Proofs.YtkcoehmpnkdinaaGreat
