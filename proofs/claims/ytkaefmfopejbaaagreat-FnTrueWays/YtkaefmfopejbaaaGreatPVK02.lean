/-
  Packed: MapIs VtabMath IBase IHelp VrowMem FrameHelp VtabAt Made Pieces Num Tlv GetNum VecMath VecSpec PtMem FdbMath FentMem BrMem BrLie.
-/
import Derived.Test.YtkaefmfopejbaaaGreatPVK01
import Derived.Maps.RangeWalk
namespace Go.Proofs.YtkaefmfopejbaaaGreat
set_option maxRecDepth 100000
set_option maxHeartbeats 16000000
open Go.RowKit

section
open Go.RowKit Go.ChangeMaps Go.MapKept
open Go.WideElems (Fit rd rd_mk rd_key other_key)
open Go.Maps (Keyed)

def rdAny (_:Value):Option (DataW Unit × List MemPlace):=some (.nil,[])

structure MK (P:Program) (α β:Type) where
 T:TypeId
 K:TypeId
 E:TypeId
 law:Keyed P K
 und:P.underlying T=some (.map K E)
 kv:α→Value
 vv:β→Value
 ok:α→Prop
 key:∀a,ok a→∃l,keyOf P K (kv a)=some l
 inj:∀a b,kv a=kv b→a=b
 z:β
 zero:∀w,(zeroValue E).run P w=.ok (vv z) w

def upd {α γ:Type} [DecidableEq α] (g:α→γ) (a:α) (v:γ):α→γ:=fun x=>if x=a then v else g x

theorem zaq {α γ:Type} [DecidableEq α] (g:α→γ) (a:α) (v:γ):upd g a v a=v:=if_pos rfl
theorem zY {α γ:Type} [DecidableEq α] (g:α→γ) {a b:α} (v:γ) (h:b≠a):upd g a v b=g b:=if_neg h

variable {P:Program} {α β:Type}

structure Ents (M:MK P α β) (es:Array MapEntry) (clock n:Nat) (g:α→Option β):Prop where
 fit:Fit P M.K rdAny es clock
 size:es.size≤n
 down:∀x∈es.toList,∃a v,M.ok a∧x.key=M.kv a∧x.val=M.vv v∧g a=some v
 up:∀a v,g a=some v→∃x∈es.toList,x.key=M.kv a∧x.val=M.vv v

def MapIs (M:MK P α β) (w:World) (b n:Nat) (g:α→Option β):Prop:=∃es clock,w.heap[b]? = some (.map es clock)∧Ents M es clock n g

theorem MapIs.made (M:MK P α β) (w:World):MapIs M (w.alloc (.map #[] 0)) w.heap.size 0 (fun _=>none) :=
 ⟨#[],0,zT w _,⟨⟨by simp,stamped_empty 0,by simp⟩,Nat.le_refl _,by simp,by simp⟩⟩

theorem MapIs.block {M:MK P α β} {w w':World} {b n:Nat} {g:α→Option β} (h:MapIs M w b n g) (hb:w'.heap[b]? = w.heap[b]?):MapIs M w' b n g:=by
 obtain ⟨es,clock,h1,h2⟩:=h;exact ⟨es,clock,hb.trans h1,h2⟩

theorem MapIs.lt {M:MK P α β} {w:World} {b n:Nat} {g:α→Option β} (h:MapIs M w b n g):b < w.heap.size:=by
 obtain ⟨es,clock,h1,-⟩:=h;exact (Array.getElem?_eq_some_iff.1 h1).1

theorem MapIs.below {M:MK P α β} {w w':World} {b n B:Nat} {g:α→Option β} (h:MapIs M w b n g) (hb:Below B w w') (hB:b < B):MapIs M w' b n g:=h.block (hb.block b hB)

theorem MapIs.kept {M:MK P α β} {w w':World} {b n:Nat} {g:α→Option β} (h:MapIs M w b n g) (hb:Below w.heap.size w w'):MapIs M w' b n g:=h.below hb h.lt

theorem MapIs.grown {M:MK P α β} {w w':World} {b n:Nat} {g:α→Option β} (h:MapIs M w b n g) {row:Option Nat} (hg:w.grownBy w' row) (hne:row≠some b):MapIs M w' b n g:=h.block (hg.block b h.lt (fun e=>hne e.symm))

theorem MapIs.mono {M:MK P α β} {w:World} {b n n':Nat} {g:α→Option β} (h:MapIs M w b n g) (hn:n≤n'):MapIs M w b n' g:=by
 obtain ⟨es,clock,h1,h2⟩:=h;exact ⟨es,clock,h1,h2.fit,Nat.le_trans h2.size hn,h2.down,h2.up⟩

theorem zej {M:MK P α β} {es:Array MapEntry} {clock n:Nat} {g:α→Option β} (h:Ents M es clock n g) {x:MapEntry} (hx:x∈es.toList) {a:α} (hk:x.key=M.kv a):∃v,x.val=M.vv v∧g a=some v:=by
 obtain ⟨a',v,_,h1,h2,h3⟩:=h.down x hx
 have:a'=a:=M.inj _ _ (h1.symm.trans hk)
 subst this;exact ⟨v,h2,h3⟩

theorem MapIs.look {M:MK P α β} {w:World} {b n:Nat} {g:α→Option β} (h:MapIs M w b n g) (c:Bool) {a:α} (ha:M.ok a) :
  (Instr.lookup M.T (.map (some b)) (M.kv a) c).run P w=.ok (if c=true then .tuple #[M.vv ((g a).getD M.z),.bool (g a).isSome] else M.vv ((g a).getD M.z)) w:=by
 obtain ⟨es,clock,hb,he⟩:=h;obtain ⟨kl,hkey⟩:=M.key a ha;rcases M.law.find w hkey es.toList he.fit.keys with ⟨h1,h2⟩ | ⟨j,e0,h1,h2,h3⟩
 ·have hg:g a=none:=by
   cases hga:g a with
   | none=>rfl
   | some v =>
    obtain ⟨x,hx,hk,_⟩:=he.up a v hga;exact absurd hk (h2 x hx)
  rw [hg]
  simp [Instr.lookup,run_underlying M.und,MapKept.run_getObj_map hb,M.law.check w _ hkey,h1,M.zero,Result.andThen]
 ·obtain ⟨v,hv,hg⟩:=zej he (List.mem_of_getElem? h2) h3;rw [hg]
  simp [Instr.lookup,run_underlying M.und,MapKept.run_getObj_map hb,M.law.check w _ hkey,h1,hv,Result.andThen]

theorem zdX [DecidableEq α] {M:MK P α β} {w:World} {b n:Nat} {es:Array MapEntry} {clock:Nat} {g:α→Option β} (hb:w.heap[b]? = some (.map es clock)) (he:Ents M es clock n g) (hn:n < maxLen) {a:α} (ha:M.ok a) (v:β) :
  ∃es' clock',(Instr.mapUpdate M.T (.map (some b)) (M.kv a) (M.vv v)).run P w=.ok () (setBlock w b (.map es' clock'))∧Ents M es' clock' (n+1) (upd g a (some v)) ∧
   ((g a).isSome=true→clock'=clock∧es'.size=es.size∧(∀x'∈es'.toList,∃x∈es.toList,x.key=x'.key∧x.born=x'.born)∧es'.toList.map (·.born)=es.toList.map (·.born)):=by
 obtain ⟨kl,hkey⟩:=M.key a ha;rcases M.law.find w hkey es.toList he.fit.keys with ⟨h1,h2⟩ | ⟨j,e0,h1,h2,h3⟩
 ·have hg:g a=none:=by
   cases hga:g a with
   | none=>rfl
   | some u =>
    obtain ⟨x,hx,hk,_⟩:=he.up a u hga;exact absurd hk (h2 x hx)
  have hsz:=he.size;refine ⟨es.push ⟨M.kv a,M.vv v,clock⟩,clock+1, ?_,⟨⟨by simp; omega,stamped_push he.fit.stamped h2, ?_⟩,by simp; omega, ?_, ?_⟩, ?_⟩
  ·simp [Instr.mapUpdate,run_underlying M.und,MapKept.run_getObj_map hb,M.law.check w false hkey,h1,MapKept.run_setObj_map _ hb,Result.andThen,setBlock]
  ·intro x hx;simp only [Array.toList_push,List.mem_append,List.mem_singleton] at hx;rcases hx with hx | rfl
   ·exact he.fit.reads x hx
   ·exact ⟨_,rd_mk (R:=rdAny) hkey rfl⟩
  ·intro x hx;simp only [Array.toList_push,List.mem_append,List.mem_singleton] at hx;rcases hx with hx | rfl
   ·obtain ⟨a',v',h4,h5,h6,h7⟩:=he.down x hx;refine ⟨a',v',h4,h5,h6, ?_⟩;rw [zY g _ (fun e=>h2 x hx (by rw [h5,e]))];exact h7
   ·exact ⟨a,v,ha,rfl,rfl,zaq g a _⟩
  ·intro a' v' h4;by_cases e:a'=a
   ·subst e;rw [zaq] at h4;cases h4;exact ⟨⟨M.kv a',M.vv v,clock⟩,by simp,rfl,rfl⟩
   ·rw [zY g _ e] at h4;obtain ⟨x,hx,h5,h6⟩:=he.up a' v' h4;exact ⟨x,by simp only [Array.toList_push,List.mem_append]; exact .inl hx,h5,h6⟩
  ·rw [hg]; intro h; cases h
 ·have hj:es[j]? = some e0:=by simpa using h2
  have hjl:j < es.toList.length:=(List.getElem?_eq_some_iff.1 h2).1;have hm0:=List.mem_of_getElem? h2;have hlist:(es.modify j (fun e'=>{ e' with key:=M.kv a,val:=M.vv v })).toList=es.toList.set j { e0 with key:=M.kv a,val:=M.vv v }:=by rw [Array.toList_modify,modify_eq_set _ _ _ _ h2]
  have who:∀x∈es.toList.set j { e0 with key:=M.kv a,val:=M.vv v },x={ e0 with key:=M.kv a,val:=M.vv v }∨(x∈es.toList∧x.key≠M.kv a):=by
   intro x hx;obtain ⟨i,hi,ex⟩:=List.getElem_of_mem hx;rw [List.getElem_set] at ex
   split at ex
   ·exact Or.inl ex.symm
   ·rename_i hne
    have hi':i < es.toList.length:=by simpa using hi
    refine Or.inr ⟨ex▸List.getElem_mem hi', ?_⟩;rw [← h3];exact other_key he.fit h2 (by rw [List.getElem?_eq_getElem hi',ex]) (fun e1=>hne e1.symm)
  have hkeyf:∀e',es[j]? = some e'→({ e' with key:=M.kv a,val:=M.vv v }:MapEntry).key=e'.key:=fun e' he'=>by rw [hj] at he'; cases he'; exact h3.symm
  have hsz:=he.size;refine ⟨es.modify j (fun e'=>{ e' with key:=M.kv a,val:=M.vv v }),clock, ?_,⟨⟨by simpa using he.fit.size,stamped_modify he.fit.stamped _ _ (fun _ _=>rfl) (fun e' _ he'=>hkeyf e' he'), ?_⟩,by simp; omega, ?_, ?_⟩, ?_⟩
  ·simp [Instr.mapUpdate,run_underlying M.und,MapKept.run_getObj_map hb,M.law.check w false hkey,h1,hj,h3,M.law.stays w hkey,MapKept.run_setObj_map _ hb,Result.andThen,setBlock]
  ·intro x hx;rw [hlist] at hx;rcases who x hx with rfl | ⟨hx',_⟩
   ·exact ⟨_,rd_mk (R:=rdAny) hkey rfl⟩
   ·exact he.fit.reads x hx'
  ·intro x hx;rw [hlist] at hx;rcases who x hx with rfl | ⟨hx',hne⟩
   ·exact ⟨a,v,ha,rfl,rfl,zaq g a _⟩
   ·obtain ⟨a',v',h4,h5,h6,h7⟩:=he.down x hx';refine ⟨a',v',h4,h5,h6, ?_⟩;rw [zY g _ (fun e=>hne (by rw [h5,e]))];exact h7
  ·intro a' v' h4;rw [hlist];by_cases e:a'=a
   ·subst e;rw [zaq] at h4;cases h4;exact ⟨{ e0 with key:=M.kv a',val:=M.vv v },List.mem_iff_getElem.2 ⟨j,by simpa using hjl,by simp⟩,rfl,rfl⟩
   ·rw [zY g _ e] at h4;obtain ⟨x,hx,h5,h6⟩:=he.up a' v' h4;obtain ⟨i,hi,ex⟩:=List.getElem_of_mem hx;have hij:j≠i:=by
     intro e1;subst e1;rw [List.getElem?_eq_getElem hi] at h2;cases h2;rw [ex] at h3;exact e (M.inj _ _ (h5.symm.trans h3))
    exact ⟨x,List.mem_iff_getElem.2 ⟨i,by simpa using hi,by rw [List.getElem_set_ne hij]; exact ex⟩,h5,h6⟩
  ·intro _;refine ⟨rfl,by simp, ?_, ?_⟩
   ·intro x' hx';rw [hlist] at hx';rcases who x' hx' with rfl | ⟨hx,_⟩
    ·exact ⟨e0,hm0,h3,rfl⟩
    ·exact ⟨x',hx,rfl,rfl⟩
   ·rw [hlist,List.map_set]
    have:(es.toList.map (·.born))[j]'(by simpa using hjl)=e0.born:=by
     obtain ⟨hl,e1⟩:=List.getElem?_eq_some_iff.1 h2
     simp [← e1]
    rw [← this];exact List.set_getElem_self _

theorem MapIs.store [DecidableEq α] {M:MK P α β} {w:World} {b n:Nat} {g:α→Option β} (h:MapIs M w b n g) (hn:n < maxLen) {a:α} (ha:M.ok a) (v:β) :
  ∃w',(Instr.mapUpdate M.T (.map (some b)) (M.kv a) (M.vv v)).run P w=.ok () w'∧MapIs M w' b (n+1) (upd g a (some v))∧w.grownBy w' (some b)∧w'.heap.size=w.heap.size:=by
 obtain ⟨es,clock,hb,he⟩:=h;obtain ⟨es',clock',hrun,he',-⟩:=zdX hb he hn ha v;exact ⟨_,hrun,⟨es',clock',heap_setBlock_same hb _,he'⟩,⟨rfl,rfl,rfl,by simp [setBlock],fun i _ hi=>heap_setBlock_other hb _ (fun e=>hi (by rw [e]))⟩,by simp [setBlock]⟩

theorem zeJ [DecidableEq α] {M:MK P α β} {w:World} {b n:Nat} {es:Array MapEntry} {clock:Nat} {g:α→Option β} (hb:w.heap[b]? = some (.map es clock)) (he:Ents M es clock n g) {a:α} (ha:M.ok a) (ty:TypeId) :
  ∃es',(Builtin.delete_ #[M.T,M.K] ty #[.map (some b),M.kv a]).run P w=.ok (.tuple #[]) (setBlock w b (.map es' clock))∧Ents M es' clock n (upd g a none)∧es'.toList.Sublist es.toList∧∀x,x∈es'.toList↔(x∈es.toList∧x.key≠M.kv a):=by
 obtain ⟨kl,hkey⟩:=M.key a ha;obtain ⟨es',hrun,hfit,hsz,-,hsub,hwho⟩:=fit_drop_who (ty:=ty) M.law M.und hb he.fit hkey;refine ⟨es',hrun,⟨hfit,Nat.le_trans hsz he.size, ?_, ?_⟩,hsub,hwho⟩
 ·intro x hx;obtain ⟨hx1,hx2⟩:=(hwho x).1 hx;obtain ⟨a',v',h4,h5,h6,h7⟩:=he.down x hx1;refine ⟨a',v',h4,h5,h6, ?_⟩;rw [zY g _ (fun e=>hx2 (by rw [h5,e]))];exact h7
 ·intro a' v' h4;by_cases e:a'=a
  ·subst e;rw [zaq] at h4;cases h4
  ·rw [zY g _ e] at h4;obtain ⟨x,hx,h5,h6⟩:=he.up a' v' h4;exact ⟨x,(hwho x).2 ⟨hx,fun e1=>e (M.inj _ _ (h5.symm.trans e1))⟩,h5,h6⟩

theorem MapIs.drop [DecidableEq α] {M:MK P α β} {w:World} {b n:Nat} {g:α→Option β} (h:MapIs M w b n g) {a:α} (ha:M.ok a) (ty:TypeId) :
  ∃w',(Builtin.delete_ #[M.T,M.K] ty #[.map (some b),M.kv a]).run P w=.ok (.tuple #[]) w'∧MapIs M w' b n (upd g a none)∧w.grownBy w' (some b)∧w'.heap.size=w.heap.size:=by
 obtain ⟨es,clock,hb,he⟩:=h;obtain ⟨es',hrun,he',-,-⟩:=zeJ hb he ha ty;exact ⟨_,hrun,⟨es',clock,heap_setBlock_same hb _,he'⟩,⟨rfl,rfl,rfl,by simp [setBlock],fun i _ hi=>heap_setBlock_other hb _ (fun e=>hi (by rw [e]))⟩,by simp [setBlock]⟩

def Ranging (M:MK P α β) (w:World) (b r n:Nat) (g:α→Option β) (left:α→Bool) (cnt:Nat):Prop :=
 ∃es clock since seen c0,w.heap[b]? = some (.map es clock)∧Ents M es clock n g∧w.heap[r]? = some (.mapIter (some b) since seen c0)∧(∀x∈es.toList,x.born < since)∧(leftOf es seen).size=cnt ∧
  (∀x∈es.toList,∀a,x.key=M.kv a→left a = !seen.contains x.born)∧(∀a,left a=true→(g a).isSome=true)∧since≤c0∧since≤clock

theorem Ranging.is {M:MK P α β} {w:World} {b r n:Nat} {g:α→Option β} {left:α→Bool} {cnt:Nat} (h:Ranging M w b r n g left cnt):MapIs M w b n g:=by
 obtain ⟨es,clock,since,seen,c0,hb,he,-⟩:=h;exact ⟨es,clock,hb,he⟩

theorem Ranging.ne {M:MK P α β} {w:World} {b r n:Nat} {g:α→Option β} {left:α→Bool} {cnt:Nat} (h:Ranging M w b r n g left cnt):r≠b:=by
 obtain ⟨es,clock,since,seen,c0,hb,he,hr,-⟩:=h;intro e;rw [e,hb] at hr;cases hr

theorem Ranging.lt {M:MK P α β} {w:World} {b r n:Nat} {g:α→Option β} {left:α→Bool} {cnt:Nat} (h:Ranging M w b r n g left cnt):r < w.heap.size:=by
 obtain ⟨es,clock,since,seen,c0,hb,he,hr,-⟩:=h;exact (Array.getElem?_eq_some_iff.1 hr).1

theorem Ranging.kept {M:MK P α β} {w w':World} {b r n:Nat} {g:α→Option β} {left:α→Bool} {cnt:Nat} (h:Ranging M w b r n g left cnt) (hb1:w'.heap[b]? = w.heap[b]?) (hr1:w'.heap[r]? = w.heap[r]?):Ranging M w' b r n g left cnt:=by
 obtain ⟨es,clock,since,seen,c0,hb,he,hr,rest⟩:=h;exact ⟨es,clock,since,seen,c0,hb1.trans hb,he,hr1.trans hr,rest⟩

theorem Ranging.below {M:MK P α β} {w w':World} {b r n:Nat} {g:α→Option β} {left:α→Bool} {cnt:Nat} (h:Ranging M w b r n g left cnt) (hb:Below w.heap.size w w'):Ranging M w' b r n g left cnt :=
 h.kept (hb.block b h.is.lt) (hb.block r h.lt)

theorem Ranging.left_eq {M:MK P α β} {w:World} {b r n:Nat} {g:α→Option β} {left:α→Bool} {cnt:Nat} (h:Ranging M w b r n g left cnt):w.rangeLeft b r=cnt:=by
 obtain ⟨es,clock,since,seen,c0,hb,he,hr,h1,h2,-⟩:=h;simp only [World.rangeLeft,hb,hr];exact h2

theorem MapIs.range {M:MK P α β} {w:World} {b n:Nat} {g:α→Option β} (h:MapIs M w b n g) :
  ∃w' cnt,(Instr.range M.T (.map (some b))).run P w=.ok (.pointer (some ⟨w.heap.size,0,none⟩)) w'∧Ranging M w' b w.heap.size n g (fun a=>(g a).isSome) cnt∧Below w.heap.size w w'∧w'.heap.size=w.heap.size+1:=by
 have hlt:=h.lt;obtain ⟨es,clock,hb,he⟩:=h;refine ⟨_,_,run_range_map w M.T M.K M.E b es clock M.und hb,⟨es,clock,clock,#[],clock,((MapKept.heap_alloc w _).2 b hlt).trans hb,he,(MapKept.heap_alloc w _).1,he.fit.stamped.1,rfl, ?_, ?_,Nat.le_refl _,Nat.le_refl _⟩,zn w _,by simp⟩
 ·intro x hx a hk;obtain ⟨v,_,hg⟩:=zej he hx hk
  simp [hg]
 ·intro a ha;exact ha

theorem Ranging.next [DecidableEq α] {M:MK P α β} {w:World} {b r n:Nat} {g:α→Option β} {left:α→Bool} {cnt:Nat} (h:Ranging M w b r n g left cnt) (ty:TypeId) :
  (cnt=0∧(∀a,left a=false)∧(Instr.next (.pointer (some ⟨r,0,none⟩)) false ty).run P w=.ok (.tuple #[.bool false]) w) ∨
  ∃a v w' cnt',M.ok a∧left a=true∧g a=some v∧(Instr.next (.pointer (some ⟨r,0,none⟩)) false ty).run P w=.ok (.tuple #[.bool true,M.kv a,M.vv v]) w' ∧
   Ranging M w' b r n g (upd left a false) cnt'∧cnt' < cnt∧w.grownBy w' (some r)∧w'.heap.size=w.heap.size∧(Instr.entry (.pointer (some ⟨r,0,none⟩))).run P w'=.ok (.tuple #[M.kv a,M.vv v]) w':=by
 have hne:=h.ne;obtain ⟨es,clock,since,seen,c0,hb,he,hr,hold,rfl,hl1,hl2,hsc,hsk⟩:=h;have hst:=(stamped_iff es clock).1 he.fit.stamped;rcases run_next_at (P:=P) w ty r b since c0 seen es clock hr hb hold hsc with ⟨h0,hrun⟩ | ⟨e,hem',w1,hal,hrun⟩
 ·refine Or.inl ⟨h0,fun a => ?_,hrun⟩;cases hk:left a
  ·rfl
  ·obtain ⟨v,hv⟩:=Option.isSome_iff_exists.1 (hl2 a hk);obtain ⟨x,hx,hxk,_⟩:=he.up a v hv;rw [hl1 x hx a hxk,all_seen es seen h0 x hx] at hk;cases hk
 ·obtain ⟨hem,hes⟩:=mem_left hem';obtain ⟨a,v,hok,hka,hva,hga⟩:=he.down e hem;have hr1:w1.heap[r]? = some (.mapIter (some b) since seen c0):=by rcases hal with rfl | rfl <;> exact hr
  have hb1:w1.heap[b]? = some (.map es clock):=by rcases hal with rfl | rfl <;> exact hb
  have hset:=heap_set (o':=.mapIter (some b) since (seen.push e.born) clock) hr1;have hb':(setBlock w1 r (.mapIter (some b) since (seen.push e.born) clock)).heap[b]? = some (.map es clock):=(hset.2 b (fun e1=>hne e1.symm)).trans hb1;rw [hka,hva] at hrun;refine Or.inr ⟨a,v,_,_,hok,by rw [hl1 e hem a hka,hes]; rfl,hga,hrun,
   ⟨es,clock,since,seen.push e.born,clock,hb',he,hset.1,hold,rfl,fun x hx a' hxa => ?_,fun a' ha' => ?_,hsk,hsk⟩,left_shrinks es seen e hem', ?_, ?_, ?_⟩
  ·rw [contains_push];by_cases e1:a'=a
   ·subst e1;rw [zaq]
    have:x=e:=entry_eq_of_key hst.2.2 hx hem (hxa.trans hka.symm)
    subst this
    simp
   ·rw [zY left _ e1,hl1 x hx a' hxa]
    have:(x.born == e.born)=false:=by
     rw [beq_eq_false_iff_ne];intro e2
     have:=born_inj hst.2.1 hx hem e2
     subst this;exact e1 (M.inj _ _ (hxa.symm.trans hka))
    rw [this,Bool.or_false]
  ·refine hl2 a' ?_;by_cases e1:a'=a
   ·subst e1;rw [zaq] at ha';cases ha'
   ·rw [zY left _ e1] at ha';exact ha'
  ·rcases hal with rfl | rfl <;> exact ⟨rfl,rfl,rfl,by simp [setBlock],fun i _ hi=>hset.2 i (fun e1=>hi (by rw [e1]))⟩
  ·rcases hal with rfl | rfl <;> simp [setBlock]
  ·have:=run_entry_at (P:=P) _ r b since seen es clock e hset.1 hb' hem hst.2.1
   rw [hka,hva] at this;exact this

theorem zbz (es:Array MapEntry) (seen:Array Nat):(leftOf es seen).size=((es.toList.map (·.born)).filter fun k => !seen.contains k).length:=by
 unfold leftOf;rw [← Array.length_toList,Array.toList_filter,List.filter_map,List.length_map]
 rfl

theorem Ranging.store [DecidableEq α] {M:MK P α β} {w:World} {b r n:Nat} {g:α→Option β} {left:α→Bool} {cnt:Nat} (h:Ranging M w b r n g left cnt) (hn:n < maxLen) {a:α} (ha:M.ok a) (hs:(g a).isSome=true) (v:β) :
  ∃w',(Instr.mapUpdate M.T (.map (some b)) (M.kv a) (M.vv v)).run P w=.ok () w'∧Ranging M w' b r n (upd g a (some v)) left cnt∧w.grownBy w' (some b)∧w'.heap.size=w.heap.size:=by
 have hne:=h.ne;obtain ⟨es,clock,since,seen,c0,hb,he,hr,hold,rfl,hl1,hl2,hsc,hsk⟩:=h;obtain ⟨es',clock',hrun,he',hz⟩:=zdX hb he hn ha v;obtain ⟨rfl,hsz,hwho,hborn⟩:=hz hs;refine ⟨_,hrun,⟨es',clock',since,seen,c0,heap_setBlock_same hb _,⟨he'.fit,by rw [hsz]; exact he.size,he'.down,he'.up⟩,(heap_setBlock_other hb _ hne).trans hr, ?_, ?_, ?_, ?_,hsc,hsk⟩,⟨rfl,rfl,rfl,by simp [setBlock],fun i _ hi=>heap_setBlock_other hb _ (fun e=>hi (by rw [e]))⟩,by simp [setBlock]⟩
 ·intro x' hx';obtain ⟨x,hx,_,hxb⟩:=hwho x' hx';rw [← hxb];exact hold x hx
 ·rw [zbz,zbz,hborn]
 ·intro x' hx' a' hk;obtain ⟨x,hx,hxk,hxb⟩:=hwho x' hx';rw [← hxb];exact hl1 x hx a' (hxk.trans hk)
 ·intro a' ha';by_cases e:a'=a
  ·subst e; rw [zaq]; rfl
  ·rw [zY g _ e]; exact hl2 a' ha'

theorem Ranging.drop [DecidableEq α] {M:MK P α β} {w:World} {b r n:Nat} {g:α→Option β} {left:α→Bool} {cnt:Nat} (h:Ranging M w b r n g left cnt) {a:α} (ha:M.ok a) (hs:left a=false) (ty:TypeId) :
  ∃w' cnt',(Builtin.delete_ #[M.T,M.K] ty #[.map (some b),M.kv a]).run P w=.ok (.tuple #[]) w'∧Ranging M w' b r n (upd g a none) left cnt'∧cnt'≤cnt∧w.grownBy w' (some b)∧w'.heap.size=w.heap.size:=by
 have hne:=h.ne;obtain ⟨es,clock,since,seen,c0,hb,he,hr,hold,rfl,hl1,hl2,hsc,hsk⟩:=h;obtain ⟨es',hrun,he',hsub,hwho⟩:=zeJ hb he ha ty;refine ⟨_,_,hrun,⟨es',clock,since,seen,c0,heap_setBlock_same hb _,he',(heap_setBlock_other hb _ hne).trans hr, ?_,rfl, ?_, ?_,hsc,hsk⟩, ?_,⟨rfl,rfl,rfl,by simp [setBlock],fun i _ hi=>heap_setBlock_other hb _ (fun e=>hi (by rw [e]))⟩,by simp [setBlock]⟩
 ·intro x hx;exact hold x ((hwho x).1 hx).1
 ·intro x hx a' hk;exact hl1 x ((hwho x).1 hx).1 a' hk
 ·intro a' ha';by_cases e:a'=a
  ·subst e; rw [hs] at ha'; cases ha'
  ·rw [zY g _ e]; exact hl2 a' ha'
 ·rw [zbz,zbz];exact ((hsub.map _).filter _).length_le

end

structure VR where
 i:Int
 m:Int
 b:Int

structure VT where
 rows:List VR
 own:List Int

def zbs (l:List VR) (id:Int):Option Nat:=l.findIdx? (fun r=>r.i == id)
def rowAt (l:List VR) (id:Int):Int:=match zbs l id with
 | some k=>k
 | none => -1

def in3 (x lo hi:Int):Bool:=decide (lo≤x) && decide (x≤hi)
def allOf (p:Nat):Int:=2 ^ p - 1

def zb0 (all:Int) (r:VR):Bool:=in3 r.i 1 99 && in3 r.m 0 all && in3 r.b 0 all && (bits .and .i64 r.b r.m == r.b)

def vrises:List VR→Bool
 | []=>true
 | [_]=>true
 | e::f::r=>decide (e.i < f.i) && vrises (f::r)

def zaK (v:VT) (ports:Int):Bool :=
 in3 ports 1 6 && ((v.own.length:Int) == ports) && decide (v.rows.length≤6) && v.rows.all (zb0 (allOf ports.toNat)) && vrises v.rows && v.own.all (fun p=>(zbs v.rows p).isSome)

def bitOf (n port:Int):Bool:=in3 port 0 7 && (bits .and .i64 (n / 2 ^ port.toNat) 1 == 1)

theorem ze2 {l:List VR} {id:Int} {k:Nat} {x:VR} (hno:∀j y,j < k→l[j]? = some y→(y.i == id)=false) (hx:l[k]? = some x) (he:(x.i == id)=true):zbs l id=some k:=by
 obtain ⟨hk,rfl⟩:=List.getElem?_eq_some_iff.1 hx;refine List.findIdx?_eq_some_iff_getElem.2 ⟨hk,he,fun j hj => ?_⟩
 have:=hno j l[j] hj (List.getElem?_eq_getElem (by omega))
 simp [this]

theorem zfL {l:List VR} {id:Int} (hno:∀(j:Nat) (y:VR),l[j]? = some y→(y.i == id)=false):zbs l id=none:=by
 refine List.findIdx?_eq_none_iff.2 fun x hx => ?_
 obtain ⟨j,hj⟩:=List.mem_iff_getElem?.1 hx;exact hno j x hj

theorem zir {l:List VR} {id:Int} {k:Nat} {x:VR} (hno:∀j y,j < k→l[j]? = some y→(y.i == id)=false) (hx:l[k]? = some x) (he:(x.i == id)=false):∀j y,j < k+1→l[j]? = some y→(y.i == id)=false:=by
 intro j y hj hy;by_cases e:j=k
 ·subst e;rw [hx] at hy;cases hy;exact he
 ·exact hno j y (by omega) hy

theorem zfK {l:List VR} {id:Int} {k:Nat} {x:VR} (hno:∀j y,j < k→l[j]? = some y→(y.i == id)=false) (hx:l[k]? = some x) (he:(x.i == id)=true):rowAt l id=k:=by
 unfold rowAt;rw [ze2 hno hx he]
theorem zgJ {l:List VR} {id:Int} (hno:∀(j:Nat) (y:VR),l[j]? = some y→(y.i == id)=false):rowAt l id = -1:=by
 unfold rowAt;rw [zfL hno]

def cI (zs:List Int):List Value:=zs.map (Value.int .i64)

def I64s (zs:List Int):Prop:=∀z∈zs,-9223372036854775808≤z∧z≤9223372036854775807

theorem zgY (zs:List Int):(cI zs).length=zs.length:=by simp [cI]
theorem zjd (a b:List Int):cI (a++b)=cI a++cI b:=by simp [cI]
theorem zix (zs:List Int) (j:Nat) (h:j < zs.length):(cI zs)[j]? = some (.int .i64 (zs.getD j 0)):=by
 simp [cI,List.getElem?_map,List.getElem?_eq_getElem h]

structure IRow (w:World) (ao:Option Addr) (len cap:Nat) (zs:List Int):Prop where
 size:zs.length=len
 le:len≤cap
 top:cap≤maxLen
 nil:ao=none→cap=0
 byte:I64s zs
 cell:len=0∨∃b off,ao=some ⟨b,off,none⟩∧∀i,i < len→w.cell? ⟨b,off+i,none⟩=some (.int .i64 (zs.getD i 0))

theorem IRow.below {w w':World} {ao:Option Addr} {len cap:Nat} {zs:List Int} (h:IRow w ao len cap zs) (hb:Below w.heap.size w w'):IRow w' ao len cap zs where
 size:=h.size
 le:=h.le
 top:=h.top
 nil:=h.nil
 byte:=h.byte
 cell:=by
  rcases h.cell with h0 | ⟨b,off,ha,hc⟩
  ·exact .inl h0
  ·exact .inr ⟨b,off,ha,fun i hi=>by rw [hb.cell (zp (hc i hi))]; exact hc i hi⟩

theorem zfw {w:World} {base:Nat} {v:Value} {n:Nat} {zs:List Int} (h:w.ownsRow base 3 1 v n (cI zs)) (hz:I64s zs) :
  ∃ao cap,v=.slice ao n cap∧IRow w ao n cap zs:=by
 have hl:zs.length=n:=by have:=h.1; simpa [cI] using this
 rcases h.2 with ⟨rfl,rfl⟩ | ⟨g,cap,cur,rfl,hg,hh,h1,h2,h3,h4⟩
 ·exact ⟨none,0,rfl,hl,Nat.le_refl _,Nat.zero_le _,fun _=>rfl,hz,.inl rfl⟩
 ·refine ⟨_,cap,rfl,hl,h1,h2,(by intro h; cases h),hz,.inr ⟨g,0,rfl,fun i hi => ?_⟩⟩
  have:=h.cellAt i (by omega)
  rw [Nat.zero_add,this,zix zs i (by omega)]

theorem Tryz.infoI64:(Tryz.prog.info? 3).map (fun i=>(i.zero,i.size,i.bytes))=some (some (.int .i64 0),1,8):=by kernel_rfl

theorem IRow.news {w:World} {ao:Option Addr} {len cap:Nat} {zs:List Int} (h:IRow w ao len cap zs) (ad:Addr) (ha:ao=some ad) (j:Nat) (u:Value) (hu:(cI zs)[j]? = some u):w.cell? (ad.add j)=some u:=by
 have hj:j < zs.length:=by
  by_cases hlt:j < zs.length
  ·exact hlt
  ·rw [List.getElem?_eq_none (by rw [zgY]; omega)] at hu;cases hu
 rw [zix _ _ hj] at hu;rcases h.cell with h0 | ⟨b,off,hb,hc⟩
 ·have:=h.size; omega
 ·rw [ha] at hb;cases hb;rw [← hu];rw [zed]; exact hc j (by have:=h.size; omega)

theorem zhY {zs:List Int} (h:I64s zs) (j:Nat) : -9223372036854775808≤zs.getD j 0∧zs.getD j 0≤9223372036854775807:=by
 by_cases hj:j < zs.length
 ·rw [List.getD_eq_getElem?_getD,List.getElem?_eq_getElem hj]; exact h _ (List.getElem_mem hj)
 ·rw [List.getD_eq_getElem?_getD,List.getElem?_eq_none (by omega)]; simp

theorem IRow.at {w:World} {ao:Option Addr} {len cap:Nat} {zs:List Int} (h:IRow w ao len cap zs) (hp:0 < len):∃b off,ao=some ⟨b,off,none⟩∧∀i,i < len→w.cell? ⟨b,off+i,none⟩=some (.int .i64 (zs.getD i 0)):=by
 rcases h.cell with h0 | h0
 ·omega
 ·exact h0

theorem I64s.at {zs:List Int} (h:I64s zs) (j:Nat) : -9223372036854775808≤zs.getD j 0∧zs.getD j 0≤9223372036854775807:=zhY h j

def zjq (k:Int) (n:Nat):List Int:=(List.range n).map fun i:Nat=>(k+i)

theorem zf4 {w:World} {base:Nat} {ao:Option Addr} {n cap:Nat} {zs:List Int} (h:w.ownsRow base 3 1 (.slice ao n cap) n (cI zs)) (hz:I64s zs):IRow w ao n cap zs:=by
 obtain ⟨ao',cap',e,hr⟩:=zfw h hz;cases e;exact hr

def vrowF:Flat VR where
 k:=3
 cs:=fun e=>[.int .i64 e.i,.int .i64 e.m,.int .i64 e.b]
 len:=fun _=>rfl
 pos:=by decide
 one:=fun _ v hv=>by
  simp only [List.mem_cons,List.not_mem_nil,or_false] at hv;rcases hv with rfl | rfl | rfl <;> rfl

theorem zfS {w:World} {ao:Option Addr} {len cap:Nat} {l:List VR} (h:GRow vrowF w ao len cap l) (i:Nat) (hi:i < len):∃(x:VR) (b off:Nat),l[i]? = some x∧ao=some ⟨b,off,none⟩ ∧
  w.cell? ⟨b,off+i*3,none⟩=some (.int .i64 x.i)∧w.cell? ⟨b,off+i*3+1,none⟩=some (.int .i64 x.m)∧w.cell? ⟨b,off+i*3+2,none⟩=some (.int .i64 x.b):=by
 obtain ⟨x,b,off,hx,ha,hc⟩:=h.at i hi;exact ⟨x,b,off,hx,ha,hc 0 _ rfl,hc 1 _ rfl,hc 2 _ rfl⟩

structure VTab (w:World) (a:Option Addr) (n c:Nat) (o:Option Addr) (p q:Nat) (v:VT):Prop where
 rows:GRow vrowF w a n c v.rows
 own:IRow w o p q v.own

theorem VTab.below {w w':World} {a:Option Addr} {n c:Nat} {o:Option Addr} {p q:Nat} {v:VT} (h:VTab w a n c o p q v) (hb:Below w.heap.size w w'):VTab w' a n c o p q v :=
 ⟨h.rows.below hb,h.own.below hb⟩

theorem zf (x lo hi:Int) (w:World) :
  Calls Tryz.prog 54 #[.int .i64 x,.int .i64 lo,.int .i64 hi] w fun e w'=>e=.returned (.bool (decide (lo≤x) && decide (x≤hi)))∧w'=w:=by
 by_cases h1:lo≤x
 ·go_enter Tryz.func54,Tryz.ntmps54;go_wp2;go_ret;exact ⟨zai (by simp [h1]),rfl⟩
 ·go_enter Tryz.func54,Tryz.ntmps54;go_wp2;go_ret;exact ⟨zai (by rw [decide_eq_false (show ¬lo≤x by omega)]; rfl),rfl⟩

theorem zcE (a:Option Addr) (n c:Nat) (l:List VR) (o:Option Addr) (p q:Nat) (id:Int) (w:World) (h:GRow vrowF w a n c l) :
  Calls Tryz.prog 166 #[.agg #[.slice a n c,.slice o p q],.int .i64 id] w fun r w'=>r=.returned (.int .i64 (rowAt l id))∧Below w.heap.size w w':=by
 have hle:=h.le;have htop:=h.top;unfold maxLen at htop;have hsz:=h.size;have hW:Below w.heap.size w (w.alloc (Obj.cells #[Value.slice a n c,Value.slice o p q] 42)):=zn _ _;have h:=h.below hW;go_enter Tryz.func166,Tryz.ntmps166;go_wp2
 go_loop [5] (fun i=>∃k:Nat,k≤n∧i=.int .i64 k∧∀(j:Nat) (y:VR),j < k→l[j]? = some y→(y.i == id)=false) (fun i=>n - (intOf i).toNat)
 case atStart=>exact ⟨0,Nat.zero_le _,rfl,fun j y hj=>by omega⟩
 case round =>
  obtain ⟨k,hk,rfl,hno⟩:=hrel;by_cases hlt:k < n
  ·obtain ⟨x,b,off,hx,rfl,c0,-,-⟩:=zfS h k hlt;cases t1:(x.i == id)
   ·have HO:=hide (zir hno hx t1);clear hno;go_wp2
    go_round
    case rel=>exact ⟨k+1,by omega,by go_num,HO.out⟩
    case measure=>simp [intOf]; omega
   ·have HF:=hide (zfK hno hx t1);clear hno;go_wp2;go_ret;exact ⟨(by rw [HF.out]; rfl),hW⟩
  ·have hkn:k=n:=by omega
   have HF:=hide (zgJ (l:=l) (id:=id) (fun i y hy=>hno i y (by have:=(List.getElem?_eq_some_iff.1 hy).1; omega) hy));clear hno;subst hkn;go_wp2;go_ret;exact ⟨(by rw [HF.out]; rfl),hW⟩

theorem zw {K:World→Prop} {W:World} {o:Obj} (h:∀wx,wx.heap[W.heap.size]? = some o→Below W.heap.size W wx→K wx):K (W.alloc o):=h _ (zT W o) (zn W o)

theorem zq {K:World→Prop} {W:World} {o:Obj} (h:∀wx,wx.heap[W.heap.size]? = some o→Below W.drew.heap.size W.drew wx→K wx):K (W.alloc o).drew:=h _ (zT W o) (zn W.drew o)

structure Piece where
 ao:Option Addr
 len:Nat
 cap:Nat
 zs:List Int

def tot (ps:List Piece) (k:Nat):Nat:=((ps.take k).map Piece.len).sum
def flat (ps:List Piece) (k:Nat):List Int:=((ps.take k).map Piece.zs).flatten

def clip (n:Int):Int:=if 2147483647 < n then 2147483647 else if n < -2147483648 then -2147483648 else n

def ints:Nat→Int→List Int→List Int
 | 0,_,out=>out
 | f+1,n,out=>if n < -128∨127 < n then ints f (n / 256) (n / 256 % 256::out) else out

def zeY (n:Int):List Int:=ints 3 (clip n) [clip n % 256]

def Fits (f:Nat) (n:Int):Prop := -(128*256 ^ f)≤n∧n < 128*256 ^ f

def lenB (n:Nat):List Int:=if n < 128 then [(n:Int)] else [129,(n:Int)]
def zeZ (b:List Int) (tag:Int) (body:List Int):List Int :=
 if tag < 0∨255 < tag∨250 < body.length then b else b++([tag]++lenB body.length++body)

def sgn (b:Int):Int:=if 127 < b then b - 256 else b
def val (zs:List Int):Nat→Int
 | 0=>sgn (zs.getD 0 0)
 | k+1=>val zs k*256+zs.getD (k+1) 0

structure VD where
 r:Int
 c:Int
 h:Int
 b:Int
 p:Int

def okVc (r c h b p:Int):Bool:=decide (1≤r∧r≤99) && (decide (0≤c∧c≤100000) && (decide (0≤h∧h≤10) && (decide (1≤b∧b≤99) && decide (0≤p∧p≤7))))
def zja (r c h b p:Int):List Int:=zeZ (zeZ (zeZ (zeZ (zeZ [] 2 (zeY r)) 2 (zeY c)) 2 (zeY h)) 2 (zeY b)) 2 (zeY p)
def putVc (r c h b p:Int):List Int:=if okVc r c h b p=true then zja r c h b p else []

theorem zgG {r c h b p:Int} (k:okVc r c h b p=true):(1≤r∧r≤99)∧(0≤c∧c≤100000)∧(0≤h∧h≤10)∧(1≤b∧b≤99)∧(0≤p∧p≤7):=by
 unfold okVc at k;simp only [Bool.and_eq_true,decide_eq_true_eq] at k;exact k

theorem ziV (R C H B P:Int):okVc R C H B P=((decide (1≤R) && decide (R≤99)) && ((decide (0≤C) && decide (C≤100000)) && ((decide (0≤H) && decide (H≤10)) && ((decide (1≤B) && decide (B≤99)) && (decide (0≤P) && decide (P≤7)))))):=by
 unfold okVc;have e1:∀a x b:Int,decide (a≤x∧x≤b)=(decide (a≤x) && decide (x≤b)):=fun a x b=>by rw [Bool.eq_iff_iff]; simp
 rw [e1,e1,e1,e1,e1]

theorem zab (R C H B P:Int) (w:World) :
  Calls Tryz.prog 100 #[.agg #[.int .i64 R,.int .i64 C,.int .i64 H,.int .i64 B,.int .i64 P]] w fun e w'=>e=.returned (.bool (okVc R C H B P))∧Below w.heap.size w w':=by
 generalize hP:okVc R C H B P=Q;rw [ziV] at hP;cases t1:(decide (1≤R) && decide (R≤99))
 ·have e:Q=false:=by rw [← hP,t1]; rfl
  subst e;have T1:=hide t1;clear hP t1;go_enter Tryz.func100,Tryz.ntmps100;(go_wp2_with fail);refine (zf R 1 99 _).mono ?_;rintro e w1 ⟨rfl,rfl⟩;rw [T1.out];go_wp2;go_ret;exact ⟨rfl,zn _ _⟩
 cases t2:(decide (0≤C) && decide (C≤100000))
 ·have e:Q=false:=by rw [← hP,t1,t2]; rfl
  subst e;have T1:=hide t1;have T2:=hide t2;clear hP t1 t2;go_enter Tryz.func100,Tryz.ntmps100;(go_wp2_with fail);refine (zf R 1 99 _).mono ?_;rintro e w1 ⟨rfl,rfl⟩;rw [T1.out];(go_wp2_with fail);refine (zf C 0 100000 _).mono ?_;rintro e w2 ⟨rfl,rfl⟩;rw [T2.out];go_wp2;go_ret;exact ⟨rfl,zn _ _⟩
 cases t3:(decide (0≤H) && decide (H≤10))
 ·have e:Q=false:=by rw [← hP,t1,t2,t3]; rfl
  subst e;have T1:=hide t1;have T2:=hide t2;have T3:=hide t3;clear hP t1 t2 t3;go_enter Tryz.func100,Tryz.ntmps100;(go_wp2_with fail);refine (zf R 1 99 _).mono ?_;rintro e w1 ⟨rfl,rfl⟩;rw [T1.out];(go_wp2_with fail);refine (zf C 0 100000 _).mono ?_;rintro e w2 ⟨rfl,rfl⟩;rw [T2.out];(go_wp2_with fail);refine (zf H 0 10 _).mono ?_;rintro e w3 ⟨rfl,rfl⟩;rw [T3.out];go_wp2;go_ret;exact ⟨rfl,zn _ _⟩
 cases t4:(decide (1≤B) && decide (B≤99))
 ·have e:Q=false:=by rw [← hP,t1,t2,t3,t4]; rfl
  subst e;have T1:=hide t1;have T2:=hide t2;have T3:=hide t3;have T4:=hide t4;clear hP t1 t2 t3 t4;go_enter Tryz.func100,Tryz.ntmps100;(go_wp2_with fail);refine (zf R 1 99 _).mono ?_;rintro e w1 ⟨rfl,rfl⟩;rw [T1.out];(go_wp2_with fail);refine (zf C 0 100000 _).mono ?_;rintro e w2 ⟨rfl,rfl⟩;rw [T2.out];(go_wp2_with fail);refine (zf H 0 10 _).mono ?_;rintro e w3 ⟨rfl,rfl⟩;rw [T3.out];(go_wp2_with fail);refine (zf B 1 99 _).mono ?_;rintro e w4 ⟨rfl,rfl⟩;rw [T4.out];go_wp2;go_ret;exact ⟨rfl,zn _ _⟩
 cases t5:(decide (0≤P) && decide (P≤7))
 ·have e:Q=false:=by rw [← hP,t1,t2,t3,t4,t5]; rfl
  subst e;have T1:=hide t1;have T2:=hide t2;have T3:=hide t3;have T4:=hide t4;have T5:=hide t5;clear hP t1 t2 t3 t4 t5;go_enter Tryz.func100,Tryz.ntmps100;(go_wp2_with fail);refine (zf R 1 99 _).mono ?_;rintro e w1 ⟨rfl,rfl⟩;rw [T1.out];(go_wp2_with fail);refine (zf C 0 100000 _).mono ?_;rintro e w2 ⟨rfl,rfl⟩;rw [T2.out];(go_wp2_with fail);refine (zf H 0 10 _).mono ?_;rintro e w3 ⟨rfl,rfl⟩;rw [T3.out];(go_wp2_with fail);refine (zf B 1 99 _).mono ?_;rintro e w4 ⟨rfl,rfl⟩;rw [T4.out];(go_wp2_with fail);refine (zf P 0 7 _).mono ?_;rintro e w5 ⟨rfl,rfl⟩;rw [T5.out];go_wp2;go_ret;exact ⟨rfl,zn _ _⟩
 have e:Q=true:=by rw [← hP,t1,t2,t3,t4,t5]; rfl
 subst e;have T1:=hide t1;have T2:=hide t2;have T3:=hide t3;have T4:=hide t4;have T5:=hide t5;clear hP t1 t2 t3 t4 t5;go_enter Tryz.func100,Tryz.ntmps100;go_wp2_with fail
 refine (zf R 1 99 _).mono ?_;rintro e w1 ⟨rfl,rfl⟩;rw [T1.out];go_wp2_with fail
 refine (zf C 0 100000 _).mono ?_;rintro e w2 ⟨rfl,rfl⟩;rw [T2.out];go_wp2_with fail
 refine (zf H 0 10 _).mono ?_;rintro e w3 ⟨rfl,rfl⟩;rw [T3.out];go_wp2_with fail
 refine (zf B 1 99 _).mono ?_;rintro e w4 ⟨rfl,rfl⟩;rw [T4.out];go_wp2_with fail
 refine (zf P 0 7 _).mono ?_;rintro e w5 ⟨rfl,rfl⟩;rw [T5.out];go_wp2;go_ret;exact ⟨rfl,zn _ _⟩

def zbh (R C B P R' C' B' P':Int):Bool :=
 if (R != R')=true then decide (R < R') else if (C != C')=true then decide (C < C') else if (B != B')=true then decide (B < B') else decide (P < P')

theorem zaP (R C H B P R' C' H' B' P':Int) (w:World) :
  Calls Tryz.prog 154 #[.agg #[.int .i64 R,.int .i64 C,.int .i64 H,.int .i64 B,.int .i64 P],.agg #[.int .i64 R',.int .i64 C',.int .i64 H',.int .i64 B',.int .i64 P']] w fun e w'=>e=.returned (.bool (zbh R C B P R' C' B' P'))∧Below w.heap.size w w':=by
 cases t1:(R != R')
 ·cases t2:(C != C')
  ·cases t3:(B != B')
   ·have e:zbh R C B P R' C' B' P'=decide (P < P'):=by unfold zbh; rw [t1,t2,t3]; rfl
    rw [e];clear e;go_enter Tryz.func154,Tryz.ntmps154;go_wp2;go_ret;exact ⟨rfl,zay _ _ _⟩
   ·have e:zbh R C B P R' C' B' P'=decide (B < B'):=by unfold zbh; rw [t1,t2,t3]; rfl
    rw [e];clear e;go_enter Tryz.func154,Tryz.ntmps154;go_wp2;go_ret;exact ⟨rfl,zay _ _ _⟩
  ·have e:zbh R C B P R' C' B' P'=decide (C < C'):=by unfold zbh; rw [t1,t2]; rfl
   rw [e];clear e;go_enter Tryz.func154,Tryz.ntmps154;go_wp2;go_ret;exact ⟨rfl,zay _ _ _⟩
 ·have e:zbh R C B P R' C' B' P'=decide (R < R'):=by unfold zbh; rw [t1]; rfl
  rw [e];clear e;go_enter Tryz.func154,Tryz.ntmps154;go_wp2;go_ret;exact ⟨rfl,zay _ _ _⟩

def zbX (R C H B P k:Int):Bool:=okVc R C H B P && ((decide (1≤k) && decide (k≤1000)) && okVc R (C+k) (H+1) B P)

theorem zbW (R C H B P k:Int) (w:World) :
  Calls Tryz.prog 153 #[.agg #[.int .i64 R,.int .i64 C,.int .i64 H,.int .i64 B,.int .i64 P],.int .i64 k] w fun e w'=>e=.returned (.tuple #[if zbX R C H B P k=true then .agg #[.int .i64 R,.int .i64 (C+k),.int .i64 (H+1),.int .i64 B,.int .i64 P] else .agg #[.int .i64 R,.int .i64 C,.int .i64 H,.int .i64 B,.int .i64 P],.bool (zbX R C H B P k)])∧Below w.heap.size w w':=by
 have q2:=zay w (.cells #[.int .i64 R,.int .i64 C,.int .i64 H,.int .i64 B,.int .i64 P] 51) (.cells #[.int .i64 0,.int .i64 0,.int .i64 0,.int .i64 0,.int .i64 0] 51);cases t1:okVc R C H B P
 ·have e:zbX R C H B P k=false:=by unfold zbX; rw [t1]; rfl
  rw [e,if_neg (by simp)];have T1:=hide t1;clear e t1;go_enter Tryz.func153,Tryz.ntmps153;(go_wp2_with fail);refine (zab R C H B P _).mono ?_;rintro e w1 ⟨rfl,hb1⟩;rw [T1.out];obtain ⟨k0,k1⟩:=zcv hb1;obtain ⟨⟨x0,x1,x2,x3,x4⟩,f0,f1,f2,f3,f4⟩:=zZ k0;obtain ⟨⟨y0,y1,y2,y3,y4⟩,g0,g1,g2,g3,g4⟩:=zZ k1;have HB:=hide (zc q2 hb1);clear hb1 k0 k1;go_wp2;exact bodyPost_ret (v:=.tuple #[.agg #[.int .i64 R,.int .i64 C,.int .i64 H,.int .i64 B,.int .i64 P],.bool false]) (by simp [results,Tryz.results153,go_sem, *]) rfl ⟨rfl,zau HB.out (by omega) _ _ _ _ _⟩
 cases t2:(decide (1≤k) && decide (k≤1000))
 ·have e:zbX R C H B P k=false:=by unfold zbX; rw [t1,t2]; rfl
  rw [e,if_neg (by simp)];have T1:=hide t1;have T2:=hide t2;clear e t1 t2;go_enter Tryz.func153,Tryz.ntmps153;(go_wp2_with fail);refine (zab R C H B P _).mono ?_;rintro e w1 ⟨rfl,hb1⟩;rw [T1.out];obtain ⟨k0,k1⟩:=zcv hb1;obtain ⟨⟨x0,x1,x2,x3,x4⟩,f0,f1,f2,f3,f4⟩:=zZ k0;obtain ⟨⟨y0,y1,y2,y3,y4⟩,g0,g1,g2,g3,g4⟩:=zZ k1;have HB:=hide (zc q2 hb1);clear hb1 k0 k1;(go_wp2_with fail);refine (zf k 1 1000 _).mono ?_;rintro e w2 ⟨rfl,rfl⟩;rw [T2.out];go_wp2;exact bodyPost_ret (v:=.tuple #[.agg #[.int .i64 R,.int .i64 C,.int .i64 H,.int .i64 B,.int .i64 P],.bool false]) (by simp [results,Tryz.results153,go_sem, *]) rfl ⟨rfl,zau HB.out (by omega) _ _ _ _ _⟩
 obtain ⟨-,o2,o3,-,-⟩:=zgG t1;have hk:1≤k∧k≤1000:=by simpa using t2
 have es:zbX R C H B P k=okVc R (C+k) (H+1) B P:=by unfold zbX; rw [t1,t2]; rfl
 rw [es];clear es;cases t3:okVc R (C+k) (H+1) B P
 ·rw [if_neg (by simp)];have T1:=hide t1;have T2:=hide t2;have T3:=hide t3;clear t1 t2 t3;go_enter Tryz.func153,Tryz.ntmps153;(go_wp2_with fail);refine (zab R C H B P _).mono ?_;rintro e w1 ⟨rfl,hb1⟩;rw [T1.out];obtain ⟨k0,k1⟩:=zcv hb1;obtain ⟨⟨x0,x1,x2,x3,x4⟩,f0,f1,f2,f3,f4⟩:=zZ k0;have HB:=hide (zc q2 hb1);have K0:=hide k0;have K1:=hide k1;clear hb1 k0 k1;(go_wp2_with fail);refine (zf k 1 1000 _).mono ?_;rintro e w2 ⟨rfl,rfl⟩;rw [T2.out];have lt0:=(Array.getElem?_eq_some_iff.1 K0.out).1;have ne1:¬w.heap.size=w2.heap.size:=by omega
  have ne2:¬w2.heap.size=w.heap.size:=by omega
  (go_wp2_with fail);refine (zab R (C+k) (H+1) B P _).mono ?_;rintro e w3 ⟨rfl,hb3⟩;rw [T3.out];clear x0 x1 x2 x3 x4 f0 f1 f2 f3 f4;have b3:=zc (zn w2 _) hb3;obtain ⟨⟨x0,x1,x2,x3,x4⟩,f0,f1,f2,f3,f4⟩:=zZ (za K0.out b3);obtain ⟨⟨y0,y1,y2,y3,y4⟩,g0,g1,g2,g3,g4⟩:=zZ (za K1.out b3);have HB3:=hide (zc HB.out b3);clear hb3 b3;go_wp2;exact bodyPost_ret (v:=.tuple #[.agg #[.int .i64 R,.int .i64 C,.int .i64 H,.int .i64 B,.int .i64 P],.bool false]) (by simp [results,Tryz.results153,go_sem, *]) rfl ⟨rfl,zau HB3.out (by omega) _ _ _ _ _⟩
 ·rw [if_pos rfl];have T1:=hide t1;have T2:=hide t2;have T3:=hide t3;clear t1 t2 t3;go_enter Tryz.func153,Tryz.ntmps153;(go_wp2_with fail);refine (zab R C H B P _).mono ?_;rintro e w1 ⟨rfl,hb1⟩;rw [T1.out];obtain ⟨k0,k1⟩:=zcv hb1;obtain ⟨⟨x0,x1,x2,x3,x4⟩,f0,f1,f2,f3,f4⟩:=zZ k0;have HB:=hide (zc q2 hb1);have K0:=hide k0;have K1:=hide k1;clear hb1 k0 k1;(go_wp2_with fail);refine (zf k 1 1000 _).mono ?_;rintro e w2 ⟨rfl,rfl⟩;rw [T2.out];have lt0:=(Array.getElem?_eq_some_iff.1 K0.out).1;have ne1:¬w.heap.size=w2.heap.size:=by omega
  have ne2:¬w2.heap.size=w.heap.size:=by omega
  (go_wp2_with fail);refine (zab R (C+k) (H+1) B P _).mono ?_;rintro e w3 ⟨rfl,hb3⟩;rw [T3.out];clear x0 x1 x2 x3 x4 f0 f1 f2 f3 f4;have b3:=zc (zn w2 _) hb3;obtain ⟨⟨x0,x1,x2,x3,x4⟩,f0,f1,f2,f3,f4⟩:=zZ (za (zT w2 _) hb3);obtain ⟨⟨y0,y1,y2,y3,y4⟩,g0,g1,g2,g3,g4⟩:=zZ (za K1.out b3);have HB3:=hide (zc HB.out b3);clear hb3 b3;go_wp2;exact bodyPost_ret (v:=.tuple #[.agg #[.int .i64 R,.int .i64 (C+k),.int .i64 (H+1),.int .i64 B,.int .i64 P],.bool true]) (by simp [results,Tryz.results153,go_sem, *]) rfl ⟨rfl,zau HB3.out (by omega) _ _ _ _ _⟩

structure PT where
 up:Bool
 k:Int
 has:Bool
 v:VD

def ptF:Flat PT where
 k:=8
 cs:=fun x=>[.bool x.up,.int .i64 x.k,.bool x.has,.int .i64 x.v.r,.int .i64 x.v.c,.int .i64 x.v.h,.int .i64 x.v.b,.int .i64 x.v.p]
 len:=fun _=>rfl
 pos:=by decide
 one:=fun _ v hv=>by
  simp only [List.mem_cons,List.not_mem_nil,or_false] at hv;rcases hv with rfl | rfl | rfl | rfl | rfl | rfl | rfl | rfl <;> rfl

theorem pt_at {w:World} {ao:Option Addr} {len cap:Nat} {l:List PT} (h:GRow ptF w ao len cap l) (i:Nat) (hi:i < len):∃(x:PT) (b off:Nat),l[i]? = some x∧ao=some ⟨b,off,none⟩ ∧
  w.cell? ⟨b,off+i*8,none⟩=some (.bool x.up)∧w.cell? ⟨b,off+i*8+1,none⟩=some (.int .i64 x.k)∧w.cell? ⟨b,off+i*8+2,none⟩=some (.bool x.has) ∧
  w.cell? ⟨b,off+i*8+3,none⟩=some (.int .i64 x.v.r)∧w.cell? ⟨b,off+i*8+4,none⟩=some (.int .i64 x.v.c)∧w.cell? ⟨b,off+i*8+5,none⟩=some (.int .i64 x.v.h)∧w.cell? ⟨b,off+i*8+6,none⟩=some (.int .i64 x.v.b)∧w.cell? ⟨b,off+i*8+7,none⟩=some (.int .i64 x.v.p):=by
 obtain ⟨x,b,off,hx,ha,hc⟩:=h.at i hi;exact ⟨x,b,off,hx,ha,hc 0 _ rfl,hc 1 _ rfl,hc 2 _ rfl,hc 3 _ rfl,hc 4 _ rfl,hc 5 _ rfl,hc 6 _ rfl,hc 7 _ rfl⟩

def zfc (v:VD):Bool:=v.r == 0 && (v.c == 0 && (v.h == 0 && (v.b == 0 && v.p == 0)))
def okVd (v:VD):Bool:=okVc v.r v.c v.h v.b v.p
def ptOk (x:PT):Bool:=(decide (1≤x.k) && decide (x.k≤1000)) && ((x.up || !x.has) && (if x.has then okVd x.v else zfc x.v))

def stepV (v:VD) (k:Int):VD:=⟨v.r,v.c+k,v.h+1,v.b,v.p⟩
def ze5 (v:VD) (k:Int):Bool:=zbX v.r v.c v.h v.b v.p k
def lessV (u v:VD):Bool:=zbh u.r u.c u.b u.p v.r v.c v.b v.p

def offers (id:Int) (x:PT):Bool:=x.up && (x.has && (ze5 x.v x.k && decide (x.v.r < id)))

def zbd (id:Int) (s:Option (VD × Nat)) (i:Nat) (x:PT):Option (VD × Nat) :=
 if offers id x=true then
  match s with
  | none=>some (stepV x.v x.k,i)
  | some (f,j)=>if lessV (stepV x.v x.k) f=true then some (stepV x.v x.k,i) else some (f,j)
 else s
def zbe (id:Int) (l:List PT):Nat→Option (VD × Nat)
 | 0=>none
 | k+1=>match l[k]? with
  | some x=>zbd id (zbe id l k) k x
  | none=>zbe id l k
def zae (id:Int) (l:List PT):Option (VD × Nat):=zbe id l l.length

def bestV (id:Int):Option (VD × Nat)→VD
 | none=>⟨id,0,0,id,0⟩
 | some (f,_)=>⟨f.r,f.c,f.h,id,0⟩
def bestP:Option (VD × Nat)→Int
 | none => -1
 | some (_,j)=>(j:Int)
def fromV:Option (VD × Nat)→VD
 | none=>⟨0,0,0,0,0⟩
 | some (f,_)=>f

theorem zfl {id:Int} {l:List PT} {k:Nat} {x:PT} (h:l[k]? = some x):zbe id l (k+1)=zbd id (zbe id l k) k x:=by
 rw [zbe,h]

theorem zbu {id:Int} {s:Option (VD × Nat)} {i:Nat} {x:PT} (h:offers id x=false):zbd id s i x=s:=by
 unfold zbd;rw [if_neg (by simp [h])]

def sayV (id:Int) (l:List PT) (port:Int):VD:=⟨(bestV id (zae id l)).r,(bestV id (zae id l)).c,(bestV id (zae id l)).h,id,port⟩

def zd7 (id:Int) (l:List PT) (i:Nat) (x:PT):Int :=
 if x.up=false then 4
 else if bestP (zae id l)=(i:Int) then 1
 else if (!x.has || lessV (sayV id l i) x.v)=true then 2
 else 3
def za1 (id:Int) (l:List PT) (port:Int):Int :=
 if (decide (0≤port) && decide (port≤(l.length:Int) - 1))=true then
  match l[port.toNat]? with
  | some x=>zd7 id l port.toNat x
  | none=>4
 else 4

def zbD (id:Int) (l:List PT):Nat→Int
 | 0=>0
 | k+1=>if za1 id l (k:Int)≤2 then bits .or .i64 (zbD id l k) (2 ^ k) else zbD id l k
def zdz (id:Int) (l:List PT):Int:=zbD id l (min l.length 6)

structure FE where
 t:Int
 m:Int
 p:Int
 a:Int
 s:Bool

def entOk (e:FE):Bool :=
 (decide (1≤e.t) && decide (e.t≤99)) && ((decide (1≤e.m) && decide (e.m≤9999)) && ((decide (0≤e.p) && decide (e.p≤7)) && ((decide (0≤e.a) && decide (e.a≤4)) && (!e.s || (e.a == 0)))))

theorem zeI (e:FE):entOk e=true↔(1≤e.t∧e.t≤99)∧(1≤e.m∧e.m≤9999)∧(0≤e.p∧e.p≤7)∧(0≤e.a∧e.a≤4)∧(e.s=true→e.a=0):=by
 unfold entOk;cases e.s <;> simp

def ahead (e:FE) (t m:Int):Bool:=if (e.t != t)=true then decide (e.t < t) else decide (e.m < m)

def both (e:FE) (t m:Int):Bool:=(e.t == t) && (e.m == m)

theorem zde {e:FE} {t m:Int}:ahead e t m=true↔e.t < t∨(e.t=t∧e.m < m):=by
 unfold ahead;by_cases h:e.t=t
 ·simp [h]
 ·simp [h]
theorem zi8 {e:FE} {t m:Int}:ahead e t m=false↔¬(e.t < t∨(e.t=t∧e.m < m)):=by
 rw [← zde]; simp

def rises:List FE→Bool
 | []=>true
 | [e]=>entOk e
 | e::f::r=>entOk e && (ahead e f.t f.m && rises (f::r))

def fdbOk (l:List FE):Bool:=rises l && decide ((l.length:Int)≤12)

def Sorted (l:List FE):Prop:=(∀e∈l,entOk e=true)∧l.Pairwise (fun e f=>ahead e f.t f.m=true)

theorem zff {e f g:FE} (h1:ahead e f.t f.m=true) (h2:ahead f g.t g.m=true):ahead e g.t g.m=true:=by
 rw [zde] at *;omega

theorem zcX:∀(l:List FE),rises l=true↔Sorted l
 | []=>by simp [rises,Sorted]
 | [e]=>by simp [rises,Sorted]
 | e::f::r=>by
  have ih:=zcX (f::r);unfold rises;simp only [Bool.and_eq_true,ih]
  constructor
  ·rintro ⟨h1,h2,h3,h4⟩;refine ⟨?_, ?_⟩
   ·intro x hx;rcases List.mem_cons.1 hx with rfl | hx
    ·exact h1
    ·exact h3 x hx
   ·refine List.pairwise_cons.2 ⟨?_,h4⟩;intro x hx;rcases List.mem_cons.1 hx with rfl | hx
    ·exact h2
    ·exact zff h2 ((List.pairwise_cons.1 h4).1 x hx)
  ·rintro ⟨h1,h2⟩;obtain ⟨h3,h4⟩:=List.pairwise_cons.1 h2;exact ⟨h1 e (by simp),h3 f (by simp),fun x hx=>h1 x (List.mem_cons_of_mem _ hx),h4⟩

theorem zco (l:List FE):fdbOk l=true↔Sorted l∧l.length≤12:=by
 unfold fdbOk;rw [Bool.and_eq_true,zcX,decide_eq_true_eq]
 constructor <;> rintro ⟨h1,h2⟩ <;> exact ⟨h1,by omega⟩

def ageE (e:FE):Option FE:=if e.s=true then some e else if e.a < 4 then some ⟨e.t,e.m,e.p,e.a+1,e.s⟩ else none
def ageF (l:List FE):List FE:=l.filterMap ageE

def zah (l:List FE) (p:Int):List FE:=l.filter (fun e=>e.s || (e.p != p))

theorem zdd {e f:FE} (h:ageE e=some f):f.t=e.t∧f.m=e.m∧f.p=e.p∧f.s=e.s∧((e.s=true∧f.a=e.a)∨(e.s=false∧e.a < 4∧f.a=e.a+1)):=by
 unfold ageE at h;cases hs:e.s
 ·rw [hs] at h;simp only [Bool.false_eq_true,if_false] at h
  split at h
  ·rename_i ha
   cases h;exact ⟨rfl,rfl,rfl,rfl,.inr ⟨rfl,ha,rfl⟩⟩
  ·cases h
 ·rw [hs] at h;simp only [if_true] at h;cases h;exact ⟨rfl,rfl,rfl,hs,.inl ⟨rfl,rfl⟩⟩

theorem zgo {l:List FE} (h:Sorted l):Sorted (ageF l):=by
 unfold ageF;refine ⟨?_, ?_⟩
 ·intro f hf;obtain ⟨e,he,hef⟩:=List.mem_filterMap.1 hf;have h1:=h.1 e he;obtain ⟨a1,a2,a3,a4,a5⟩:=zdd hef;rw [zeI] at *;rcases a5 with ⟨b1,b2⟩ | ⟨b1,b2,b3⟩
  ·rw [a1,a2,a3,a4,b2]; exact h1
  ·rw [a1,a2,a3,a4,b3,b1];refine ⟨h1.1,h1.2.1,h1.2.2.1,by omega,by simp⟩
 ·rw [List.pairwise_filterMap];refine h.2.imp ?_;intro a b hab x hx y hy;obtain ⟨a1,a2,-⟩:=zdd hx;obtain ⟨b1,b2,-⟩:=zdd hy;rw [zde] at *;rw [a1,a2,b1,b2];exact hab

theorem zi7 {l:List FE} (h:fdbOk l=true):fdbOk (ageF l)=true:=by
 rw [zco] at *;exact ⟨zgo h.1,Nat.le_trans (List.length_filterMap_le _ _) h.2⟩

theorem zgP {l k:List FE} (h:Sorted l) (hs:k.Sublist l):Sorted k:=⟨fun e he=>h.1 e (hs.subset he),h.2.sublist hs⟩

theorem zhX {l:List FE} (h:fdbOk l=true) (p:Int):fdbOk (zah l p)=true:=by
 rw [zco] at *;exact ⟨zgP h.1 List.filter_sublist,Nat.le_trans (List.length_filter_le _ _) h.2⟩

section
open Go.RowKit

def fentF:Flat FE where
 k:=5
 cs:=fun e=>[.int .i64 e.t,.int .i64 e.m,.int .i64 e.p,.int .i64 e.a,.bool e.s]
 len:=fun _=>rfl
 pos:=by decide
 one:=fun _ v hv=>by
  simp only [List.mem_cons,List.not_mem_nil,or_false] at hv;rcases hv with rfl | rfl | rfl | rfl | rfl <;> rfl

def FE.Rng (e:FE):Prop:=(-9223372036854775808≤e.t∧e.t≤9223372036854775807)∧(-9223372036854775808≤e.m∧e.m≤9223372036854775807)∧(-9223372036854775808≤e.p∧e.p≤9223372036854775807)∧(-9223372036854775808≤e.a∧e.a≤9223372036854775807)

theorem zek {w:World} {ao:Option Addr} {len cap:Nat} {l:List FE} (h:GRow fentF w ao len cap l) (i:Nat) (hi:i < len):∃(x:FE) (b off:Nat),l[i]? = some x∧ao=some ⟨b,off,none⟩ ∧
  w.cell? ⟨b,off+i*5,none⟩=some (.int .i64 x.t)∧w.cell? ⟨b,off+i*5+1,none⟩=some (.int .i64 x.m)∧w.cell? ⟨b,off+i*5+2,none⟩=some (.int .i64 x.p)∧w.cell? ⟨b,off+i*5+3,none⟩=some (.int .i64 x.a)∧w.cell? ⟨b,off+i*5+4,none⟩=some (.bool x.s):=by
 obtain ⟨x,b,off,hx,ha,hc⟩:=h.at i hi;exact ⟨x,b,off,hx,ha,hc 0 _ rfl,hc 1 _ rfl,hc 2 _ rfl,hc 3 _ rfl,hc 4 _ rfl⟩

section
open Go.ChangeShapes Go.WideShapes Go.ChangeAt
variable {H:Type} {enc:TypeId × Value→H} {P:Program} {w:World}

end

end

structure BR where
 id:Int
 name:ByteArray
 ports:List PT
 f:List FE
 v:VT
 ticks:Int
 parse:Int
 word:Int
 drops:Int
 vers:Int

def in1m (x:Int):Bool:=decide (0≤x) && decide (x≤1000000)
def zbg (a b c d e:Int):Bool:=in1m a && (in1m b && (in1m c && (in1m d && in1m e)))
def zx (b:BR):Bool :=
 b.ports.all ptOk && (in3 b.id 1 99 && (decide ((b.name.size:Int)≤10) && (in3 (b.ports.length:Int) 1 6 && (fdbOk b.f && (zaK b.v (b.ports.length:Int) && zbg b.ticks b.parse b.word b.drops b.vers)))))

structure BrRow (w:World) (a:Option Addr) (n c:Nat) (fa:Option Addr) (fn fc:Nat) (ra:Option Addr) (rn rc:Nat) (oa:Option Addr) (on oc:Nat) (b:BR):Prop where
 ports:GRow ptF w a n c b.ports
 f:GRow fentF w fa fn fc b.f
 v:VTab w ra rn rc oa on oc b.v

theorem BrRow.below {w w':World} {a:Option Addr} {n c:Nat} {fa:Option Addr} {fn fc:Nat} {ra:Option Addr} {rn rc:Nat} {oa:Option Addr} {on oc:Nat} {b:BR} (h:BrRow w a n c fa fn fc ra rn rc oa on oc b) (hb:Below w.heap.size w w'):BrRow w' a n c fa fn fc ra rn rc oa on oc b :=
 ⟨h.ports.below hb,h.f.below hb,h.v.below hb⟩

structure BV where
 a:Option Addr
 n:Nat
 c:Nat
 fa:Option Addr
 fn:Nat
 fc:Nat
 ra:Option Addr
 rn:Nat
 rc:Nat
 oa:Option Addr
 on:Nat
 oc:Nat
 B:BR

def BV.Reads (w:World) (x:BV):Prop:=BrRow w x.a x.n x.c x.fa x.fn x.fc x.ra x.rn x.rc x.oa x.on x.oc x.B

def brF:Flat BV where
 k:=11
 cs:=fun x=>[.int .i64 x.B.id,.string x.B.name,.slice x.a x.n x.c,.slice x.fa x.fn x.fc,.slice x.ra x.rn x.rc,.slice x.oa x.on x.oc,.int .i64 x.B.ticks,.int .i64 x.B.parse,.int .i64 x.B.word,.int .i64 x.B.drops,.int .i64 x.B.vers]
 len:=fun _=>rfl
 pos:=by decide
 one:=fun _ v hv=>by
  simp only [List.mem_cons,List.not_mem_nil,or_false] at hv;rcases hv with rfl | rfl | rfl | rfl | rfl | rfl | rfl | rfl | rfl | rfl | rfl <;> rfl

theorem br_at {w:World} {ao:Option Addr} {len cap:Nat} {l:List BV} (h:GRow brF w ao len cap l) (i:Nat) (hi:i < len):∃(x:BV) (b off:Nat),l[i]? = some x∧ao=some ⟨b,off,none⟩∧w.cell? ⟨b,off+i*11,none⟩=some (.int .i64 x.B.id)∧w.cell? ⟨b,off+i*11+1,none⟩=some (.string x.B.name)∧w.cell? ⟨b,off+i*11+2,none⟩=some (.slice x.a x.n x.c)∧w.cell? ⟨b,off+i*11+3,none⟩=some (.slice x.fa x.fn x.fc)∧w.cell? ⟨b,off+i*11+4,none⟩=some (.slice x.ra x.rn x.rc)∧w.cell? ⟨b,off+i*11+5,none⟩=some (.slice x.oa x.on x.oc)∧w.cell? ⟨b,off+i*11+6,none⟩=some (.int .i64 x.B.ticks)∧w.cell? ⟨b,off+i*11+7,none⟩=some (.int .i64 x.B.parse)∧w.cell? ⟨b,off+i*11+8,none⟩=some (.int .i64 x.B.word)∧w.cell? ⟨b,off+i*11+9,none⟩=some (.int .i64 x.B.drops)∧w.cell? ⟨b,off+i*11+10,none⟩=some (.int .i64 x.B.vers):=by
 obtain ⟨x,b,off,hx,ha,hc⟩:=h.at i hi;exact ⟨x,b,off,hx,ha,hc 0 _ rfl,hc 1 _ rfl,hc 2 _ rfl,hc 3 _ rfl,hc 4 _ rfl,hc 5 _ rfl,hc 6 _ rfl,hc 7 _ rfl,hc 8 _ rfl,hc 9 _ rfl,hc 10 _ rfl⟩

theorem zdV:(Tryz.prog.info? 44).map (fun i=>(i.zero,i.size,i.bytes))=some (some (.agg #[.int .i64 0,.string ⟨#[]⟩,.slice none 0 0,.slice none 0 0,.slice none 0 0,.slice none 0 0,.int .i64 0,.int .i64 0,.int .i64 0,.int .i64 0,.int .i64 0]),brF.k,160):=by kernel_rfl

abbrev BV.val (x:BV):Value:=.agg #[.int .i64 x.B.id,.string x.B.name,.slice x.a x.n x.c,.slice x.fa x.fn x.fc,.slice x.ra x.rn x.rc,.slice x.oa x.on x.oc,.int .i64 x.B.ticks,.int .i64 x.B.parse,.int .i64 x.B.word,.int .i64 x.B.drops,.int .i64 x.B.vers]

theorem BV.Reads.below {w w':World} {x:BV} (h:x.Reads w) (hb:Below w.heap.size w w'):x.Reads w':=BrRow.below h hb

end Go.Proofs.YtkaefmfopejbaaaGreat
