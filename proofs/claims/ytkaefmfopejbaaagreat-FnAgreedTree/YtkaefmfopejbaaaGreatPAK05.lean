/-
  Packed: MapIs MapEnt FdbKeys MadeSet PtRole PtSends BrList0 GTake BrLess SendBit TextRow MarkText.
-/
import Derived.Test.YtkaefmfopejbaaaGreatPAK04
import Derived.Maps.RangeWalk
import Derived.Laws.IdiomStrings
namespace Go.Proofs.YtkaefmfopejbaaaGreat
set_option maxRecDepth 100000
set_option maxHeartbeats 16000000
open Go.RowKit

section
open Go.RowKit Go.ChangeMaps Go.MapKept
open Go.WideElems (Fit rd rd_mk rd_key other_key)
open Go.Maps (Keyed)

def rdAny (_:Value):Option (DataW Unit × List MemPlace):=some (.nil,[])

structure MK (P:Program) (α β:Type) where
 T:TypeId
 K:TypeId
 E:TypeId
 law:Keyed P K
 und:P.underlying T=some (.map K E)
 kv:α→Value
 vv:β→Value
 ok:α→Prop
 key:∀a,ok a→∃l,keyOf P K (kv a)=some l
 inj:∀a b,kv a=kv b→a=b
 z:β
 zero:∀w,(zeroValue E).run P w=.ok (vv z) w

def upd {α γ:Type} [DecidableEq α] (g:α→γ) (a:α) (v:γ):α→γ:=fun x=>if x=a then v else g x

theorem zax {α γ:Type} [DecidableEq α] (g:α→γ) (a:α) (v:γ):upd g a v a=v:=if_pos rfl
theorem zai {α γ:Type} [DecidableEq α] (g:α→γ) {a b:α} (v:γ) (h:b≠a):upd g a v b=g b:=if_neg h

variable {P:Program} {α β:Type}

structure Ents (M:MK P α β) (es:Array MapEntry) (clock n:Nat) (g:α→Option β):Prop where
 fit:Fit P M.K rdAny es clock
 size:es.size≤n
 down:∀x∈es.toList,∃a v,M.ok a∧x.key=M.kv a∧x.val=M.vv v∧g a=some v
 up:∀a v,g a=some v→∃x∈es.toList,x.key=M.kv a∧x.val=M.vv v

def MapIs (M:MK P α β) (w:World) (b n:Nat) (g:α→Option β):Prop:=∃es clock,w.heap[b]? = some (.map es clock)∧Ents M es clock n g

theorem MapIs.made (M:MK P α β) (w:World):MapIs M (w.alloc (.map #[] 0)) w.heap.size 0 (fun _=>none) :=
 ⟨#[],0,zy w _,⟨⟨by simp,stamped_empty 0,by simp⟩,Nat.le_refl _,by simp,by simp⟩⟩

theorem MapIs.block {M:MK P α β} {w w':World} {b n:Nat} {g:α→Option β} (h:MapIs M w b n g) (hb:w'.heap[b]? = w.heap[b]?):MapIs M w' b n g:=by
 obtain ⟨es,clock,h1,h2⟩:=h;exact ⟨es,clock,hb.trans h1,h2⟩

theorem MapIs.lt {M:MK P α β} {w:World} {b n:Nat} {g:α→Option β} (h:MapIs M w b n g):b < w.heap.size:=by
 obtain ⟨es,clock,h1,-⟩:=h;exact (Array.getElem?_eq_some_iff.1 h1).1

theorem MapIs.below {M:MK P α β} {w w':World} {b n B:Nat} {g:α→Option β} (h:MapIs M w b n g) (hb:Below B w w') (hB:b < B):MapIs M w' b n g:=h.block (hb.block b hB)

theorem MapIs.kept {M:MK P α β} {w w':World} {b n:Nat} {g:α→Option β} (h:MapIs M w b n g) (hb:Below w.heap.size w w'):MapIs M w' b n g:=h.below hb h.lt

theorem MapIs.grown {M:MK P α β} {w w':World} {b n:Nat} {g:α→Option β} (h:MapIs M w b n g) {row:Option Nat} (hg:w.grownBy w' row) (hne:row≠some b):MapIs M w' b n g:=h.block (hg.block b h.lt (fun e=>hne e.symm))

theorem MapIs.mono {M:MK P α β} {w:World} {b n n':Nat} {g:α→Option β} (h:MapIs M w b n g) (hn:n≤n'):MapIs M w b n' g:=by
 obtain ⟨es,clock,h1,h2⟩:=h;exact ⟨es,clock,h1,h2.fit,Nat.le_trans h2.size hn,h2.down,h2.up⟩

theorem zgJ {M:MK P α β} {es:Array MapEntry} {clock n:Nat} {g:α→Option β} (h:Ents M es clock n g) {x:MapEntry} (hx:x∈es.toList) {a:α} (hk:x.key=M.kv a):∃v,x.val=M.vv v∧g a=some v:=by
 obtain ⟨a',v,_,h1,h2,h3⟩:=h.down x hx
 have:a'=a:=M.inj _ _ (h1.symm.trans hk)
 subst this;exact ⟨v,h2,h3⟩

theorem MapIs.look {M:MK P α β} {w:World} {b n:Nat} {g:α→Option β} (h:MapIs M w b n g) (c:Bool) {a:α} (ha:M.ok a) :
  (Instr.lookup M.T (.map (some b)) (M.kv a) c).run P w=.ok (if c=true then .tuple #[M.vv ((g a).getD M.z),.bool (g a).isSome] else M.vv ((g a).getD M.z)) w:=by
 obtain ⟨es,clock,hb,he⟩:=h;obtain ⟨kl,hkey⟩:=M.key a ha;rcases M.law.find w hkey es.toList he.fit.keys with ⟨h1,h2⟩ | ⟨j,e0,h1,h2,h3⟩
 ·have hg:g a=none:=by
   cases hga:g a with
   | none=>rfl
   | some v =>
    obtain ⟨x,hx,hk,_⟩:=he.up a v hga;exact absurd hk (h2 x hx)
  rw [hg]
  simp [Instr.lookup,run_underlying M.und,MapKept.run_getObj_map hb,M.law.check w _ hkey,h1,M.zero,Result.andThen]
 ·obtain ⟨v,hv,hg⟩:=zgJ he (List.mem_of_getElem? h2) h3;rw [hg]
  simp [Instr.lookup,run_underlying M.und,MapKept.run_getObj_map hb,M.law.check w _ hkey,h1,hv,Result.andThen]

theorem zjV [DecidableEq α] {M:MK P α β} {w:World} {b n:Nat} {es:Array MapEntry} {clock:Nat} {g:α→Option β} (hb:w.heap[b]? = some (.map es clock)) (he:Ents M es clock n g) (hn:n < maxLen) {a:α} (ha:M.ok a) (v:β) :
  ∃es' clock',(Instr.mapUpdate M.T (.map (some b)) (M.kv a) (M.vv v)).run P w=.ok () (setBlock w b (.map es' clock'))∧Ents M es' clock' (n+1) (upd g a (some v)) ∧
   ((g a).isSome=true→clock'=clock∧es'.size=es.size∧(∀x'∈es'.toList,∃x∈es.toList,x.key=x'.key∧x.born=x'.born)∧es'.toList.map (·.born)=es.toList.map (·.born)):=by
 obtain ⟨kl,hkey⟩:=M.key a ha;rcases M.law.find w hkey es.toList he.fit.keys with ⟨h1,h2⟩ | ⟨j,e0,h1,h2,h3⟩
 ·have hg:g a=none:=by
   cases hga:g a with
   | none=>rfl
   | some u =>
    obtain ⟨x,hx,hk,_⟩:=he.up a u hga;exact absurd hk (h2 x hx)
  have hsz:=he.size;refine ⟨es.push ⟨M.kv a,M.vv v,clock⟩,clock+1, ?_,⟨⟨by simp; omega,stamped_push he.fit.stamped h2, ?_⟩,by simp; omega, ?_, ?_⟩, ?_⟩
  ·simp [Instr.mapUpdate,run_underlying M.und,MapKept.run_getObj_map hb,M.law.check w false hkey,h1,MapKept.run_setObj_map _ hb,Result.andThen,setBlock]
  ·intro x hx;simp only [Array.toList_push,List.mem_append,List.mem_singleton] at hx;rcases hx with hx | rfl
   ·exact he.fit.reads x hx
   ·exact ⟨_,rd_mk (R:=rdAny) hkey rfl⟩
  ·intro x hx;simp only [Array.toList_push,List.mem_append,List.mem_singleton] at hx;rcases hx with hx | rfl
   ·obtain ⟨a',v',h4,h5,h6,h7⟩:=he.down x hx;refine ⟨a',v',h4,h5,h6, ?_⟩;rw [zai g _ (fun e=>h2 x hx (by rw [h5,e]))];exact h7
   ·exact ⟨a,v,ha,rfl,rfl,zax g a _⟩
  ·intro a' v' h4;by_cases e:a'=a
   ·subst e;rw [zax] at h4;cases h4;exact ⟨⟨M.kv a',M.vv v,clock⟩,by simp,rfl,rfl⟩
   ·rw [zai g _ e] at h4;obtain ⟨x,hx,h5,h6⟩:=he.up a' v' h4;exact ⟨x,by simp only [Array.toList_push,List.mem_append]; exact .inl hx,h5,h6⟩
  ·rw [hg]; intro h; cases h
 ·have hj:es[j]? = some e0:=by simpa using h2
  have hjl:j < es.toList.length:=(List.getElem?_eq_some_iff.1 h2).1;have hm0:=List.mem_of_getElem? h2;have hlist:(es.modify j (fun e'=>{ e' with key:=M.kv a,val:=M.vv v })).toList=es.toList.set j { e0 with key:=M.kv a,val:=M.vv v }:=by rw [Array.toList_modify,modify_eq_set _ _ _ _ h2]
  have who:∀x∈es.toList.set j { e0 with key:=M.kv a,val:=M.vv v },x={ e0 with key:=M.kv a,val:=M.vv v }∨(x∈es.toList∧x.key≠M.kv a):=by
   intro x hx;obtain ⟨i,hi,ex⟩:=List.getElem_of_mem hx;rw [List.getElem_set] at ex
   split at ex
   ·exact Or.inl ex.symm
   ·rename_i hne
    have hi':i < es.toList.length:=by simpa using hi
    refine Or.inr ⟨ex▸List.getElem_mem hi', ?_⟩;rw [← h3];exact other_key he.fit h2 (by rw [List.getElem?_eq_getElem hi',ex]) (fun e1=>hne e1.symm)
  have hkeyf:∀e',es[j]? = some e'→({ e' with key:=M.kv a,val:=M.vv v }:MapEntry).key=e'.key:=fun e' he'=>by rw [hj] at he'; cases he'; exact h3.symm
  have hsz:=he.size;refine ⟨es.modify j (fun e'=>{ e' with key:=M.kv a,val:=M.vv v }),clock, ?_,⟨⟨by simpa using he.fit.size,stamped_modify he.fit.stamped _ _ (fun _ _=>rfl) (fun e' _ he'=>hkeyf e' he'), ?_⟩,by simp; omega, ?_, ?_⟩, ?_⟩
  ·simp [Instr.mapUpdate,run_underlying M.und,MapKept.run_getObj_map hb,M.law.check w false hkey,h1,hj,h3,M.law.stays w hkey,MapKept.run_setObj_map _ hb,Result.andThen,setBlock]
  ·intro x hx;rw [hlist] at hx;rcases who x hx with rfl | ⟨hx',_⟩
   ·exact ⟨_,rd_mk (R:=rdAny) hkey rfl⟩
   ·exact he.fit.reads x hx'
  ·intro x hx;rw [hlist] at hx;rcases who x hx with rfl | ⟨hx',hne⟩
   ·exact ⟨a,v,ha,rfl,rfl,zax g a _⟩
   ·obtain ⟨a',v',h4,h5,h6,h7⟩:=he.down x hx';refine ⟨a',v',h4,h5,h6, ?_⟩;rw [zai g _ (fun e=>hne (by rw [h5,e]))];exact h7
  ·intro a' v' h4;rw [hlist];by_cases e:a'=a
   ·subst e;rw [zax] at h4;cases h4;exact ⟨{ e0 with key:=M.kv a',val:=M.vv v },List.mem_iff_getElem.2 ⟨j,by simpa using hjl,by simp⟩,rfl,rfl⟩
   ·rw [zai g _ e] at h4;obtain ⟨x,hx,h5,h6⟩:=he.up a' v' h4;obtain ⟨i,hi,ex⟩:=List.getElem_of_mem hx;have hij:j≠i:=by
     intro e1;subst e1;rw [List.getElem?_eq_getElem hi] at h2;cases h2;rw [ex] at h3;exact e (M.inj _ _ (h5.symm.trans h3))
    exact ⟨x,List.mem_iff_getElem.2 ⟨i,by simpa using hi,by rw [List.getElem_set_ne hij]; exact ex⟩,h5,h6⟩
  ·intro _;refine ⟨rfl,by simp, ?_, ?_⟩
   ·intro x' hx';rw [hlist] at hx';rcases who x' hx' with rfl | ⟨hx,_⟩
    ·exact ⟨e0,hm0,h3,rfl⟩
    ·exact ⟨x',hx,rfl,rfl⟩
   ·rw [hlist,List.map_set]
    have:(es.toList.map (·.born))[j]'(by simpa using hjl)=e0.born:=by
     obtain ⟨hl,e1⟩:=List.getElem?_eq_some_iff.1 h2
     simp [← e1]
    rw [← this];exact List.set_getElem_self _

theorem MapIs.store [DecidableEq α] {M:MK P α β} {w:World} {b n:Nat} {g:α→Option β} (h:MapIs M w b n g) (hn:n < maxLen) {a:α} (ha:M.ok a) (v:β) :
  ∃w',(Instr.mapUpdate M.T (.map (some b)) (M.kv a) (M.vv v)).run P w=.ok () w'∧MapIs M w' b (n+1) (upd g a (some v))∧w.grownBy w' (some b)∧w'.heap.size=w.heap.size:=by
 obtain ⟨es,clock,hb,he⟩:=h;obtain ⟨es',clock',hrun,he',-⟩:=zjV hb he hn ha v;exact ⟨_,hrun,⟨es',clock',heap_setBlock_same hb _,he'⟩,⟨rfl,rfl,rfl,by simp [setBlock],fun i _ hi=>heap_setBlock_other hb _ (fun e=>hi (by rw [e]))⟩,by simp [setBlock]⟩

theorem zkH [DecidableEq α] {M:MK P α β} {w:World} {b n:Nat} {es:Array MapEntry} {clock:Nat} {g:α→Option β} (hb:w.heap[b]? = some (.map es clock)) (he:Ents M es clock n g) {a:α} (ha:M.ok a) (ty:TypeId) :
  ∃es',(Builtin.delete_ #[M.T,M.K] ty #[.map (some b),M.kv a]).run P w=.ok (.tuple #[]) (setBlock w b (.map es' clock))∧Ents M es' clock n (upd g a none)∧es'.toList.Sublist es.toList∧∀x,x∈es'.toList↔(x∈es.toList∧x.key≠M.kv a):=by
 obtain ⟨kl,hkey⟩:=M.key a ha;obtain ⟨es',hrun,hfit,hsz,-,hsub,hwho⟩:=fit_drop_who (ty:=ty) M.law M.und hb he.fit hkey;refine ⟨es',hrun,⟨hfit,Nat.le_trans hsz he.size, ?_, ?_⟩,hsub,hwho⟩
 ·intro x hx;obtain ⟨hx1,hx2⟩:=(hwho x).1 hx;obtain ⟨a',v',h4,h5,h6,h7⟩:=he.down x hx1;refine ⟨a',v',h4,h5,h6, ?_⟩;rw [zai g _ (fun e=>hx2 (by rw [h5,e]))];exact h7
 ·intro a' v' h4;by_cases e:a'=a
  ·subst e;rw [zax] at h4;cases h4
  ·rw [zai g _ e] at h4;obtain ⟨x,hx,h5,h6⟩:=he.up a' v' h4;exact ⟨x,(hwho x).2 ⟨hx,fun e1=>e (M.inj _ _ (h5.symm.trans e1))⟩,h5,h6⟩

def Ranging (M:MK P α β) (w:World) (b r n:Nat) (g:α→Option β) (left:α→Bool) (cnt:Nat):Prop :=
 ∃es clock since seen c0,w.heap[b]? = some (.map es clock)∧Ents M es clock n g∧w.heap[r]? = some (.mapIter (some b) since seen c0)∧(∀x∈es.toList,x.born < since)∧(leftOf es seen).size=cnt ∧
  (∀x∈es.toList,∀a,x.key=M.kv a→left a = !seen.contains x.born)∧(∀a,left a=true→(g a).isSome=true)∧since≤c0∧since≤clock

theorem Ranging.is {M:MK P α β} {w:World} {b r n:Nat} {g:α→Option β} {left:α→Bool} {cnt:Nat} (h:Ranging M w b r n g left cnt):MapIs M w b n g:=by
 obtain ⟨es,clock,since,seen,c0,hb,he,-⟩:=h;exact ⟨es,clock,hb,he⟩

theorem Ranging.ne {M:MK P α β} {w:World} {b r n:Nat} {g:α→Option β} {left:α→Bool} {cnt:Nat} (h:Ranging M w b r n g left cnt):r≠b:=by
 obtain ⟨es,clock,since,seen,c0,hb,he,hr,-⟩:=h;intro e;rw [e,hb] at hr;cases hr

theorem Ranging.lt {M:MK P α β} {w:World} {b r n:Nat} {g:α→Option β} {left:α→Bool} {cnt:Nat} (h:Ranging M w b r n g left cnt):r < w.heap.size:=by
 obtain ⟨es,clock,since,seen,c0,hb,he,hr,-⟩:=h;exact (Array.getElem?_eq_some_iff.1 hr).1

theorem Ranging.kept {M:MK P α β} {w w':World} {b r n:Nat} {g:α→Option β} {left:α→Bool} {cnt:Nat} (h:Ranging M w b r n g left cnt) (hb1:w'.heap[b]? = w.heap[b]?) (hr1:w'.heap[r]? = w.heap[r]?):Ranging M w' b r n g left cnt:=by
 obtain ⟨es,clock,since,seen,c0,hb,he,hr,rest⟩:=h;exact ⟨es,clock,since,seen,c0,hb1.trans hb,he,hr1.trans hr,rest⟩

theorem Ranging.below {M:MK P α β} {w w':World} {b r n:Nat} {g:α→Option β} {left:α→Bool} {cnt:Nat} (h:Ranging M w b r n g left cnt) (hb:Below w.heap.size w w'):Ranging M w' b r n g left cnt :=
 h.kept (hb.block b h.is.lt) (hb.block r h.lt)

theorem Ranging.left_eq {M:MK P α β} {w:World} {b r n:Nat} {g:α→Option β} {left:α→Bool} {cnt:Nat} (h:Ranging M w b r n g left cnt):w.rangeLeft b r=cnt:=by
 obtain ⟨es,clock,since,seen,c0,hb,he,hr,h1,h2,-⟩:=h;simp only [World.rangeLeft,hb,hr];exact h2

theorem MapIs.range {M:MK P α β} {w:World} {b n:Nat} {g:α→Option β} (h:MapIs M w b n g) :
  ∃w' cnt,(Instr.range M.T (.map (some b))).run P w=.ok (.pointer (some ⟨w.heap.size,0,none⟩)) w'∧Ranging M w' b w.heap.size n g (fun a=>(g a).isSome) cnt∧Below w.heap.size w w'∧w'.heap.size=w.heap.size+1:=by
 have hlt:=h.lt;obtain ⟨es,clock,hb,he⟩:=h;refine ⟨_,_,run_range_map w M.T M.K M.E b es clock M.und hb,⟨es,clock,clock,#[],clock,((MapKept.heap_alloc w _).2 b hlt).trans hb,he,(MapKept.heap_alloc w _).1,he.fit.stamped.1,rfl, ?_, ?_,Nat.le_refl _,Nat.le_refl _⟩,zl w _,by simp⟩
 ·intro x hx a hk;obtain ⟨v,_,hg⟩:=zgJ he hx hk
  simp [hg]
 ·intro a ha;exact ha

theorem Ranging.next [DecidableEq α] {M:MK P α β} {w:World} {b r n:Nat} {g:α→Option β} {left:α→Bool} {cnt:Nat} (h:Ranging M w b r n g left cnt) (ty:TypeId) :
  (cnt=0∧(∀a,left a=false)∧(Instr.next (.pointer (some ⟨r,0,none⟩)) false ty).run P w=.ok (.tuple #[.bool false]) w) ∨
  ∃a v w' cnt',M.ok a∧left a=true∧g a=some v∧(Instr.next (.pointer (some ⟨r,0,none⟩)) false ty).run P w=.ok (.tuple #[.bool true,M.kv a,M.vv v]) w' ∧
   Ranging M w' b r n g (upd left a false) cnt'∧cnt' < cnt∧w.grownBy w' (some r)∧w'.heap.size=w.heap.size∧(Instr.entry (.pointer (some ⟨r,0,none⟩))).run P w'=.ok (.tuple #[M.kv a,M.vv v]) w':=by
 have hne:=h.ne;obtain ⟨es,clock,since,seen,c0,hb,he,hr,hold,rfl,hl1,hl2,hsc,hsk⟩:=h;have hst:=(stamped_iff es clock).1 he.fit.stamped;rcases run_next_at (P:=P) w ty r b since c0 seen es clock hr hb hold hsc with ⟨h0,hrun⟩ | ⟨e,hem',w1,hal,hrun⟩
 ·refine Or.inl ⟨h0,fun a => ?_,hrun⟩;cases hk:left a
  ·rfl
  ·obtain ⟨v,hv⟩:=Option.isSome_iff_exists.1 (hl2 a hk);obtain ⟨x,hx,hxk,_⟩:=he.up a v hv;rw [hl1 x hx a hxk,all_seen es seen h0 x hx] at hk;cases hk
 ·obtain ⟨hem,hes⟩:=mem_left hem';obtain ⟨a,v,hok,hka,hva,hga⟩:=he.down e hem;have hr1:w1.heap[r]? = some (.mapIter (some b) since seen c0):=by rcases hal with rfl | rfl <;> exact hr
  have hb1:w1.heap[b]? = some (.map es clock):=by rcases hal with rfl | rfl <;> exact hb
  have hset:=heap_set (o':=.mapIter (some b) since (seen.push e.born) clock) hr1;have hb':(setBlock w1 r (.mapIter (some b) since (seen.push e.born) clock)).heap[b]? = some (.map es clock):=(hset.2 b (fun e1=>hne e1.symm)).trans hb1;rw [hka,hva] at hrun;refine Or.inr ⟨a,v,_,_,hok,by rw [hl1 e hem a hka,hes]; rfl,hga,hrun,
   ⟨es,clock,since,seen.push e.born,clock,hb',he,hset.1,hold,rfl,fun x hx a' hxa => ?_,fun a' ha' => ?_,hsk,hsk⟩,left_shrinks es seen e hem', ?_, ?_, ?_⟩
  ·rw [contains_push];by_cases e1:a'=a
   ·subst e1;rw [zax]
    have:x=e:=entry_eq_of_key hst.2.2 hx hem (hxa.trans hka.symm)
    subst this
    simp
   ·rw [zai left _ e1,hl1 x hx a' hxa]
    have:(x.born == e.born)=false:=by
     rw [beq_eq_false_iff_ne];intro e2
     have:=born_inj hst.2.1 hx hem e2
     subst this;exact e1 (M.inj _ _ (hxa.symm.trans hka))
    rw [this,Bool.or_false]
  ·refine hl2 a' ?_;by_cases e1:a'=a
   ·subst e1;rw [zax] at ha';cases ha'
   ·rw [zai left _ e1] at ha';exact ha'
  ·rcases hal with rfl | rfl <;> exact ⟨rfl,rfl,rfl,by simp [setBlock],fun i _ hi=>hset.2 i (fun e1=>hi (by rw [e1]))⟩
  ·rcases hal with rfl | rfl <;> simp [setBlock]
  ·have:=run_entry_at (P:=P) _ r b since seen es clock e hset.1 hb' hem hst.2.1
   rw [hka,hva] at this;exact this

theorem zfy (es:Array MapEntry) (seen:Array Nat):(leftOf es seen).size=((es.toList.map (·.born)).filter fun k => !seen.contains k).length:=by
 unfold leftOf;rw [← Array.length_toList,Array.toList_filter,List.filter_map,List.length_map]
 rfl

theorem Ranging.drop [DecidableEq α] {M:MK P α β} {w:World} {b r n:Nat} {g:α→Option β} {left:α→Bool} {cnt:Nat} (h:Ranging M w b r n g left cnt) {a:α} (ha:M.ok a) (hs:left a=false) (ty:TypeId) :
  ∃w' cnt',(Builtin.delete_ #[M.T,M.K] ty #[.map (some b),M.kv a]).run P w=.ok (.tuple #[]) w'∧Ranging M w' b r n (upd g a none) left cnt'∧cnt'≤cnt∧w.grownBy w' (some b)∧w'.heap.size=w.heap.size:=by
 have hne:=h.ne;obtain ⟨es,clock,since,seen,c0,hb,he,hr,hold,rfl,hl1,hl2,hsc,hsk⟩:=h;obtain ⟨es',hrun,he',hsub,hwho⟩:=zkH hb he ha ty;refine ⟨_,_,hrun,⟨es',clock,since,seen,c0,heap_setBlock_same hb _,he',(heap_setBlock_other hb _ hne).trans hr, ?_,rfl, ?_, ?_,hsc,hsk⟩, ?_,⟨rfl,rfl,rfl,by simp [setBlock],fun i _ hi=>heap_setBlock_other hb _ (fun e=>hi (by rw [e]))⟩,by simp [setBlock]⟩
 ·intro x hx;exact hold x ((hwho x).1 hx).1
 ·intro x hx a' hk;exact hl1 x ((hwho x).1 hx).1 a' hk
 ·intro a' ha';by_cases e:a'=a
  ·subst e; rw [hs] at ha'; cases ha'
  ·rw [zai g _ e]; exact hl2 a' ha'
 ·rw [zfy,zfy];exact ((hsub.map _).filter _).length_le

end

section
open Go.RowKit Go.ChangeMaps Go.MapKept
open Go.WideElems (Fit rd rd_mk rd_key other_key)
open Go.Maps (Keyed)

variable {P:Program} {α β:Type}

theorem zhg [DecidableEq α] {γ:Type} {g:α→γ} {a:α} {v:γ} (h:g a=v):upd g a v=g:=by
 funext x
 by_cases e:x=a
 ·subst e; rw [zax,h]
 ·rw [zai g _ e]

theorem zlx [DecidableEq α] {γ:Type} (g:α→γ) (a:α) (u v:γ):upd (upd g a u) a v=upd g a v:=by
 funext x
 by_cases e:x=a
 ·subst e; rw [zax,zax]
 ·rw [zai _ _ e,zai _ _ e,zai _ _ e]

theorem zkJ [DecidableEq α] {M:MK P α β} {n:Nat} {es:Array MapEntry} {clock:Nat} {g:α→Option β} (he:Ents M es clock n g) (hn:n < maxLen) {a:α} (ha:M.ok a) (v:β) (h2:∀x∈es.toList,x.key≠M.kv a) :
  Ents M (es.push ⟨M.kv a,M.vv v,clock⟩) (clock+1) (n+1) (upd g a (some v)):=by
 obtain ⟨kl,hkey⟩:=M.key a ha;have hsz:=he.size;refine ⟨⟨by simp; omega,stamped_push he.fit.stamped h2, ?_⟩,by simp; omega, ?_, ?_⟩
 ·intro x hx;simp only [Array.toList_push,List.mem_append,List.mem_singleton] at hx;rcases hx with hx | rfl
  ·exact he.fit.reads x hx
  ·exact ⟨_,rd_mk (R:=rdAny) hkey rfl⟩
 ·intro x hx;simp only [Array.toList_push,List.mem_append,List.mem_singleton] at hx;rcases hx with hx | rfl
  ·obtain ⟨a',v',h4,h5,h6,h7⟩:=he.down x hx;refine ⟨a',v',h4,h5,h6, ?_⟩;rw [zai g _ (fun e=>h2 x hx (by rw [h5,e]))];exact h7
  ·exact ⟨a,v,ha,rfl,rfl,zax g a _⟩
 ·intro a' v' h4;by_cases e:a'=a
  ·subst e;rw [zax] at h4;cases h4;exact ⟨⟨M.kv a',M.vv v,clock⟩,by simp,rfl,rfl⟩
  ·rw [zai g _ e] at h4;obtain ⟨x,hx,h5,h6⟩:=he.up a' v' h4;exact ⟨x,by simp only [Array.toList_push,List.mem_append]; exact .inl hx,h5,h6⟩

theorem zlS [DecidableEq α] {M:MK P α β} {n:Nat} {es:Array MapEntry} {clock:Nat} {g:α→Option β} (he:Ents M es clock n g) {j:Nat} {e0:MapEntry} (h2:es.toList[j]? = some e0) {a:α} (ha:M.ok a) (h3:e0.key=M.kv a) (v:β) :
  Ents M (es.modify j (fun e'=>{ e' with val:=M.vv v })) clock n (upd g a (some v)):=by
 obtain ⟨kl,hkey⟩:=M.key a ha;have hjl:j < es.toList.length:=(List.getElem?_eq_some_iff.1 h2).1;have hlist:(es.modify j (fun e'=>{ e' with val:=M.vv v })).toList=es.toList.set j { e0 with val:=M.vv v }:=by rw [Array.toList_modify,modify_eq_set _ _ _ _ h2]
 have who:∀x∈es.toList.set j { e0 with val:=M.vv v },x={ e0 with val:=M.vv v }∨(x∈es.toList∧x.key≠M.kv a):=by
  intro x hx;obtain ⟨i,hi,ex⟩:=List.getElem_of_mem hx;rw [List.getElem_set] at ex
  split at ex
  ·exact Or.inl ex.symm
  ·rename_i hne
   have hi':i < es.toList.length:=by simpa using hi
   refine Or.inr ⟨ex▸List.getElem_mem hi', ?_⟩;rw [← h3];exact other_key he.fit h2 (by rw [List.getElem?_eq_getElem hi',ex]) (fun e1=>hne e1.symm)
 refine ⟨⟨by simpa using he.fit.size,stamped_modify he.fit.stamped _ _ (fun _ _=>rfl) (fun _ _ _=>rfl), ?_⟩,by simpa using he.size, ?_, ?_⟩
 ·intro x hx;rw [hlist] at hx;rcases who x hx with rfl | ⟨hx',_⟩
  ·exact ⟨_,rd_mk (R:=rdAny) (key:=e0.key) (by rw [h3]; exact hkey) rfl⟩
  ·exact he.fit.reads x hx'
 ·intro x hx;rw [hlist] at hx;rcases who x hx with rfl | ⟨hx',hne⟩
  ·exact ⟨a,v,ha,h3,rfl,zax g a _⟩
  ·obtain ⟨a',v',h4,h5,h6,h7⟩:=he.down x hx';refine ⟨a',v',h4,h5,h6, ?_⟩;rw [zai g _ (fun e=>hne (by rw [h5,e]))];exact h7
 ·intro a' v' h4;rw [hlist];by_cases e:a'=a
  ·subst e;rw [zax] at h4;cases h4;exact ⟨{ e0 with val:=M.vv v },List.mem_iff_getElem.2 ⟨j,by simpa using hjl,by simp⟩,h3,rfl⟩
  ·rw [zai g _ e] at h4;obtain ⟨x,hx,h5,h6⟩:=he.up a' v' h4;obtain ⟨i,hi,ex⟩:=List.getElem_of_mem hx;have hij:j≠i:=by
    intro e1;subst e1;rw [List.getElem?_eq_getElem hi] at h2;cases h2;rw [ex] at h3;exact e (M.inj _ _ (h5.symm.trans h3))
   exact ⟨x,List.mem_iff_getElem.2 ⟨i,by simpa using hi,by rw [List.getElem_set_ne hij]; exact ex⟩,h5,h6⟩

theorem zfh [DecidableEq α] {M:MK P α β} {w:World} {b n:Nat} {es:Array MapEntry} {clock:Nat} {g:α→Option β} (hb:w.heap[b]? = some (.map es clock)) (he:Ents M es clock n g) {x:MapEntry} (hx:x∈es.toList) {a:α} (ha:M.ok a) (hk:x.key=M.kv a) (v:β) :
  ∃w2,(Instr.entryStore M.T (.map (some b)) (.int .i64 x.born) (M.vv v)).run P w=.ok () w2∧MapIs M w2 b n (upd g a (some v))∧w.grownBy w2 (some b)∧w2.heap.size=w.heap.size:=by
 have hst:=(stamped_iff es clock).1 he.fit.stamped;cases hf:es.findIdx? (fun e=>(e.born:Int) == (x.born:Int)) with
 | none =>
  rw [Array.findIdx?_eq_none_iff] at hf
  have:=hf x (by simpa using hx)
  simp at this
 | some j =>
  obtain ⟨hj,hp,-⟩:=Array.findIdx?_eq_some_iff_getElem.1 hf;have hj2:es.toList[j]? = some es[j]:=by simp [hj]
  have hbn:es[j].born=x.born:=by
   have h9:(es[j].born:Int)=(x.born:Int):=by simpa using hp
   omega
  have hex:es[j]=x:=born_inj hst.2.1 (List.mem_of_getElem? hj2) hx hbn;have hk2:es[j].key=M.kv a:=by rw [hex]; exact hk
  refine ⟨setBlock w b (.map (es.modify j (fun e'=>{ e' with val:=M.vv v })) clock), ?_,⟨_,_,heap_setBlock_same hb _,zlS he hj2 ha hk2 v⟩,⟨rfl,rfl,rfl,by simp [setBlock],fun i _ hi=>heap_setBlock_other hb _ (fun e=>hi (by rw [e]))⟩,by simp [setBlock]⟩
  simp [Instr.entryStore,MapKept.run_getObj_map hb,asInt,asIntOf,hf,MapKept.run_setObj_map _ hb,Result.andThen,setBlock]

theorem ziJ {es:Array MapEntry} {j:Nat} {e0:MapEntry} {key:Value} (h2:es.toList[j]? = some e0) (h3:e0.key=key):es.modify j (fun e'=>{ e' with key:=key })=es:=by
 apply Array.toList_inj.1
 rw [Array.toList_modify,modify_eq_set _ _ _ _ h2];have hjl:j < es.toList.length:=(List.getElem?_eq_some_iff.1 h2).1
 have:({ e0 with key:=key }:MapEntry)=es.toList[j]:=by
  rw [List.getElem?_eq_getElem hjl] at h2;cases h2;subst h3
  rfl
 rw [this];exact List.set_getElem_self _

theorem MapIs.entry [DecidableEq α] {M:MK P α β} {w:World} {b n:Nat} {g:α→Option β} (h:MapIs M w b n g) (hn:n < maxLen) {a:α} (ha:M.ok a) :
  ∃w1 st,(Instr.mapEntry M.T (.map (some b)) (M.kv a)).run P w=.ok (.tuple #[M.vv ((g a).getD M.z),.int .i64 st]) w1∧MapIs M w1 b (n+1) (upd g a (some ((g a).getD M.z)))∧w.grownBy w1 (some b)∧w1.heap.size=w.heap.size ∧
   ∀v,∃w2,(Instr.entryStore M.T (.map (some b)) (.int .i64 st) (M.vv v)).run P w1=.ok () w2∧MapIs M w2 b (n+1) (upd g a (some v))∧w1.grownBy w2 (some b)∧w2.heap.size=w1.heap.size:=by
 obtain ⟨es,clock,hb,he⟩:=h;obtain ⟨kl,hkey⟩:=M.key a ha;rcases M.law.find w hkey es.toList he.fit.keys with ⟨h1,h2⟩ | ⟨j,e0,h1,h2,h3⟩
 ·have hg:g a=none:=by
   cases hga:g a with
   | none=>rfl
   | some u =>
    obtain ⟨x,hx,hk,_⟩:=he.up a u hga;exact absurd hk (h2 x hx)
  have he1:=zkJ he hn ha M.z h2;rw [hg];refine ⟨setBlock w b (.map (es.push ⟨M.kv a,M.vv M.z,clock⟩) (clock+1)),clock, ?_,⟨_,_,heap_setBlock_same hb _,he1⟩,⟨rfl,rfl,rfl,by simp [setBlock],fun i _ hi=>heap_setBlock_other hb _ (fun e=>hi (by rw [e]))⟩,by simp [setBlock], ?_⟩
  ·simp [Instr.mapEntry,run_underlying M.und,MapKept.run_getObj_map hb,M.law.check w false hkey,h1,M.zero,MapKept.run_setObj_map _ hb,Result.andThen,setBlock,goInt]
  ·intro v;obtain ⟨w2,r1,r2,r3,r4⟩:=zfh (heap_setBlock_same hb _) he1 (x:=⟨M.kv a,M.vv M.z,clock⟩) (by simp) ha rfl v;rw [zlx] at r2;exact ⟨w2,r1,r2,r3,r4⟩
 ·have hm0:=List.mem_of_getElem? h2;obtain ⟨v0,hv0,hg⟩:=zgJ he hm0 h3;have hj:es[j]? = some e0:=by simpa using h2
  rw [hg];simp only [Option.getD_some];rw [zhg hg];refine ⟨setBlock w b (.map es clock),e0.born, ?_,⟨es,clock,heap_setBlock_same hb _,⟨he.fit,Nat.le_trans he.size (Nat.le_succ n),he.down,he.up⟩⟩,⟨rfl,rfl,rfl,by simp [setBlock],fun i _ hi=>heap_setBlock_other hb _ (fun e=>hi (by rw [e]))⟩,by simp [setBlock], ?_⟩
  ·simp [Instr.mapEntry,run_underlying M.und,MapKept.run_getObj_map hb,M.law.check w false hkey,h1,hj,h3,M.law.stays w hkey,ziJ h2 h3,hv0,MapKept.run_setObj_map _ hb,Result.andThen,setBlock,goInt]
  ·intro v;obtain ⟨w2,r1,r2,r3,r4⟩:=zfh (heap_setBlock_same hb _) (n:=n+1) ⟨he.fit,Nat.le_trans he.size (Nat.le_succ n),he.down,he.up⟩ hm0 ha h3 v;exact ⟨w2,r1,r2,r3,r4⟩

end

abbrev FK:=Int × Int × Int

def cnt (l:List FE) (t m:Int):Int:=((l.filter (fun e=>both e t m)).length:Int)

theorem zmO (t m:Int):cnt [] t m=0:=rfl
theorem zdf (a b:List FE) (t m:Int):cnt (a++b) t m=cnt a t m+cnt b t m:=by simp [cnt]
theorem zkA (x:FE) (t m:Int):cnt [x] t m=if both x t m=true then 1 else 0:=by
 unfold cnt;cases h:both x t m <;> simp [h]
theorem zjc (x:FE):cnt [x] x.t x.m=1:=by rw [zkA,if_pos (zja.2 ⟨rfl,rfl⟩)]
theorem zfe (l:List FE) (t m:Int):0≤cnt l t m:=by unfold cnt; omega
theorem zmy (l:List FE) (t m:Int):cnt l t m≤l.length:=by
 unfold cnt
 have:=List.length_filter_le (fun e=>both e t m) l
 omega

def keyIn (pre:List FE) (x:FE):FK:=(x.t,x.m,cnt pre x.t x.m)

def zbC:List FE→List FE→List FK
 | _,[]=>[]
 | pre,x::r=>keyIn pre x::zbC (pre++[x]) r

def zc1 (g:FK→Option FE):List FE→List FE→FK→Option FE
 | _,[]=>g
 | pre,x::r=>zc1 (upd g (keyIn pre x) (some x)) (pre++[x]) r

def keysOf (l:List FE):List FK:=zbC [] l
def zaH (l:List FE):FK→Option FE:=zc1 (fun _=>none) [] l

theorem zfw (x:FE):∀(l pre:List FE),zbC pre (l++[x])=zbC pre l++[keyIn (pre++l) x]
 | [],pre=>by simp [zbC]
 | y::l,pre=>by
  rw [List.cons_append,zbC,zfw x l (pre++[y]),zbC,List.cons_append,List.append_assoc]
  rfl

theorem zfi (x:FE):∀(l pre:List FE) (g:FK→Option FE),zc1 g pre (l++[x])=upd (zc1 g pre l) (keyIn (pre++l) x) (some x)
 | [],pre,g=>by simp [zc1]
 | y::l,pre,g=>by
  rw [List.cons_append,zc1,zfi x l (pre++[y]),zc1,List.append_assoc]
  rfl

theorem zkZ (l:List FE) (x:FE):keysOf (l++[x])=keysOf l++[keyIn l x]:=by
 unfold keysOf;rw [zfw,List.nil_append]
theorem zkK (l:List FE) (x:FE):zaH (l++[x])=upd (zaH l) (keyIn l x) (some x):=by
 unfold zaH;rw [zfi,List.nil_append]

theorem zd9:∀(l pre:List FE),(zbC pre l).length=l.length
 | [],_=>rfl
 | x::r,pre=>by rw [zbC,List.length_cons,zd9 r,List.length_cons]
theorem ziB (l:List FE):(keysOf l).length=l.length:=zd9 l []

theorem zeI:∀(l pre:List FE) (k:FK),k∈zbC pre l→cnt pre k.1 k.2.1≤k.2.2
 | [],_,_,h=>by cases h
 | x::r,pre,k,h=>by
  rw [zbC] at h;rcases List.mem_cons.1 h with rfl | h
  ·exact Int.le_refl _
  ·have:=zeI r (pre++[x]) k h
   rw [zdf] at this
   have:=zfe [x] k.1 k.2.1
   omega

theorem zj1 (l pre:List FE) (x:FE):keyIn pre x∉zbC (pre++[x]) l:=by
 intro h
 have:=zeI _ _ _ h
 unfold keyIn at this
 simp only at this
 rw [zdf,zjc] at this;omega

theorem zc2:∀(l pre:List FE) (g:FK→Option FE) (k:FK),k∉zbC pre l→zc1 g pre l k=g k
 | [],_,_,_,_=>rfl
 | x::r,pre,g,k,h=>by
  rw [zbC] at h;have h1:k≠keyIn pre x:=fun e=>h (by rw [e]; exact List.mem_cons_self)
  rw [zc1,zc2 r (pre++[x]) _ k (fun hk=>h (List.mem_cons_of_mem _ hk)),zai g _ h1]

theorem zgj:∀(l pre:List FE) (g:FK→Option FE),(zbC pre l).map (zc1 g pre l)=l.map some
 | [],_,_=>rfl
 | x::r,pre,g=>by
  rw [zbC,zc1,List.map_cons,List.map_cons,zgj r (pre++[x])];rw [zc2 r (pre++[x]) _ _ (zj1 r pre x),zax]
theorem zgK (l:List FE):(keysOf l).map (zaH l)=l.map some:=zgj l [] _

theorem zkI (l:List FE) {k:FK} (h:k∉keysOf l):zaH l k=none:=zc2 l [] _ k h

theorem zjr {ks:List FK} {g:FK→Option FE} {l:List FE} (h:ks.map g=l.map some) (f:FE→Option FE):ks.filterMap (fun k=>(g k).bind f)=l.filterMap f:=by
 induction ks generalizing l with
 | nil =>
  cases l with
  | nil=>rfl
  | cons y r=>simp at h
 | cons k r ih =>
  cases l with
  | nil=>simp at h
  | cons y r' =>
   simp only [List.map_cons,List.cons.injEq] at h;rw [List.filterMap_cons,List.filterMap_cons,h.1,ih h.2]
   rfl

def FKok (k:FK):Prop:=(-9223372036854775808≤k.1∧k.1≤9223372036854775807)∧(-9223372036854775808≤k.2.1∧k.2.1≤9223372036854775807)∧(-9223372036854775808≤k.2.2∧k.2.2≤9223372036854775807)

theorem znB {pre:List FE} {x:FE} (hx:x.Rng) (hp:pre.length≤16777216):FKok (keyIn pre x):=by
 have h1:=zfe pre x.t x.m;have h2:=zmy pre x.t x.m;exact ⟨hx.1,hx.2.1,by unfold keyIn; simp only; omega⟩

theorem zhF:∀(l pre:List FE),(∀x∈l,x.Rng)→pre.length+l.length≤16777216→∀k∈zbC pre l,FKok k
 | [],_,_,_,_,h=>by cases h
 | x::r,pre,hR,hl,k,h=>by
  rw [zbC] at h;simp only [List.length_cons] at hl;rcases List.mem_cons.1 h with rfl | h
  ·exact znB (hR x (by simp)) (by omega)
  ·exact zhF r (pre++[x]) (fun y hy=>hR y (List.mem_cons_of_mem _ hy)) (by simp; omega) k h
theorem zmW {l:List FE} (hR:∀x∈l,x.Rng) (hl:l.length≤16777216):∀k∈keysOf l,FKok k:=zhF l [] hR (by simpa using hl)

def cntF (l:List FE):FK→Option Int:=fun k=>if k.2.2=0∧0 < cnt l k.1 k.2.1 then some (cnt l k.1 k.2.1) else none

theorem zlM:cntF []=fun _=>none:=by
 funext k
 unfold cntF;rw [if_neg];rw [zmO];omega

theorem zlL (l:List FE) (t m:Int):(cntF l (t,m,0)).getD 0=cnt l t m:=by
 unfold cntF
 have:=zfe l t m
 simp only
 split
 ·rfl
 ·rename_i h
  simp only [true_and] at h
  show (0:Int)=_
  omega

theorem zkz (l:List FE) (x:FE):cntF (l++[x])=upd (cntF l) (x.t,x.m,0) (some (cnt l x.t x.m+1)):=by
 funext k
 obtain ⟨t,m,c⟩:=k;by_cases e:((t,m,c):FK)=(x.t,x.m,0)
 ·cases e;rw [zax];unfold cntF
  simp only
  have:=zfe l x.t x.m
  rw [zdf,zjc,if_pos ⟨trivial,by omega⟩]
 ·rw [zai _ _ e];unfold cntF
  simp only
  rw [zdf,zkA];by_cases hc:c=0
  ·have hb:both x t m=false:=by
    rw [zjb];rintro ⟨rfl,rfl⟩;exact e (by rw [hc])
   rw [hb]
   simp
  ·simp [hc]

theorem zmV {l:List FE} {i:Nat} {k:FK} (hk:(keysOf l)[i]? = some k):∃e,l[i]? = some e∧zaH l k=some e:=by
 have hm:=zgK l;have h1:((keysOf l).map (zaH l))[i]? = some (zaH l k):=by rw [List.getElem?_map,hk]; rfl
 rw [hm,List.getElem?_map] at h1;cases he:l[i]? with
 | none=>rw [he] at h1; cases h1
 | some e =>
  rw [he] at h1
  simp at h1
  exact ⟨e,rfl,h1.symm⟩

theorem zhJ {W:World} {X:Nat} {c0 c1 c2 c3 c4:Value} {T:TypeId} {K:World→Prop} (hk:W.heap[X]? = some (.cells #[c0,c1,c2,c3,c4] T)) (v0 v1 v2 v3 v4:Value) (h:∀wq,wq.heap[X]? = some (.cells #[v0,v1,v2,v3,v4] T)→W.grownBy wq (some X)→K wq):K (((((W.setCell ⟨X,0,none⟩ v0).setCell ⟨X,1,none⟩ v1).setCell ⟨X,2,none⟩ v2).setCell ⟨X,3,none⟩ v3).setCell ⟨X,4,none⟩ v4):=by
 refine h _ ?_ (zI (zI (zI (zI (zj 0 _) (zj 1 _)) (zj 2 _)) (zj 3 _)) (zj 4 _));have h0:=zB (j:=0) hk v0;have h1:=zB (j:=1) h0 v1;have h2:=zB (j:=2) h1 v2;have h3:=zB (j:=3) h2 v3;have h4:=zB (j:=4) h3 v4
 simpa using h4

theorem zhK {W:World} {X:Nat} {c0 c1 c2 c3 c4 c5 c6:Value} {T:TypeId} {K:World→Prop} (hk:W.heap[X]? = some (.cells #[c0,c1,c2,c3,c4,c5,c6] T)) (v0 v1 v2 v3 v4 v5 v6:Value) (h:∀wq,wq.heap[X]? = some (.cells #[v0,v1,v2,v3,v4,v5,v6] T)→W.grownBy wq (some X)→K wq):K (((((((W.setCell ⟨X,0,none⟩ v0).setCell ⟨X,1,none⟩ v1).setCell ⟨X,2,none⟩ v2).setCell ⟨X,3,none⟩ v3).setCell ⟨X,4,none⟩ v4).setCell ⟨X,5,none⟩ v5).setCell ⟨X,6,none⟩ v6):=by
 refine h _ ?_ (zI (zI (zI (zI (zI (zI (zj 0 _) (zj 1 _)) (zj 2 _)) (zj 3 _)) (zj 4 _)) (zj 5 _)) (zj 6 _));have h6:=zB (j:=6) (zB (j:=5) (zB (j:=4) (zB (j:=3) (zB (j:=2) (zB (j:=1) (zB (j:=0) hk v0) v1) v2) v3) v4) v5) v6
 simpa using h6

theorem zN {W:World} {X:Nat} {c0 c1:Value} {T:TypeId} {K:World→Prop} (hk:W.heap[X]? = some (.cells #[c0,c1] T)) (v0 v1:Value) (h:∀wq,wq.heap[X]? = some (.cells #[v0,v1] T)→W.grownBy wq (some X)→K wq):K ((W.setCell ⟨X,0,none⟩ v0).setCell ⟨X,1,none⟩ v1):=by
 refine h _ ?_ (zI (zj 0 _) (zj 1 _));have h1:=zB (j:=1) (zB (j:=0) hk v0) v1
 simpa using h1

theorem zcs {W:World} {X:Nat} {c0 c1 c2 c3 c4 c5 c6 c7:Value} {T:TypeId} {K:World→Prop} (hk:W.heap[X]? = some (.cells #[c0,c1,c2,c3,c4,c5,c6,c7] T)) (v0 v1 v2 v3 v4 v5 v6 v7:Value) (h:∀wq,wq.heap[X]? = some (.cells #[v0,v1,v2,v3,v4,v5,v6,v7] T)→W.grownBy wq (some X)→K wq):K ((((((((W.setCell ⟨X,0,none⟩ v0).setCell ⟨X,1,none⟩ v1).setCell ⟨X,2,none⟩ v2).setCell ⟨X,3,none⟩ v3).setCell ⟨X,4,none⟩ v4).setCell ⟨X,5,none⟩ v5).setCell ⟨X,6,none⟩ v6).setCell ⟨X,7,none⟩ v7):=by
 refine h _ ?_ (zI (zI (zI (zI (zI (zI (zI (zj 0 _) (zj 1 _)) (zj 2 _)) (zj 3 _)) (zj 4 _)) (zj 5 _)) (zj 6 _)) (zj 7 _));have h0:=zB (j:=0) hk v0;have h1:=zB (j:=1) h0 v1;have h2:=zB (j:=2) h1 v2;have h3:=zB (j:=3) h2 v3;have h4:=zB (j:=4) h3 v4;have h5:=zB (j:=5) h4 v5;have h6:=zB (j:=6) h5 v6;have h7:=zB (j:=7) h6 v7
 simpa using h7

theorem zbG (id:Int) (a:Option Addr) (n c:Nat) (l:List PT) (port:Int) (w:World) (h:GRow ptF w a n c l) :
  Calls Tryz.prog 90 #[.int .i64 id,.slice a n c,.int .i64 port] w fun e w'=>e=.returned (.agg #[.int .i64 (sayV id l port).r,.int .i64 (sayV id l port).c,.int .i64 (sayV id l port).h,.int .i64 (sayV id l port).b,.int .i64 (sayV id l port).p])∧Below w.heap.size w w':=by
 generalize hw1:w.alloc (Obj.cells #[.int .i64 0,.int .i64 0,.int .i64 0,.int .i64 0,.int .i64 0] 51)=w1;have q1:=zb hw1;have k1:=zk hw1;have hsb:(sayV id l port)=⟨(bestV id (zO id l)).r,(bestV id (zO id l)).c,(bestV id (zO id l)).h,(bestV id (zO id l)).b,port⟩:=by
  unfold sayV;cases zO id l <;> rfl
 rw [hsb];clear hsb;go_enter Tryz.func90,Tryz.ntmps90;go_wp2_with fail
 refine (zb3 id a n c l _ (h.below q1)).mono ?_;rintro e w2 ⟨rfl,hb2⟩;generalize hv:bestV id (zO id l)=v;have HV:=hide hv;clear hv;generalize hw3:w2.alloc (Obj.cells #[.int .i64 v.r,.int .i64 v.c,.int .i64 v.h,.int .i64 v.b,.int .i64 v.p] 51)=w3;have hb3:=zb hw3;have k3:=zk hw3;have k1:=za (za k1 hb2) hb3;have lt1:=(Array.getElem?_eq_some_iff.1 (za (by rw [← hw1]; exact zy _ _:w1.heap[w.heap.size]? = some (.cells #[.int .i64 0,.int .i64 0,.int .i64 0,.int .i64 0,.int .i64 0] 51)) hb2)).1;have ne1:¬w2.heap.size=w.heap.size:=by omega
 have ne2:¬w.heap.size=w2.heap.size:=by omega
 have HB:=hide (zae (zr (zc (zc q1 hb2) hb3) (g:=w2.heap.size) (by omega) 4 (.int .i64 port)) (Nat.le_refl w.heap.size) (.int .i64 v.r) (.int .i64 v.c) (.int .i64 v.h) (.int .i64 v.b) (.int .i64 port));obtain ⟨⟨x0,x1,x2,x3,x4⟩,y0,y1,y2,y3,y4⟩:=zG k3;obtain ⟨⟨r0,r1,r2,r3,r4⟩,z0,z1,z2,z3,z4⟩:=zG k1;clear hb2 hb3 k1 k3 q1 lt1;go_wp2;exact bodyPost_ret (v:=.agg #[.int .i64 v.r,.int .i64 v.c,.int .i64 v.h,.int .i64 v.b,.int .i64 port]) (by simp [results,Tryz.results90,go_sem, *]) rfl ⟨(by rw [HV.out]),HB.out⟩

theorem zh3 (id:Int) (a:Option Addr) (n c:Nat) (l:List PT) (port:Int) (w:World) (h:GRow ptF w a n c l) :
  Calls Tryz.prog 163 #[.int .i64 id,.slice a n c,.int .i64 port] w fun e w'=>e=.returned (.int .i64 (zaw id l port))∧Below w.heap.size w w':=by
 have hle:=h.le;have htop:=h.top;unfold maxLen at htop;have hsz:=hide h.size;cases hin:(decide (0≤port) && decide (port≤(n:Int) - 1))
 ·have HIN:=hide hin;have HR:Hid (zaw id l port=4):=hide (by unfold zaw; rw [hsz.out,hin]; rfl);clear hin;go_enter Tryz.func163,Tryz.ntmps163;(go_wp2_with fail);refine (zg port 0 ((n:Int) - 1) _).mono ?_;rintro e w1 ⟨rfl,ew⟩;obtain rfl:=ew.symm;rw [HIN.out];go_wp2;go_ret;exact ⟨(by rw [HR.out]; rfl),Below.refl _ _⟩
 obtain ⟨k,rfl⟩:∃k:Nat,port=(k:Int):=⟨port.toNat,by simp at hin; omega⟩;have hlt:k < n:=by simp at hin; omega
 have HIN:=hide hin;have i1:(0:Int)≤(k:Int):=by omega
 have i2:(k:Int) < (n:Int):=by omega
 obtain ⟨x,b,off,hx,rfl,c0,c1,c2,c3,c4,c5,c6,c7⟩:=pt_at h k hlt;have hro:zaw id l (k:Int)=zcT id l k x:=by
  unfold zaw;rw [hsz.out,hin]
  simp [hx]
 have HRO:=hide hro;clear hin hro;cases hu:x.up
 ·rw [hu] at c0;have HR:Hid (zaw id l (k:Int)=4):=hide (by rw [HRO.out]; unfold zcT; rw [if_pos hu]);clear hu c1 c2 c3 c4 c5 c6 c7 hx;go_enter Tryz.func163,Tryz.ntmps163;(go_wp2_with fail);refine (zg (k:Int) 0 ((n:Int) - 1) _).mono ?_;rintro e w1 ⟨rfl,ew⟩;obtain rfl:=ew.symm;rw [HIN.out];go_wp2;go_ret;exact ⟨(by rw [HR.out]; rfl),Below.refl _ _⟩
 rw [hu] at c0;have HU:=hide hu;clear hu;by_cases hp:bestP (zO id l)=(k:Int)
 ·have HR:Hid (zaw id l (k:Int)=1):=hide (by rw [HRO.out]; unfold zcT; rw [if_neg (by rw [HU.out]; decide),if_pos hp]);have HP:=hide hp;clear c1 c2 c3 c4 c5 c6 c7 hx hp;go_enter Tryz.func163,Tryz.ntmps163;(go_wp2_with fail);refine (zg (k:Int) 0 ((n:Int) - 1) _).mono ?_;rintro e w1 ⟨rfl,ew⟩;obtain rfl:=ew.symm;rw [HIN.out];(go_wp2_with fail);refine (zb3 id (some ⟨b,off,none⟩) n c l _ h).mono ?_;rintro e w2 ⟨rfl,hb2⟩;rw [HP.out];have HB:=hide (zc hb2 (zl _ (Obj.cells #[.int .i64 (bestV id (zO id l)).r,.int .i64 (bestV id (zO id l)).c,.int .i64 (bestV id (zO id l)).h,.int .i64 (bestV id (zO id l)).b,.int .i64 (bestV id (zO id l)).p] 51)));clear hb2 c0;go_wp2;go_ret;exact ⟨(by rw [HR.out]; rfl),HB.out⟩
 go_enter Tryz.func163,Tryz.ntmps163;go_wp2_with fail
 refine (zg (k:Int) 0 ((n:Int) - 1) _).mono ?_;rintro e w1 ⟨rfl,ew⟩;obtain rfl:=ew.symm;rw [HIN.out];go_wp2_with fail
 refine (zb3 id (some ⟨b,off,none⟩) n c l _ h).mono ?_;rintro e w2 ⟨rfl,hb2⟩;generalize hw3:w2.alloc (Obj.cells #[.int .i64 (bestV id (zO id l)).r,.int .i64 (bestV id (zO id l)).c,.int .i64 (bestV id (zO id l)).h,.int .i64 (bestV id (zO id l)).b,.int .i64 (bestV id (zO id l)).p] 51)=w3;have HB:Hid (Below w.heap.size w w3):=hide (zc hb2 (by rw [← hw3]; exact zl _ _));clear hb2 c0 c1 c2 c3 c4 c5 c6 c7;obtain ⟨x',b',off',hx',ha',c0,c1,c2,c3,c4,c5,c6,c7⟩:=pt_at (h.below HB.out) k hlt;rw [hx] at hx';cases hx';cases ha';generalize hP:bestP (zO id l)=P at *;have hPne:(P == (k:Int))=false:=by simp [hp]
 have HX:=hide hx;have vv:Below w3.heap.size w3 w3.drew:=zq (Below.refl _ _);have HR0:Hid (zaw id l (k:Int)=(if (!x.has || lessV (sayV id l (k:Int)) x.v)=true then 2 else 3)):=hide (by rw [HRO.out]; unfold zcT; rw [if_neg (by rw [HU.out]; decide),hP,if_neg hp]);clear c0 c1 hx hP;cases hh:x.has
 ·rw [hh] at c2;have HR:Hid (zaw id l (k:Int)=2):=hide (by rw [HR0.out,hh]; rfl);have HSS:Hid (∀W',Below w3.heap.size w3 W'→zcc W' b (off+k*8+2) (.bool false)∧zcc W' b (off+k*8+3) (.int .i64 x.v.r)∧zcc W' b (off+k*8+4) (.int .i64 x.v.c)∧zcc W' b (off+k*8+5) (.int .i64 x.v.h)∧zcc W' b (off+k*8+6) (.int .i64 x.v.b)∧zcc W' b (off+k*8+7) (.int .i64 x.v.p)):=hide (fun W' hb=>⟨(hb.cell (zp c2)).trans c2,(hb.cell (zp c3)).trans c3,(hb.cell (zp c4)).trans c4,(hb.cell (zp c5)).trans c5,(hb.cell (zp c6)).trans c6,(hb.cell (zp c7)).trans c7⟩);clear c2 c3 c4 c5 c6 c7 hh;(go_wp2_with fail);refine wp_region_held_drew (S:=(fun W=>zcc W b (off+k*8+2) (.bool false)∧zcc W b (off+k*8+3) (.int .i64 x.v.r)∧zcc W b (off+k*8+4) (.int .i64 x.v.c)∧zcc W b (off+k*8+5) (.int .i64 x.v.h)∧zcc W b (off+k*8+6) (.int .i64 x.v.b)∧zcc W b (off+k*8+7) (.int .i64 x.v.p))) (by kernel_rfl) (HSS.out _ vv) (fun hHeld => ?_);refine kK 0 ?_;refine kK 1 ?_;refine kK 2 ?_;refine kK 3 ?_;refine kK 4 ?_;refine kK 5 ?_;refine kK 6 ?_;refine kN 7 ?_;refine kN 8 ?_;refine kN 9 ?_;refine kN 10 ?_;refine kN 11 ?_;refine kN 12 ?_;refine kN 13 ?_;refine kN 14 ?_;refine kN 15 ?_;refine kN 16 ?_;refine kK 17 ?_;refine kK 18 ?_;refine wpAnyH_done (by kernel_rfl) ?_ _;clear hHeld;go_wp2;go_ret;exact ⟨(by rw [HR.out]; rfl),zc HB.out vv⟩
 ·rw [hh] at c2;have HSS:Hid (∀W',Below w3.heap.size w3 W'→zcc W' b (off+k*8+2) (.bool true)∧zcc W' b (off+k*8+3) (.int .i64 x.v.r)∧zcc W' b (off+k*8+4) (.int .i64 x.v.c)∧zcc W' b (off+k*8+5) (.int .i64 x.v.h)∧zcc W' b (off+k*8+6) (.int .i64 x.v.b)∧zcc W' b (off+k*8+7) (.int .i64 x.v.p)):=hide (fun W' hb=>⟨(hb.cell (zp c2)).trans c2,(hb.cell (zp c3)).trans c3,(hb.cell (zp c4)).trans c4,(hb.cell (zp c5)).trans c5,(hb.cell (zp c6)).trans c6,(hb.cell (zp c7)).trans c7⟩);clear c2 c3 c4 c5 c6 c7;cases hl:lessV (sayV id l (k:Int)) x.v
  ·have HR:Hid (zaw id l (k:Int)=3):=hide (by rw [HR0.out,hh,hl]; rfl);have HL:Hid (zaL (sayV id l (k:Int)).r (sayV id l (k:Int)).c (sayV id l (k:Int)).b (sayV id l (k:Int)).p x.v.r x.v.c x.v.b x.v.p=false):=hide hl;clear hh hl;(go_wp2_with fail);refine wp_region_held_drew (S:=(fun W=>zcc W b (off+k*8+2) (.bool true)∧zcc W b (off+k*8+3) (.int .i64 x.v.r)∧zcc W b (off+k*8+4) (.int .i64 x.v.c)∧zcc W b (off+k*8+5) (.int .i64 x.v.h)∧zcc W b (off+k*8+6) (.int .i64 x.v.b)∧zcc W b (off+k*8+7) (.int .i64 x.v.p))) (by kernel_rfl) (HSS.out _ vv) (fun hHeld => ?_);refine kK 0 ?_;refine kK 1 ?_;refine kK 2 ?_;refine kK 3 ?_;refine kK 4 ?_;refine kK 5 ?_;refine kK 6 ?_;refine kK 7 ?_;refine kK 8 ?_;refine kK 9 ?_;refine kK 11 ?_;refine kK 12 ?_;refine kK 13 ?_;refine kK 14 ?_;refine kK 15 ?_;refine kR 10 fun K hK => ?_
   go_simp;refine (zbG id (some ⟨b,off,none⟩) n c l (k:Int) _ (h.below (zc HB.out vv))).mono ?_;rintro e wx ⟨rfl,hbx⟩;have vv:=zc vv hbx;clear hbx;(go_wp2_with fail);refine kO hK (HSS.out _ vv) fun hHeld => ?_
   clear hK K;refine kR 16 fun K hK => ?_
   go_simp;refine (zbz (sayV id l (k:Int)).r (sayV id l (k:Int)).c (sayV id l (k:Int)).h (sayV id l (k:Int)).b (sayV id l (k:Int)).p x.v.r x.v.c x.v.h x.v.b x.v.p _).mono ?_;rintro e wx ⟨rfl,hbx⟩;rw [HL.out];have vv:=zc vv hbx;clear hbx;(go_wp2_with fail);refine kO hK (HSS.out _ vv) fun hHeld => ?_
   clear hK K;refine kK 17 ?_;refine kK 18 ?_;refine wpAnyH_done (by kernel_rfl) ?_ _;clear hHeld;go_wp2;go_ret;exact ⟨(by rw [HR.out]; rfl),zc HB.out vv⟩
  ·have HR:Hid (zaw id l (k:Int)=2):=hide (by rw [HR0.out,hh,hl]; rfl);have HL:Hid (zaL (sayV id l (k:Int)).r (sayV id l (k:Int)).c (sayV id l (k:Int)).b (sayV id l (k:Int)).p x.v.r x.v.c x.v.b x.v.p=true):=hide hl;clear hh hl;(go_wp2_with fail);refine wp_region_held_drew (S:=(fun W=>zcc W b (off+k*8+2) (.bool true)∧zcc W b (off+k*8+3) (.int .i64 x.v.r)∧zcc W b (off+k*8+4) (.int .i64 x.v.c)∧zcc W b (off+k*8+5) (.int .i64 x.v.h)∧zcc W b (off+k*8+6) (.int .i64 x.v.b)∧zcc W b (off+k*8+7) (.int .i64 x.v.p))) (by kernel_rfl) (HSS.out _ vv) (fun hHeld => ?_);refine kK 0 ?_;refine kK 1 ?_;refine kK 2 ?_;refine kK 3 ?_;refine kK 4 ?_;refine kK 5 ?_;refine kK 6 ?_;refine kK 7 ?_;refine kK 8 ?_;refine kK 9 ?_;refine kK 11 ?_;refine kK 12 ?_;refine kK 13 ?_;refine kK 14 ?_;refine kK 15 ?_;refine kR 10 fun K hK => ?_
   go_simp;refine (zbG id (some ⟨b,off,none⟩) n c l (k:Int) _ (h.below (zc HB.out vv))).mono ?_;rintro e wx ⟨rfl,hbx⟩;have vv:=zc vv hbx;clear hbx;(go_wp2_with fail);refine kO hK (HSS.out _ vv) fun hHeld => ?_
   clear hK K;refine kR 16 fun K hK => ?_
   go_simp;refine (zbz (sayV id l (k:Int)).r (sayV id l (k:Int)).c (sayV id l (k:Int)).h (sayV id l (k:Int)).b (sayV id l (k:Int)).p x.v.r x.v.c x.v.h x.v.b x.v.p _).mono ?_;rintro e wx ⟨rfl,hbx⟩;rw [HL.out];have vv:=zc vv hbx;clear hbx;(go_wp2_with fail);refine kO hK (HSS.out _ vv) fun hHeld => ?_
   clear hK K;refine kK 17 ?_;refine kK 18 ?_;refine wpAnyH_done (by kernel_rfl) ?_ _;clear hHeld;go_wp2;go_ret;exact ⟨(by rw [HR.out]; rfl),zc HB.out vv⟩

theorem zg9 (id:Int) (a:Option Addr) (n c:Nat) (l:List PT) (w:World) (h:GRow ptF w a n c l) :
  Calls Tryz.prog 134 #[.int .i64 id,.slice a n c] w fun e w'=>e=.returned (.int .i64 (zah id l))∧Below w.heap.size w w':=by
 have hle:=h.le;have htop:=h.top;unfold maxLen at htop;have hsz:=hide h.size;go_enter Tryz.func134,Tryz.ntmps134;go_wp2_with fail
 go_loopw [5,6] (fun s i wr=>∃k:Nat,k≤min n 6∧i=.int .i64 k∧s=.int .i64 (za3 id l k)∧Below w.heap.size w wr) (fun _ i _=>6 - (intOf i).toNat)
 case atStart=>exact ⟨0,Nat.zero_le _,rfl,rfl,Below.refl _ _⟩
 case round =>
  obtain ⟨k,hk,rfl,rfl,hb⟩:=hrel;have hk6:k≤6:=by omega
  generalize hS:za3 id l k=S;have HS:=hide hS;clear hS;by_cases hlt:k < min n 6
  ·have hkn:k < n:=by omega
   have hk5:k < 6:=by omega
   have i1:(0:Int)≤(k:Int):=by omega
   have i2:(k:Int) < (n:Int):=by omega
   have i3:(k:Int) < 6:=by omega
   have hmin:(if (n:Int)≤6 then (n:Int) else 6)=((min n 6:Nat):Int):=by split <;> omega
   have i4:(k:Int) < ((min n 6:Nat):Int):=by omega
   have HB:=hide hb;clear hk hb;(go_wp2_with fail);refine (zh3 id a n c l (k:Int) _ (h.below HB.out)).mono ?_;rintro e w2 ⟨rfl,hb2⟩;have HB2:=hide (zc HB.out hb2);have h14:=zjy (id:=id) (l:=l) (k:Int);clear hb2;generalize hR:zaw id l (k:Int)=R at *;have HR:=hide hR;clear hR;by_cases hr:R≤2
   ·have HN:Hid (za3 id l (k+1)=bits .or .i64 S (2 ^ k)):=hide (by rw [za3,HR.out,if_pos hr,HS.out]);have hw2:wrap64 (2 ^ k)=2 ^ k:=by
     rcases (show k=0∨k=1∨k=2∨k=3∨k=4∨k=5 by omega) with rfl | rfl | rfl | rfl | rfl | rfl <;> exact Go.IntWalk.wrap64_in _ (by decide)
    have HW2:=hide hw2;clear hw2;go_wp2;rw [HW2.out]
    go_roundw
    case rel=>exact ⟨k+1,by omega,by go_num,by rw [HN.out],HB2.out⟩
    case measure=>simp [intOf]; omega
   ·have HN:Hid (za3 id l (k+1)=S):=hide (by rw [za3,HR.out,if_neg hr,HS.out]);go_wp2
    go_roundw
    case rel=>exact ⟨k+1,by omega,by go_num,by rw [HN.out],HB2.out⟩
    case measure=>simp [intOf]; omega
  ·have hkn:k=min n 6:=by omega
   have HK:Hid (zah id l=S):=hide (by unfold zah; rw [hsz.out,← hkn]; exact HS.out);have hend:¬((k:Int) < (n:Int)∧(k:Int) < 6):=by omega
   go_wp2
   all_goals go_ret
   all_goals exact ⟨(by rw [HK.out]; rfl),hb⟩

theorem zaV {α:Type} (F:Flat α) {w:World} {g base:Nat} {l:List α} {cs:Array Value} {T:TypeId} (h:w.heap[g]? = some (.cells cs T)) (hc:cs.toList=F.all l) (hb:base≤g) (hm:l.length≤1000):w.ownsRow base T F.k (.slice (some ⟨g,0,none⟩) l.length l.length) l.length (F.all l):=by
 have hl:cs.toList.length=l.length*F.k:=by rw [hc,F.all_length]
 refine ⟨by rw [F.all_length],.inr ⟨g,l.length,cs,rfl,hb,h,Nat.le_refl _,by unfold maxLen; omega, ?_, ?_⟩⟩
 ·simpa using hl
 ·rw [← hc,← hl,List.take_length]

theorem GRow.take {α:Type} {F:Flat α} {w:World} {ao:Option Addr} {n c k:Nat} {l:List α} (h:GRow F w ao n c l) (hk:k≤n):GRow F w ao k c (l.take k) where
 size:=by have:=h.size; simp; omega
 le:=Nat.le_trans hk h.le
 top:=h.top
 nil:=h.nil
 cell:=by
  rcases h.cell with h0 | ⟨b,off,ha,hc⟩
  ·exact .inl (by omega)
  ·refine .inr ⟨b,off,ha,fun i x hi j v hv=>hc i x ?_ j v hv⟩;rw [List.getElem?_take] at hi
   split at hi
   ·exact hi
   ·cases hi

def lessB (V B:BR):Prop:=V.ports.length≤B.ports.length∧V.f.length≤B.f.length∧V.v=B.v

theorem zfP (B:BR):lessB (turned B) B:=⟨Nat.le_refl _,(zbU _ _ _).length_le,rfl⟩

theorem zew {a b c:BR} (h:lessB a b) (k:lessB b c):lessB a c:=⟨Nat.le_trans h.1 k.1,Nat.le_trans h.2.1 k.2.1,h.2.2.trans k.2.2⟩

theorem zk3 (B:BR) (port:Int) (up:Bool):lessB (linkB B port up) B:=by
 unfold linkB
 split
 ·split
  ·exact zew (zfP _) ⟨by simp,Nat.le_refl _,rfl⟩
  ·exact ⟨Nat.le_refl _,Nat.le_refl _,rfl⟩
 ·exact ⟨Nat.le_refl _,Nat.le_refl _,rfl⟩

theorem zhu (B:BR) (port:Int) (v:VD):lessB (hearB B port v) B:=by
 unfold hearB
 split
 ·split
  ·split
   ·exact zew (zfP _) ⟨by simp,Nat.le_refl _,rfl⟩
   ·exact ⟨Nat.le_refl _,Nat.le_refl _,rfl⟩
  ·exact ⟨Nat.le_refl _,Nat.le_refl _,rfl⟩
 ·exact ⟨Nat.le_refl _,Nat.le_refl _,rfl⟩

theorem ziT:∀b0 b1 b2 b3 b4 b5:Bool,∀n:Fin 7,0≤zcb (six b0 b1 b2 b3 b4 b5) n.val∧zcb (six b0 b1 b2 b3 b4 b5) n.val≤63:=by
 decide +kernel

theorem zkh (id:Int) (l:List PT):0≤zah id l∧zah id l≤63:=by
 unfold zah;rw [zeY];generalize (fun i:Nat=>decide (zaw id l (i:Int)≤2))=f;have hn:min l.length 6≤6:=Nat.min_le_right _ _;generalize min l.length 6=m at hn;have e:∀j,j < 6→f j=six (f 0) (f 1) (f 2) (f 3) (f 4) (f 5) j:=by
  intro j hj;rcases (show j=0∨j=1∨j=2∨j=3∨j=4∨j=5 by omega) with rfl | rfl | rfl | rfl | rfl | rfl <;> rfl
 rw [zdo f _ m (fun j hj=>e j (by omega))];exact ziT (f 0) (f 1) (f 2) (f 3) (f 4) (f 5) ⟨m,by omega⟩

theorem zlJ (n z:Int) (k:Nat) (hn:0≤n∧n≤63) (hk:6≤k) (hz:(z % 18446744073709551616).toNat=2 ^ k % 18446744073709551616):bits .and .i64 n z=0:=by
 rw [zdd,zeB]
 apply BitVec.eq_of_toNat_eq
 rw [BitVec.toNat_and,bv_of,bv_of,hz]
 show _=0
 apply Nat.eq_of_testBit_eq
 intro j;rw [Nat.testBit_and,Nat.zero_testBit];by_cases h6:j < 6
 ·have:(2 ^ k % 18446744073709551616).testBit j=false:=by
   rw [show (18446744073709551616:Nat)=2 ^ 64 from rfl,Nat.testBit_mod_two_pow,Nat.testBit_two_pow]
   simp
   omega
  rw [this,Bool.and_false]
 ·have:((n % 18446744073709551616).toNat).testBit j=false:=by
   apply Nat.testBit_lt_two_pow
   have h64:2 ^ 6≤2 ^ j:=Nat.pow_le_pow_right (by decide) (by omega)
   have:(n % 18446744073709551616).toNat≤63:=by omega
   omega
  rw [this,Bool.false_and]

theorem zgO (id:Int) (l:List PT) (port:Nat) (w:World) (hp:port≤9223372036854775807) :
  Calls Tryz.prog 57 #[.int .i64 (zah id l),.int .i64 (port:Int)] w fun e w'=>e=.returned (.bool (bitOf (zah id l) (port:Int)))∧w'=w:=by
 have hr:=zkh id l;generalize zah id l=n at *;by_cases h9:port≤9
 ·refine (zc4 n (port:Int) (by omega) w).mono ?_;rintro e w' ⟨rfl,e1⟩;exact ⟨by rw [zhs (by unfold I64; omega) (Or.inr ⟨by omega,hr⟩)],e1⟩
 ·have hb:bitOf n (port:Int)=false:=zdV (by unfold in3; rw [decide_eq_false (show ¬(port:Int)≤7 by omega),Bool.and_false]);rw [hb];have i0:(0:Int)≤(port:Int):=by omega
  have hz:(bits .and .i64 n (wrap64 (2 ^ min port 64)) != 0)=false:=by
   rw [zlJ n _ (min port 64) hr (by omega) (by
    rw [show (2:Int) ^ min port 64=((2 ^ min port 64:Nat):Int) by push_cast; rfl];generalize (2 ^ min port 64:Nat)=z;unfold wrap64;omega)]
   rfl
  have HZ:=hide hz;clear hz;go_enter Tryz.func57,Tryz.ntmps57;go_wp2;go_ret;exact ⟨by rw [HZ.out]; rfl,rfl⟩

def byB (zs:List Int):ByteArray:=⟨(zs.map fun z=>UInt8.ofNat z.toNat).toArray⟩

def mtF:Nat→Nat→ByteArray→ByteArray
 | 0,_,out=>out
 | f+1,k,out=>if k=0 then out else mtF f (k / 10) (byB [((48+k % 10:Nat):Int)]++out)
def mtx (k:Int):ByteArray:=⟨#[109]⟩++mtF 20 k.toNat ⟨#[]⟩

end Go.Proofs.YtkaefmfopejbaaaGreat
