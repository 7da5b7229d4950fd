/-
  Packed: MapEnt FdbKeys MadeSet PtRole PtSends BrList0 GTake BrLess NetMarkL TextRow MarkText FdbEnt.
-/
import Derived.Test.YtpaneiaflfegoaaGreatPTKW
import Derived.Test.YtpaneiaflfegoaaGreatPTK01
import Derived.Test.YtpaneiaflfegoaaGreatPTK02
import Derived.Test.YtpaneiaflfegoaaGreatPTK04
import Derived.Test.YtpaneiaflfegoaaGreatPTK05
import Derived.Test.YtpaneiaflfegoaaGreatPTK06
import Derived.Laws.IdiomStrings
namespace Go.Proofs.YtpaneiaflfegoaaGreat
set_option maxRecDepth 100000
set_option maxHeartbeats 16000000
open Go.RowKit

section
open Go.RowKit Go.ChangeMaps Go.MapKept
open Go.WideElems (Fit rd rd_mk rd_key other_key)
open Go.Maps (Keyed)

variable {P:Program} {α β:Type}

theorem zdY [DecidableEq α] {γ:Type} {g:α→γ} {a:α} {v:γ} (h:g a=v):upd g a v=g:=by
 funext x
 by_cases e:x=a
 ·subst e; rw [zap,h]
 ·rw [zaf g _ e]

theorem zku [DecidableEq α] {γ:Type} (g:α→γ) (a:α) (u v:γ):upd (upd g a u) a v=upd g a v:=by
 funext x
 by_cases e:x=a
 ·subst e; rw [zap,zap]
 ·rw [zaf _ _ e,zaf _ _ e,zaf _ _ e]

theorem zjB [DecidableEq α] {M:MK P α β} {n:Nat} {es:Array MapEntry} {clock:Nat} {g:α→Option β} (he:Ents M es clock n g) (hn:n < maxLen) {a:α} (ha:M.ok a) (v:β) (h2:∀x∈es.toList,x.key≠M.kv a) :
  Ents M (es.push ⟨M.kv a,M.vv v,clock⟩) (clock+1) (n+1) (upd g a (some v)):=by
 obtain ⟨kl,hkey⟩:=M.key a ha;have hsz:=he.size;refine ⟨⟨by simp; omega,stamped_push he.fit.stamped h2, ?_⟩,by simp; omega, ?_, ?_⟩
 ·intro x hx;simp only [Array.toList_push,List.mem_append,List.mem_singleton] at hx;rcases hx with hx | rfl
  ·exact he.fit.reads x hx
  ·exact ⟨_,rd_mk (R:=rdAny) hkey rfl⟩
 ·intro x hx;simp only [Array.toList_push,List.mem_append,List.mem_singleton] at hx;rcases hx with hx | rfl
  ·obtain ⟨a',v',h4,h5,h6,h7⟩:=he.down x hx;refine ⟨a',v',h4,h5,h6, ?_⟩;rw [zaf g _ (fun e=>h2 x hx (by rw [h5,e]))];exact h7
  ·exact ⟨a,v,ha,rfl,rfl,zap g a _⟩
 ·intro a' v' h4;by_cases e:a'=a
  ·subst e;rw [zap] at h4;cases h4;exact ⟨⟨M.kv a',M.vv v,clock⟩,by simp,rfl,rfl⟩
  ·rw [zaf g _ e] at h4;obtain ⟨x,hx,h5,h6⟩:=he.up a' v' h4;exact ⟨x,by simp only [Array.toList_push,List.mem_append]; exact .inl hx,h5,h6⟩

theorem zkS [DecidableEq α] {M:MK P α β} {n:Nat} {es:Array MapEntry} {clock:Nat} {g:α→Option β} (he:Ents M es clock n g) {j:Nat} {e0:MapEntry} (h2:es.toList[j]?=some e0) {a:α} (ha:M.ok a) (h3:e0.key=M.kv a) (v:β) :
  Ents M (es.modify j (fun e'=>{ e' with val:=M.vv v })) clock n (upd g a (some v)):=by
 obtain ⟨kl,hkey⟩:=M.key a ha;have hjl:j < es.toList.length:=(List.getElem?_eq_some_iff.1 h2).1;have hlist:(es.modify j (fun e'=>{ e' with val:=M.vv v })).toList=es.toList.set j { e0 with val:=M.vv v }:=by rw [Array.toList_modify,modify_eq_set _ _ _ _ h2]
 have who:∀x∈es.toList.set j { e0 with val:=M.vv v },x={ e0 with val:=M.vv v }∨(x∈es.toList∧x.key≠M.kv a):=by
  intro x hx;obtain ⟨i,hi,ex⟩:=List.getElem_of_mem hx;rw [List.getElem_set] at ex
  split at ex
  ·exact Or.inl ex.symm
  ·rename_i hne
   have hi':i < es.toList.length:=by simpa using hi
   refine Or.inr ⟨ex▸List.getElem_mem hi', ?_⟩;rw [← h3];exact other_key he.fit h2 (by rw [List.getElem?_eq_getElem hi',ex]) (fun e1=>hne e1.symm)
 refine ⟨⟨by simpa using he.fit.size,stamped_modify he.fit.stamped _ _ (fun _ _=>rfl) (fun _ _ _=>rfl), ?_⟩,by simpa using he.size, ?_, ?_⟩
 ·intro x hx;rw [hlist] at hx;rcases who x hx with rfl | ⟨hx',_⟩
  ·exact ⟨_,rd_mk (R:=rdAny) (key:=e0.key) (by rw [h3]; exact hkey) rfl⟩
  ·exact he.fit.reads x hx'
 ·intro x hx;rw [hlist] at hx;rcases who x hx with rfl | ⟨hx',hne⟩
  ·exact ⟨a,v,ha,h3,rfl,zap g a _⟩
  ·obtain ⟨a',v',h4,h5,h6,h7⟩:=he.down x hx';refine ⟨a',v',h4,h5,h6, ?_⟩;rw [zaf g _ (fun e=>hne (by rw [h5,e]))];exact h7
 ·intro a' v' h4;rw [hlist];by_cases e:a'=a
  ·subst e;rw [zap] at h4;cases h4;exact ⟨{ e0 with val:=M.vv v },List.mem_iff_getElem.2 ⟨j,by simpa using hjl,by simp⟩,h3,rfl⟩
  ·rw [zaf g _ e] at h4;obtain ⟨x,hx,h5,h6⟩:=he.up a' v' h4;obtain ⟨i,hi,ex⟩:=List.getElem_of_mem hx;have hij:j≠i:=by
    intro e1;subst e1;rw [List.getElem?_eq_getElem hi] at h2;cases h2;rw [ex] at h3;exact e (M.inj _ _ (h5.symm.trans h3))
   exact ⟨x,List.mem_iff_getElem.2 ⟨i,by simpa using hi,by rw [List.getElem_set_ne hij]; exact ex⟩,h5,h6⟩

theorem zd9 [DecidableEq α] {M:MK P α β} {w:World} {b n:Nat} {es:Array MapEntry} {clock:Nat} {g:α→Option β} (hb:w.heap[b]?=some (.map es clock)) (he:Ents M es clock n g) {x:MapEntry} (hx:x∈es.toList) {a:α} (ha:M.ok a) (hk:x.key=M.kv a) (v:β) :
  ∃w2,(Instr.entryStore M.T (.map (some b)) (.int .i64 x.born) (M.vv v)).run P w=.ok () w2∧MapIs M w2 b n (upd g a (some v))∧w.grownBy w2 (some b)∧w2.heap.size=w.heap.size:=by
 have hst:=(stamped_iff es clock).1 he.fit.stamped;cases hf:es.findIdx? (fun e=>(e.born:Int) == (x.born:Int)) with
 | none =>
  rw [Array.findIdx?_eq_none_iff] at hf
  have:=hf x (by simpa using hx)
  simp at this
 | some j =>
  obtain ⟨hj,hp,-⟩:=Array.findIdx?_eq_some_iff_getElem.1 hf;have hj2:es.toList[j]?=some es[j]:=by simp [hj]
  have hbn:es[j].born=x.born:=by
   have h9:(es[j].born:Int)=(x.born:Int):=by simpa using hp
   omega
  have hex:es[j]=x:=born_inj hst.2.1 (List.mem_of_getElem? hj2) hx hbn;have hk2:es[j].key=M.kv a:=by rw [hex]; exact hk
  refine ⟨setBlock w b (.map (es.modify j (fun e'=>{ e' with val:=M.vv v })) clock), ?_,⟨_,_,heap_setBlock_same hb _,zkS he hj2 ha hk2 v⟩,⟨rfl,rfl,rfl,by simp [setBlock],fun i _ hi=>heap_setBlock_other hb _ (fun e=>hi (by rw [e]))⟩,by simp [setBlock]⟩
  simp [Instr.entryStore,MapKept.run_getObj_map hb,asInt,asIntOf,hf,MapKept.run_setObj_map _ hb,Result.andThen,setBlock]

theorem zhL {es:Array MapEntry} {j:Nat} {e0:MapEntry} {key:Value} (h2:es.toList[j]?=some e0) (h3:e0.key=key):es.modify j (fun e'=>{ e' with key:=key })=es:=by
 apply Array.toList_inj.1
 rw [Array.toList_modify,modify_eq_set _ _ _ _ h2];have hjl:j < es.toList.length:=(List.getElem?_eq_some_iff.1 h2).1
 have:({ e0 with key:=key }:MapEntry)=es.toList[j]:=by
  rw [List.getElem?_eq_getElem hjl] at h2;cases h2;subst h3
  rfl
 rw [this];exact List.set_getElem_self _

theorem MapIs.entry [DecidableEq α] {M:MK P α β} {w:World} {b n:Nat} {g:α→Option β} (h:MapIs M w b n g) (hn:n < maxLen) {a:α} (ha:M.ok a) :
  ∃w1 st,(Instr.mapEntry M.T (.map (some b)) (M.kv a)).run P w=.ok (.tuple #[M.vv ((g a).getD M.z),.int .i64 st]) w1∧MapIs M w1 b (n+1) (upd g a (some ((g a).getD M.z)))∧w.grownBy w1 (some b)∧w1.heap.size=w.heap.size ∧
   ∀v,∃w2,(Instr.entryStore M.T (.map (some b)) (.int .i64 st) (M.vv v)).run P w1=.ok () w2∧MapIs M w2 b (n+1) (upd g a (some v))∧w1.grownBy w2 (some b)∧w2.heap.size=w1.heap.size:=by
 obtain ⟨es,clock,hb,he⟩:=h;obtain ⟨kl,hkey⟩:=M.key a ha;rcases M.law.find w hkey es.toList he.fit.keys with ⟨h1,h2⟩ | ⟨j,e0,h1,h2,h3⟩
 ·have hg:g a=none:=by
   cases hga:g a with
   | none=>rfl
   | some u =>
    obtain ⟨x,hx,hk,_⟩:=he.up a u hga;exact absurd hk (h2 x hx)
  have he1:=zjB he hn ha M.z h2;rw [hg];refine ⟨setBlock w b (.map (es.push ⟨M.kv a,M.vv M.z,clock⟩) (clock+1)),clock, ?_,⟨_,_,heap_setBlock_same hb _,he1⟩,⟨rfl,rfl,rfl,by simp [setBlock],fun i _ hi=>heap_setBlock_other hb _ (fun e=>hi (by rw [e]))⟩,by simp [setBlock], ?_⟩
  ·simp [Instr.mapEntry,run_underlying M.und,MapKept.run_getObj_map hb,M.law.check w false hkey,h1,M.zero,MapKept.run_setObj_map _ hb,Result.andThen,setBlock,goInt]
  ·intro v;obtain ⟨w2,r1,r2,r3,r4⟩:=zd9 (heap_setBlock_same hb _) he1 (x:=⟨M.kv a,M.vv M.z,clock⟩) (by simp) ha rfl v;rw [zku] at r2;exact ⟨w2,r1,r2,r3,r4⟩
 ·have hm0:=List.mem_of_getElem? h2;obtain ⟨v0,hv0,hg⟩:=zfv he hm0 h3;have hj:es[j]?=some e0:=by simpa using h2
  rw [hg];simp only [Option.getD_some];rw [zdY hg];refine ⟨setBlock w b (.map es clock),e0.born, ?_,⟨es,clock,heap_setBlock_same hb _,⟨he.fit,Nat.le_trans he.size (Nat.le_succ n),he.down,he.up⟩⟩,⟨rfl,rfl,rfl,by simp [setBlock],fun i _ hi=>heap_setBlock_other hb _ (fun e=>hi (by rw [e]))⟩,by simp [setBlock], ?_⟩
  ·simp [Instr.mapEntry,run_underlying M.und,MapKept.run_getObj_map hb,M.law.check w false hkey,h1,hj,h3,M.law.stays w hkey,zhL h2 h3,hv0,MapKept.run_setObj_map _ hb,Result.andThen,setBlock,goInt]
  ·intro v;obtain ⟨w2,r1,r2,r3,r4⟩:=zd9 (heap_setBlock_same hb _) (n:=n+1) ⟨he.fit,Nat.le_trans he.size (Nat.le_succ n),he.down,he.up⟩ hm0 ha h3 v;exact ⟨w2,r1,r2,r3,r4⟩

end

abbrev FK:=Int × Int × Int

def cnt (l:List FE) (t m:Int):Int:=((l.filter (fun e=>both e t m)).length:Int)

theorem zlz (t m:Int):cnt [] t m=0:=rfl
theorem zcy (a b:List FE) (t m:Int):cnt (a++b) t m=cnt a t m+cnt b t m:=by simp [cnt]
theorem zjs (x:FE) (t m:Int):cnt [x] t m=if both x t m=true then 1 else 0:=by
 unfold cnt;cases h:both x t m <;> simp [h]
theorem zif (x:FE):cnt [x] x.t x.m=1:=by rw [zjs,if_pos (zic.2 ⟨rfl,rfl⟩)]
theorem zd6 (l:List FE) (t m:Int):0≤cnt l t m:=by unfold cnt; omega
theorem zlr (l:List FE) (t m:Int):cnt l t m≤l.length:=by
 unfold cnt
 have:=List.length_filter_le (fun e=>both e t m) l
 omega

def keyIn (pre:List FE) (x:FE):FK:=(x.t,x.m,cnt pre x.t x.m)

def zbu:List FE→List FE→List FK
 | _,[]=>[]
 | pre,x::r=>keyIn pre x::zbu (pre++[x]) r

def zcr (g:FK→Option FE):List FE→List FE→FK→Option FE
 | _,[]=>g
 | pre,x::r=>zcr (upd g (keyIn pre x) (some x)) (pre++[x]) r

def zan (l:List FE):List FK:=zbu [] l
def zam (l:List FE):FK→Option FE:=zcr (fun _=>none) [] l

theorem zel (x:FE):∀(l pre:List FE),zbu pre (l++[x])=zbu pre l++[keyIn (pre++l) x]
 | [],pre=>by simp [zbu]
 | y::l,pre=>by
  rw [List.cons_append,zbu,zel x l (pre++[y]),zbu,List.cons_append,List.append_assoc]
  rfl

theorem zea (x:FE):∀(l pre:List FE) (g:FK→Option FE),zcr g pre (l++[x])=upd (zcr g pre l) (keyIn (pre++l) x) (some x)
 | [],pre,g=>by simp [zcr]
 | y::l,pre,g=>by
  rw [List.cons_append,zcr,zea x l (pre++[y]),zcr,List.append_assoc]
  rfl

theorem zjT (l:List FE) (x:FE):zan (l++[x])=zan l++[keyIn l x]:=by
 unfold zan;rw [zel,List.nil_append]
theorem zjC (l:List FE) (x:FE):zam (l++[x])=upd (zam l) (keyIn l x) (some x):=by
 unfold zam;rw [zea,List.nil_append]

theorem zdf:∀(l pre:List FE),(zbu pre l).length=l.length
 | [],_=>rfl
 | x::r,pre=>by rw [zbu,List.length_cons,zdf r,List.length_cons]
theorem zhw (l:List FE):(zan l).length=l.length:=zdf l []

theorem zdH:∀(l pre:List FE) (k:FK),k∈zbu pre l→cnt pre k.1 k.2.1≤k.2.2
 | [],_,_,h=>by cases h
 | x::r,pre,k,h=>by
  rw [zbu] at h;rcases List.mem_cons.1 h with rfl | h
  ·exact Int.le_refl _
  ·have:=zdH r (pre++[x]) k h
   rw [zcy] at this
   have:=zd6 [x] k.1 k.2.1
   omega

theorem zi6 (l pre:List FE) (x:FE):keyIn pre x∉zbu (pre++[x]) l:=by
 intro h
 have:=zdH _ _ _ h
 unfold keyIn at this
 simp only at this
 rw [zcy,zif] at this;omega

theorem zcs:∀(l pre:List FE) (g:FK→Option FE) (k:FK),k∉zbu pre l→zcr g pre l k=g k
 | [],_,_,_,_=>rfl
 | x::r,pre,g,k,h=>by
  rw [zbu] at h;have h1:k≠keyIn pre x:=fun e=>h (by rw [e]; exact List.mem_cons_self)
  rw [zcr,zcs r (pre++[x]) _ k (fun hk=>h (List.mem_cons_of_mem _ hk)),zaf g _ h1]

theorem ze0:∀(l pre:List FE) (g:FK→Option FE),(zbu pre l).map (zcr g pre l)=l.map some
 | [],_,_=>rfl
 | x::r,pre,g=>by
  rw [zbu,zcr,List.map_cons,List.map_cons,ze0 r (pre++[x])];rw [zcs r (pre++[x]) _ _ (zi6 r pre x),zap]
theorem zc6 (l:List FE):(zan l).map (zam l)=l.map some:=ze0 l [] _

theorem zjA (l:List FE) {k:FK} (h:k∉zan l):zam l k=none:=zcs l [] _ k h

theorem zdU {ks:List FK} {g:FK→Option FE} {l:List FE} (h:ks.map g=l.map some) (f:FE→Option FE):ks.filterMap (fun k=>(g k).bind f)=l.filterMap f:=by
 induction ks generalizing l with
 | nil =>
  cases l with
  | nil=>rfl
  | cons y r=>simp at h
 | cons k r ih =>
  cases l with
  | nil=>simp at h
  | cons y r' =>
   simp only [List.map_cons,List.cons.injEq] at h;rw [List.filterMap_cons,List.filterMap_cons,h.1,ih h.2]
   rfl

def FKok (k:FK):Prop:=(-9223372036854775808≤k.1∧k.1≤9223372036854775807)∧(-9223372036854775808≤k.2.1∧k.2.1≤9223372036854775807)∧(-9223372036854775808≤k.2.2∧k.2.2≤9223372036854775807)

theorem zl8 {pre:List FE} {x:FE} (hx:x.Rng) (hp:pre.length≤16777216):FKok (keyIn pre x):=by
 have h1:=zd6 pre x.t x.m;have h2:=zlr pre x.t x.m;exact ⟨hx.1,hx.2.1,by unfold keyIn; simp only; omega⟩

theorem zgt:∀(l pre:List FE),(∀x∈l,x.Rng)→pre.length+l.length≤16777216→∀k∈zbu pre l,FKok k
 | [],_,_,_,_,h=>by cases h
 | x::r,pre,hR,hl,k,h=>by
  rw [zbu] at h;simp only [List.length_cons] at hl;rcases List.mem_cons.1 h with rfl | h
  ·exact zl8 (hR x (by simp)) (by omega)
  ·exact zgt r (pre++[x]) (fun y hy=>hR y (List.mem_cons_of_mem _ hy)) (by simp; omega) k h
theorem zlI {l:List FE} (hR:∀x∈l,x.Rng) (hl:l.length≤16777216):∀k∈zan l,FKok k:=zgt l [] hR (by simpa using hl)

def cntF (l:List FE):FK→Option Int:=fun k=>if k.2.2=0∧0 < cnt l k.1 k.2.1 then some (cnt l k.1 k.2.1) else none

theorem zkI:cntF []=fun _=>none:=by
 funext k
 unfold cntF;rw [if_neg];rw [zlz];omega

theorem zkH (l:List FE) (t m:Int):(cntF l (t,m,0)).getD 0=cnt l t m:=by
 unfold cntF
 have:=zd6 l t m
 simp only
 split
 ·rfl
 ·rename_i h
  simp only [true_and] at h
  show (0:Int)=_
  omega

theorem zjr (l:List FE) (x:FE):cntF (l++[x])=upd (cntF l) (x.t,x.m,0) (some (cnt l x.t x.m+1)):=by
 funext k
 obtain ⟨t,m,c⟩:=k;by_cases e:((t,m,c):FK)=(x.t,x.m,0)
 ·cases e;rw [zap];unfold cntF
  simp only
  have:=zd6 l x.t x.m
  rw [zcy,zif,if_pos ⟨trivial,by omega⟩]
 ·rw [zaf _ _ e];unfold cntF
  simp only
  rw [zcy,zjs];by_cases hc:c=0
  ·have hb:both x t m=false:=by
    rw [zid];rintro ⟨rfl,rfl⟩;exact e (by rw [hc])
   rw [hb]
   simp
  ·simp [hc]

theorem zlH {l:List FE} {i:Nat} {k:FK} (hk:(zan l)[i]?=some k):∃e,l[i]?=some e∧zam l k=some e:=by
 have hm:=zc6 l;have h1:((zan l).map (zam l))[i]?=some (zam l k):=by rw [List.getElem?_map,hk]; rfl
 rw [hm,List.getElem?_map] at h1;cases he:l[i]? with
 | none=>rw [he] at h1; cases h1
 | some e =>
  rw [he] at h1
  simp at h1
  exact ⟨e,rfl,h1.symm⟩

theorem zgw {W:World} {X:Nat} {c0 c1 c2 c3 c4:Value} {T:TypeId} {K:World→Prop} (hk:W.heap[X]?=some (.cells #[c0,c1,c2,c3,c4] T)) (v0 v1 v2 v3 v4:Value) (h:∀wq,wq.heap[X]?=some (.cells #[v0,v1,v2,v3,v4] T)→W.grownBy wq (some X)→K wq):K (((((W.setCell ⟨X,0,none⟩ v0).setCell ⟨X,1,none⟩ v1).setCell ⟨X,2,none⟩ v2).setCell ⟨X,3,none⟩ v3).setCell ⟨X,4,none⟩ v4):=by
 refine h _ ?_ (zz (zz (zz (zz (zg 0 _) (zg 1 _)) (zg 2 _)) (zg 3 _)) (zg 4 _));have h0:=zJ (j:=0) hk v0;have h1:=zJ (j:=1) h0 v1;have h2:=zJ (j:=2) h1 v2;have h3:=zJ (j:=3) h2 v3;have h4:=zJ (j:=4) h3 v4
 simpa using h4

theorem zgx {W:World} {X:Nat} {c0 c1 c2 c3 c4 c5 c6:Value} {T:TypeId} {K:World→Prop} (hk:W.heap[X]?=some (.cells #[c0,c1,c2,c3,c4,c5,c6] T)) (v0 v1 v2 v3 v4 v5 v6:Value) (h:∀wq,wq.heap[X]?=some (.cells #[v0,v1,v2,v3,v4,v5,v6] T)→W.grownBy wq (some X)→K wq):K (((((((W.setCell ⟨X,0,none⟩ v0).setCell ⟨X,1,none⟩ v1).setCell ⟨X,2,none⟩ v2).setCell ⟨X,3,none⟩ v3).setCell ⟨X,4,none⟩ v4).setCell ⟨X,5,none⟩ v5).setCell ⟨X,6,none⟩ v6):=by
 refine h _ ?_ (zz (zz (zz (zz (zz (zz (zg 0 _) (zg 1 _)) (zg 2 _)) (zg 3 _)) (zg 4 _)) (zg 5 _)) (zg 6 _));have h6:=zJ (j:=6) (zJ (j:=5) (zJ (j:=4) (zJ (j:=3) (zJ (j:=2) (zJ (j:=1) (zJ (j:=0) hk v0) v1) v2) v3) v4) v5) v6
 simpa using h6

theorem zax {W:World} {X:Nat} {c0 c1:Value} {T:TypeId} {K:World→Prop} (hk:W.heap[X]?=some (.cells #[c0,c1] T)) (v0 v1:Value) (h:∀wq,wq.heap[X]?=some (.cells #[v0,v1] T)→W.grownBy wq (some X)→K wq):K ((W.setCell ⟨X,0,none⟩ v0).setCell ⟨X,1,none⟩ v1):=by
 refine h _ ?_ (zz (zg 0 _) (zg 1 _));have h1:=zJ (j:=1) (zJ (j:=0) hk v0) v1
 simpa using h1

abbrev q318:Oper:=⟨some 34,.move (.tmp 1),57,"l10_role.go:47",#[],none⟩
abbrev q319:Oper:=⟨some 35,.move (.tmp 2),3,"l10_role.go:47",#[],none⟩
abbrev q320:Oper:=⟨some 36,.indexAddr 57 (.tmp 34) (.tmp 35),0,"l10_role.go:47",#[⟨0,.data⟩,⟨1,.data⟩],none⟩
abbrev q321:Oper:=⟨some 37,.fieldAddr 103 (.tmp 36) 2,0,"l10_role.go:47",#[⟨2,.data⟩],none⟩
abbrev q322:Oper:=⟨some 38,.load 4 (.tmp 37),4,"l10_role.go:47",#[⟨3,.data⟩],none⟩
abbrev q323:Oper:=⟨some 39,.unOp .not 4 (.tmp 38),4,"l10_role.go:47",#[⟨4,.data⟩],none⟩
abbrev q324:Oper:=⟨some 40,.move (.tmp 39),4,"l10_role.go:47",#[⟨5,.data⟩],none⟩
abbrev q325:Oper:=⟨some 41,.move (.tmp 0),3,"l10_role.go:47",#[⟨6,.guard⟩],some (6,false)⟩
abbrev q326:Oper:=⟨some 42,.move (.tmp 1),57,"l10_role.go:47",#[⟨6,.guard⟩],some (6,false)⟩
abbrev q327:Oper:=⟨some 43,.move (.tmp 2),3,"l10_role.go:47",#[⟨6,.guard⟩],some (6,false)⟩
abbrev q328:Oper:=⟨some 44,.call ⟨.value (.func 105),#[.tmp 41,.tmp 42,.tmp 43],#[3,57,3]⟩,101,"l10_role.go:47",#[⟨7,.data⟩,⟨8,.data⟩,⟨9,.data⟩,⟨6,.chain⟩,⟨6,.guard⟩],some (6,false)⟩
abbrev q329:Oper:=⟨some 45,.move (.tmp 1),57,"l10_role.go:47",#[⟨6,.guard⟩],some (6,false)⟩
abbrev q330:Oper:=⟨some 46,.move (.tmp 2),3,"l10_role.go:47",#[⟨6,.guard⟩],some (6,false)⟩
abbrev q331:Oper:=⟨some 47,.indexAddr 57 (.tmp 45) (.tmp 46),0,"l10_role.go:47",#[⟨11,.data⟩,⟨12,.data⟩,⟨6,.guard⟩],some (6,false)⟩
abbrev q332:Oper:=⟨some 48,.fieldAddr 103 (.tmp 47) 3,0,"l10_role.go:47",#[⟨13,.data⟩,⟨6,.guard⟩],some (6,false)⟩
abbrev q333:Oper:=⟨some 49,.load 101 (.tmp 48),101,"l10_role.go:47",#[⟨14,.data⟩,⟨6,.guard⟩],some (6,false)⟩
abbrev q334:Oper:=⟨some 50,.call ⟨.value (.func 167),#[.tmp 44,.tmp 49],#[101,101]⟩,4,"l10_role.go:47",#[⟨10,.data⟩,⟨15,.data⟩,⟨10,.chain⟩,⟨6,.guard⟩],some (6,false)⟩
abbrev q335:Oper:=⟨some 51,.pick (.tmp 40) (.const (.bool true)) (.tmp 50),4,"l10_role.go:47",#[⟨6,.data⟩,⟨16,.data⟩],none⟩
abbrev q336:Oper:=⟨some 33,.assign (.tmp 51),4,"l10_role.go:47",#[⟨17,.data⟩,⟨16,.chain⟩],none⟩

theorem zbz (id:Int) (a:Option Addr) (n c:Nat) (l:List PT) (port:Int) (w:World) (h:GRow ptF w a n c l) :
  Calls Tryz.prog 105 #[.int .i64 id,.slice a n c,.int .i64 port] w fun e w'=>e=.returned (.agg #[.int .i64 (sayV id l port).r,.int .i64 (sayV id l port).c,.int .i64 (sayV id l port).h,.int .i64 (sayV id l port).b,.int .i64 (sayV id l port).p])∧Below w.heap.size w w':=by
 generalize hw1:w.alloc (Obj.cells #[.int .i64 0,.int .i64 0,.int .i64 0,.int .i64 0,.int .i64 0] 101)=w1;have q1:=zb hw1;have k1:=zk hw1;have hsb:(sayV id l port)=⟨(bestV id (zW id l)).r,(bestV id (zW id l)).c,(bestV id (zW id l)).h,(bestV id (zW id l)).b,port⟩:=by
  unfold sayV;cases zW id l <;> rfl
 rw [hsb];clear hsb;go_enter Tryz.func105,Tryz.ntmps105;go_wp2_with fail
 refine (zbV id a n c l _ (h.below q1)).mono ?_;rintro e w2 ⟨rfl,hb2⟩;generalize hv:bestV id (zW id l)=v;have HV:=hide hv;clear hv;generalize hw3:w2.alloc (Obj.cells #[.int .i64 v.r,.int .i64 v.c,.int .i64 v.h,.int .i64 v.b,.int .i64 v.p] 101)=w3;have hb3:=zb hw3;have k3:=zk hw3;have k1:=za (za k1 hb2) hb3;have lt1:=(Array.getElem?_eq_some_iff.1 (za (by rw [← hw1]; exact zr _ _:w1.heap[w.heap.size]?=some (.cells #[.int .i64 0,.int .i64 0,.int .i64 0,.int .i64 0,.int .i64 0] 101)) hb2)).1;have ne1:¬w2.heap.size=w.heap.size:=by omega
 have ne2:¬w.heap.size=w2.heap.size:=by omega
 have HB:=hide (zad (zn (zc (zc q1 hb2) hb3) (g:=w2.heap.size) (by omega) 4 (.int .i64 port)) (Nat.le_refl w.heap.size) (.int .i64 v.r) (.int .i64 v.c) (.int .i64 v.h) (.int .i64 v.b) (.int .i64 port));obtain ⟨⟨x0,x1,x2,x3,x4⟩,y0,y1,y2,y3,y4⟩:=zC k3;obtain ⟨⟨r0,r1,r2,r3,r4⟩,z0,z1,z2,z3,z4⟩:=zC k1;clear hb2 hb3 k1 k3 q1 lt1;go_wp2;exact bodyPost_ret (v:=.agg #[.int .i64 v.r,.int .i64 v.c,.int .i64 v.h,.int .i64 v.b,.int .i64 port]) (by simp [results,Tryz.results105,go_sem, *]) rfl ⟨(by rw [HV.out]),HB.out⟩

theorem zgU (id:Int) (a:Option Addr) (n c:Nat) (l:List PT) (port:Int) (w:World) (h:GRow ptF w a n c l) :
  Calls Tryz.prog 140 #[.int .i64 id,.slice a n c,.int .i64 port] w fun e w'=>e=.returned (.int .i64 (zaI id l port))∧Below w.heap.size w w':=by
 have hle:=h.le;have htop:=h.top;unfold maxLen at htop;have hsz:=hide h.size;cases hin:(decide (0≤port) && decide (port≤(n:Int) - 1))
 ·have HIN:=hide hin;have HR:Hid (zaI id l port=4):=hide (by unfold zaI; rw [hsz.out,hin]; rfl);clear hin;go_enter Tryz.func140,Tryz.ntmps140;(go_wp2_with fail);refine (zh port 0 ((n:Int) - 1) _).mono ?_;rintro e w1 ⟨rfl,ew⟩;obtain rfl:=ew.symm;rw [HIN.out];go_wp2;go_ret;exact ⟨(by rw [HR.out]; rfl),Below.refl _ _⟩
 obtain ⟨k,rfl⟩:∃k:Nat,port=(k:Int):=⟨port.toNat,by simp at hin; omega⟩;have hlt:k < n:=by simp at hin; omega
 have HIN:=hide hin;have i1:(0:Int)≤(k:Int):=by omega
 have i2:(k:Int) < (n:Int):=by omega
 obtain ⟨x,b,off,hx,rfl,c0,c1,c2,c3,c4,c5,c6,c7⟩:=pt_at h k hlt;have hro:zaI id l (k:Int)=zcO id l k x:=by
  unfold zaI;rw [hsz.out,hin]
  simp [hx]
 have HRO:=hide hro;clear hin hro;cases hu:x.up
 ·rw [hu] at c0;have HR:Hid (zaI id l (k:Int)=4):=hide (by rw [HRO.out]; unfold zcO; rw [if_pos hu]);clear hu c1 c2 c3 c4 c5 c6 c7 hx;go_enter Tryz.func140,Tryz.ntmps140;(go_wp2_with fail);refine (zh (k:Int) 0 ((n:Int) - 1) _).mono ?_;rintro e w1 ⟨rfl,ew⟩;obtain rfl:=ew.symm;rw [HIN.out];go_wp2;go_ret;exact ⟨(by rw [HR.out]; rfl),Below.refl _ _⟩
 rw [hu] at c0;have HU:=hide hu;clear hu;by_cases hp:bestP (zW id l)=(k:Int)
 ·have HR:Hid (zaI id l (k:Int)=1):=hide (by rw [HRO.out]; unfold zcO; rw [if_neg (by rw [HU.out]; decide),if_pos hp]);have HP:=hide hp;clear c1 c2 c3 c4 c5 c6 c7 hx hp;go_enter Tryz.func140,Tryz.ntmps140;(go_wp2_with fail);refine (zh (k:Int) 0 ((n:Int) - 1) _).mono ?_;rintro e w1 ⟨rfl,ew⟩;obtain rfl:=ew.symm;rw [HIN.out];(go_wp2_with fail);refine (zbV id (some ⟨b,off,none⟩) n c l _ h).mono ?_;rintro e w2 ⟨rfl,hb2⟩;rw [HP.out];have HB:=hide (zc hb2 (zl _ (Obj.cells #[.int .i64 (bestV id (zW id l)).r,.int .i64 (bestV id (zW id l)).c,.int .i64 (bestV id (zW id l)).h,.int .i64 (bestV id (zW id l)).b,.int .i64 (bestV id (zW id l)).p] 101)));clear hb2 c0;go_wp2;go_ret;exact ⟨(by rw [HR.out]; rfl),HB.out⟩
 go_enter Tryz.func140,Tryz.ntmps140;go_wp2_with fail
 refine (zh (k:Int) 0 ((n:Int) - 1) _).mono ?_;rintro e w1 ⟨rfl,ew⟩;obtain rfl:=ew.symm;rw [HIN.out];go_wp2_with fail
 refine (zbV id (some ⟨b,off,none⟩) n c l _ h).mono ?_;rintro e w2 ⟨rfl,hb2⟩;generalize hw3:w2.alloc (Obj.cells #[.int .i64 (bestV id (zW id l)).r,.int .i64 (bestV id (zW id l)).c,.int .i64 (bestV id (zW id l)).h,.int .i64 (bestV id (zW id l)).b,.int .i64 (bestV id (zW id l)).p] 101)=w3;have HB:Hid (Below w.heap.size w w3):=hide (zc hb2 (by rw [← hw3]; exact zl _ _));clear hb2 c0 c1 c2 c3 c4 c5 c6 c7;obtain ⟨x',b',off',hx',ha',c0,c1,c2,c3,c4,c5,c6,c7⟩:=pt_at (h.below HB.out) k hlt;rw [hx] at hx';cases hx';cases ha';generalize hP:bestP (zW id l)=P at *;have hPne:(P == (k:Int))=false:=by simp [hp]
 have HX:=hide hx;have vv:Below w3.heap.size w3 w3.drew:=zp (Below.refl _ _);have HR0:Hid (zaI id l (k:Int)=(if (!x.has || lessV (sayV id l (k:Int)) x.v)=true then 2 else 3)):=hide (by rw [HRO.out]; unfold zcO; rw [if_neg (by rw [HU.out]; decide),hP,if_neg hp]);clear c0 c1 hx hP;cases hh:x.has
 ·rw [hh] at c2;have HR:Hid (zaI id l (k:Int)=2):=hide (by rw [HR0.out,hh]; rfl);have HSS:Hid (∀W',Below w3.heap.size w3 W'→W'.cell? ⟨b,off+k*8+2,none⟩=some (.bool false)∧W'.cell? ⟨b,off+k*8+3,none⟩=some (.int .i64 x.v.r)∧W'.cell? ⟨b,off+k*8+4,none⟩=some (.int .i64 x.v.c)∧W'.cell? ⟨b,off+k*8+5,none⟩=some (.int .i64 x.v.h)∧W'.cell? ⟨b,off+k*8+6,none⟩=some (.int .i64 x.v.b)∧W'.cell? ⟨b,off+k*8+7,none⟩=some (.int .i64 x.v.p)):=hide (fun W' hb=>⟨(hb.cell (zF c2)).trans c2,(hb.cell (zF c3)).trans c3,(hb.cell (zF c4)).trans c4,(hb.cell (zF c5)).trans c5,(hb.cell (zF c6)).trans c6,(hb.cell (zF c7)).trans c7⟩);clear c2 c3 c4 c5 c6 c7 hh;(go_wp2_with fail);refine wp_region_held_drew (S:=(fun W=>W.cell? ⟨b,off+k*8+2,none⟩=some (.bool false)∧W.cell? ⟨b,off+k*8+3,none⟩=some (.int .i64 x.v.r)∧W.cell? ⟨b,off+k*8+4,none⟩=some (.int .i64 x.v.c)∧W.cell? ⟨b,off+k*8+5,none⟩=some (.int .i64 x.v.h)∧W.cell? ⟨b,off+k*8+6,none⟩=some (.int .i64 x.v.b)∧W.cell? ⟨b,off+k*8+7,none⟩=some (.int .i64 x.v.p))) (by kernel_rfl) (HSS.out _ vv) (fun hHeld => ?_);refine kK 0 q318 ?_;refine kK 1 q319 ?_;refine kK 2 q320 ?_;refine kK 3 q321 ?_;refine kK 4 q322 ?_;refine kK 5 q323 ?_;refine kK 6 q324 ?_;refine kN 7 q325 ?_;refine kN 8 q326 ?_;refine kN 9 q327 ?_;refine kN 10 q328 ?_;refine kN 11 q329 ?_;refine kN 12 q330 ?_;refine kN 13 q331 ?_;refine kN 14 q332 ?_;refine kN 15 q333 ?_;refine kN 16 q334 ?_;refine kK 17 q335 ?_;refine kK 18 q336 ?_;refine wpAnyH_done (by kernel_rfl) ?_ _;clear hHeld;go_wp2;go_ret;exact ⟨(by rw [HR.out]; rfl),zc HB.out vv⟩
 ·rw [hh] at c2;have HSS:Hid (∀W',Below w3.heap.size w3 W'→W'.cell? ⟨b,off+k*8+2,none⟩=some (.bool true)∧W'.cell? ⟨b,off+k*8+3,none⟩=some (.int .i64 x.v.r)∧W'.cell? ⟨b,off+k*8+4,none⟩=some (.int .i64 x.v.c)∧W'.cell? ⟨b,off+k*8+5,none⟩=some (.int .i64 x.v.h)∧W'.cell? ⟨b,off+k*8+6,none⟩=some (.int .i64 x.v.b)∧W'.cell? ⟨b,off+k*8+7,none⟩=some (.int .i64 x.v.p)):=hide (fun W' hb=>⟨(hb.cell (zF c2)).trans c2,(hb.cell (zF c3)).trans c3,(hb.cell (zF c4)).trans c4,(hb.cell (zF c5)).trans c5,(hb.cell (zF c6)).trans c6,(hb.cell (zF c7)).trans c7⟩);clear c2 c3 c4 c5 c6 c7;cases hl:lessV (sayV id l (k:Int)) x.v
  ·have HR:Hid (zaI id l (k:Int)=3):=hide (by rw [HR0.out,hh,hl]; rfl);have HL:Hid (zaT (sayV id l (k:Int)).r (sayV id l (k:Int)).c (sayV id l (k:Int)).b (sayV id l (k:Int)).p x.v.r x.v.c x.v.b x.v.p=false):=hide hl;clear hh hl;(go_wp2_with fail);refine wp_region_held_drew (S:=(fun W=>W.cell? ⟨b,off+k*8+2,none⟩=some (.bool true)∧W.cell? ⟨b,off+k*8+3,none⟩=some (.int .i64 x.v.r)∧W.cell? ⟨b,off+k*8+4,none⟩=some (.int .i64 x.v.c)∧W.cell? ⟨b,off+k*8+5,none⟩=some (.int .i64 x.v.h)∧W.cell? ⟨b,off+k*8+6,none⟩=some (.int .i64 x.v.b)∧W.cell? ⟨b,off+k*8+7,none⟩=some (.int .i64 x.v.p))) (by kernel_rfl) (HSS.out _ vv) (fun hHeld => ?_);refine kK 0 q318 ?_;refine kK 1 q319 ?_;refine kK 2 q320 ?_;refine kK 3 q321 ?_;refine kK 4 q322 ?_;refine kK 5 q323 ?_;refine kK 6 q324 ?_;refine kK 7 q325 ?_;refine kK 8 q326 ?_;refine kK 9 q327 ?_;refine kK 11 q329 ?_;refine kK 12 q330 ?_;refine kK 13 q331 ?_;refine kK 14 q332 ?_;refine kK 15 q333 ?_;refine kR 10 q328 (fun K hK => ?_);go_simp;refine (zbz id (some ⟨b,off,none⟩) n c l (k:Int) _ (h.below (zc HB.out vv))).mono ?_;rintro e wx ⟨rfl,hbx⟩;have vv:=zc vv hbx;clear hbx;(go_wp2_with fail);refine hK.out _ _ (HSS.out _ vv) (fun hHeld => ?_);clear hK K;(try simp only [Act.put,lA,lB,lC]);refine kR 16 q334 (fun K hK => ?_);go_simp;refine (zbp (sayV id l (k:Int)).r (sayV id l (k:Int)).c (sayV id l (k:Int)).h (sayV id l (k:Int)).b (sayV id l (k:Int)).p x.v.r x.v.c x.v.h x.v.b x.v.p _).mono ?_;rintro e wx ⟨rfl,hbx⟩;rw [HL.out];have vv:=zc vv hbx;clear hbx;(go_wp2_with fail);refine hK.out _ _ (HSS.out _ vv) (fun hHeld => ?_);clear hK K;(try simp only [Act.put,lA,lB,lC]);refine kK 17 q335 ?_;refine kK 18 q336 ?_;refine wpAnyH_done (by kernel_rfl) ?_ _;clear hHeld;go_wp2;go_ret;exact ⟨(by rw [HR.out]; rfl),zc HB.out vv⟩
  ·have HR:Hid (zaI id l (k:Int)=2):=hide (by rw [HR0.out,hh,hl]; rfl);have HL:Hid (zaT (sayV id l (k:Int)).r (sayV id l (k:Int)).c (sayV id l (k:Int)).b (sayV id l (k:Int)).p x.v.r x.v.c x.v.b x.v.p=true):=hide hl;clear hh hl;(go_wp2_with fail);refine wp_region_held_drew (S:=(fun W=>W.cell? ⟨b,off+k*8+2,none⟩=some (.bool true)∧W.cell? ⟨b,off+k*8+3,none⟩=some (.int .i64 x.v.r)∧W.cell? ⟨b,off+k*8+4,none⟩=some (.int .i64 x.v.c)∧W.cell? ⟨b,off+k*8+5,none⟩=some (.int .i64 x.v.h)∧W.cell? ⟨b,off+k*8+6,none⟩=some (.int .i64 x.v.b)∧W.cell? ⟨b,off+k*8+7,none⟩=some (.int .i64 x.v.p))) (by kernel_rfl) (HSS.out _ vv) (fun hHeld => ?_);refine kK 0 q318 ?_;refine kK 1 q319 ?_;refine kK 2 q320 ?_;refine kK 3 q321 ?_;refine kK 4 q322 ?_;refine kK 5 q323 ?_;refine kK 6 q324 ?_;refine kK 7 q325 ?_;refine kK 8 q326 ?_;refine kK 9 q327 ?_;refine kK 11 q329 ?_;refine kK 12 q330 ?_;refine kK 13 q331 ?_;refine kK 14 q332 ?_;refine kK 15 q333 ?_;refine kR 10 q328 (fun K hK => ?_);go_simp;refine (zbz id (some ⟨b,off,none⟩) n c l (k:Int) _ (h.below (zc HB.out vv))).mono ?_;rintro e wx ⟨rfl,hbx⟩;have vv:=zc vv hbx;clear hbx;(go_wp2_with fail);refine hK.out _ _ (HSS.out _ vv) (fun hHeld => ?_);clear hK K;(try simp only [Act.put,lA,lB,lC]);refine kR 16 q334 (fun K hK => ?_);go_simp;refine (zbp (sayV id l (k:Int)).r (sayV id l (k:Int)).c (sayV id l (k:Int)).h (sayV id l (k:Int)).b (sayV id l (k:Int)).p x.v.r x.v.c x.v.h x.v.b x.v.p _).mono ?_;rintro e wx ⟨rfl,hbx⟩;rw [HL.out];have vv:=zc vv hbx;clear hbx;(go_wp2_with fail);refine hK.out _ _ (HSS.out _ vv) (fun hHeld => ?_);clear hK K;(try simp only [Act.put,lA,lB,lC]);refine kK 17 q335 ?_;refine kK 18 q336 ?_;refine wpAnyH_done (by kernel_rfl) ?_ _;clear hHeld;go_wp2;go_ret;exact ⟨(by rw [HR.out]; rfl),zc HB.out vv⟩

theorem zfZ (id:Int) (a:Option Addr) (n c:Nat) (l:List PT) (w:World) (h:GRow ptF w a n c l) :
  Calls Tryz.prog 101 #[.int .i64 id,.slice a n c] w fun e w'=>e=.returned (.int .i64 (zbh id l))∧Below w.heap.size w w':=by
 have hle:=h.le;have htop:=h.top;unfold maxLen at htop;have hsz:=hide h.size;go_enter Tryz.func101,Tryz.ntmps101;go_wp2_with fail
 go_loopw [5,6] (fun s i wr=>∃k:Nat,k≤min n 6∧i=.int .i64 k∧s=.int .i64 (zaZ id l k)∧Below w.heap.size w wr) (fun _ i _=>6 - (intOf i).toNat)
 case atStart=>exact ⟨0,Nat.zero_le _,rfl,rfl,Below.refl _ _⟩
 case round =>
  obtain ⟨k,hk,rfl,rfl,hb⟩:=hrel;have hk6:k≤6:=by omega
  generalize hS:zaZ id l k=S;have HS:=hide hS;clear hS;by_cases hlt:k < min n 6
  ·have hkn:k < n:=by omega
   have hk5:k < 6:=by omega
   have i1:(0:Int)≤(k:Int):=by omega
   have i2:(k:Int) < (n:Int):=by omega
   have i3:(k:Int) < 6:=by omega
   have hmin:(if (n:Int)≤6 then (n:Int) else 6)=((min n 6:Nat):Int):=by split <;> omega
   have i4:(k:Int) < ((min n 6:Nat):Int):=by omega
   have HB:=hide hb;clear hk hb;(go_wp2_with fail);refine (zgU id a n c l (k:Int) _ (h.below HB.out)).mono ?_;rintro e w2 ⟨rfl,hb2⟩;have HB2:=hide (zc HB.out hb2);have h14:=ziC (id:=id) (l:=l) (k:Int);clear hb2;generalize hR:zaI id l (k:Int)=R at *;have HR:=hide hR;clear hR;by_cases hr:R≤2
   ·have HN:Hid (zaZ id l (k+1)=bits .or .i64 S (2 ^ k)):=hide (by rw [zaZ,HR.out,if_pos hr,HS.out]);have hw2:wrap64 (2 ^ k)=2 ^ k:=by
     rcases (show k=0∨k=1∨k=2∨k=3∨k=4∨k=5 by omega) with rfl | rfl | rfl | rfl | rfl | rfl <;> exact Go.IntWalk.wrap64_in _ (by decide)
    have HW2:=hide hw2;clear hw2;go_wp2;rw [HW2.out]
    go_roundw
    case rel=>exact ⟨k+1,by omega,by go_num,by rw [HN.out],HB2.out⟩
    case measure=>simp [intOf]; omega
   ·have HN:Hid (zaZ id l (k+1)=S):=hide (by rw [zaZ,HR.out,if_neg hr,HS.out]);go_wp2
    go_roundw
    case rel=>exact ⟨k+1,by omega,by go_num,by rw [HN.out],HB2.out⟩
    case measure=>simp [intOf]; omega
  ·have hkn:k=min n 6:=by omega
   have HK:Hid (zbh id l=S):=hide (by unfold zbh; rw [hsz.out,← hkn]; exact HS.out);have hend:¬((k:Int) < (n:Int)∧(k:Int) < 6):=by omega
   go_wp2
   all_goals go_ret
   all_goals exact ⟨(by rw [HK.out]; rfl),hb⟩

theorem zaX {α:Type} (F:Flat α) {w:World} {g base:Nat} {l:List α} {cs:Array Value} {T:TypeId} (h:w.heap[g]?=some (.cells cs T)) (hc:cs.toList=F.all l) (hb:base≤g) (hm:l.length≤1000):w.ownsRow base T F.k (.slice (some ⟨g,0,none⟩) l.length l.length) l.length (F.all l):=by
 have hl:cs.toList.length=l.length*F.k:=by rw [hc,F.all_length]
 refine ⟨by rw [F.all_length],.inr ⟨g,l.length,cs,rfl,hb,h,Nat.le_refl _,by unfold maxLen; omega, ?_, ?_⟩⟩
 ·simpa using hl
 ·rw [← hc,← hl,List.take_length]

theorem GRow.take {α:Type} {F:Flat α} {w:World} {ao:Option Addr} {n c k:Nat} {l:List α} (h:GRow F w ao n c l) (hk:k≤n):GRow F w ao k c (l.take k) where
 size:=by have:=h.size; simp; omega
 le:=Nat.le_trans hk h.le
 top:=h.top
 nil:=h.nil
 cell:=by
  rcases h.cell with h0 | ⟨b,off,ha,hc⟩
  ·exact .inl (by omega)
  ·refine .inr ⟨b,off,ha,fun i x hi j v hv=>hc i x ?_ j v hv⟩;rw [List.getElem?_take] at hi
   split at hi
   ·exact hi
   ·cases hi

def lessB (V B:BR):Prop:=V.ports.length≤B.ports.length∧V.f.length≤B.f.length∧V.v=B.v

def zfb (k:Int):LK:=⟨k,k+1,k+1+1,k+1+1+1⟩
def zbF (k:Int) (n:Nat):List LK:=(List.range n).map fun (i:Nat)=>zfb (k+4*i)

theorem zfN (k:Int) (n:Nat):(zbF k n).length=n:=by simp [zbF]
theorem zhA (k:Int) (j:Nat):zbF k (j+1)=zbF k j++[zfb (k+4*j)]:=by simp [zbF,List.range_succ]
theorem zj0 (k:Int) (n j:Nat) (h:j < n):(zbF k n)[j]?=some (zfb (k+4*j)):=by simp [zbF,List.getElem?_map,List.getElem?_range h]

theorem zgB (base g n cap:Nat) (l:List LK) (k:Int) (w:World) (hown:w.ownsRow base 98 4 (.slice (some ⟨g,0,none⟩) n cap) n (linkF.all l)) (hn:n≤16777216) (hk0:0≤k) (hk1:k≤1099511627776) :
  Calls Tryz.prog 40 #[.slice (some ⟨g,0,none⟩) n cap,.int .i64 k] w fun r w'=>r=.returned (.int .i64 (k+4*n))∧w'.ownsRow base 98 4 (.slice (some ⟨g,0,none⟩) n cap) n (linkF.all (zbF k n))∧w.grownBy w' (some g):=by
 have hl:l.length=n:=(zB (F:=linkF) hown).size;go_enter Tryz.func40,Tryz.ntmps40;go_wp2
 go_loopw [1,5] (fun m i wr=>∃j:Nat,j≤n∧i=.int .i64 j∧m=.int .i64 (k+4*j)∧wr.ownsRow base 98 4 (.slice (some ⟨g,0,none⟩) n cap) n (linkF.all (zbF k j++l.drop j))∧w.grownBy wr (some g)) (fun _ i _=>n - (intOf i).toNat)
 case atStart=>exact ⟨0,Nat.zero_le _,rfl,by simp,by simpa [zbF] using hown,World.grownBy.refl _ _⟩
 case round =>
  obtain ⟨j,hj,rfl,rfl,how,hg⟩:=hrel;by_cases hlt:j < n
  ·obtain ⟨x,hx⟩:∃x,l[j]?=some x:=⟨l[j]'(by omega),List.getElem?_eq_getElem (by omega)⟩;have hdr:l.drop j=x::l.drop (j+1):=by
    obtain ⟨h,rfl⟩:=List.getElem?_eq_some_iff.1 hx;exact List.drop_eq_getElem_cons h
   rw [hdr] at how;have hlj:=zfN k j;have hz:(zbF k j++x::l.drop (j+1))[j]?=some x:=by rw [List.getElem?_append_right (by omega),hlj,Nat.sub_self]; rfl
   obtain ⟨⟨t0,t1,t2,t3⟩,f0,f1,f2,f3⟩:=ze9 how hz;have o3:=zis (y:=zfb (k+4*j)) how;rw [hlj] at o3;have HO3:=hide o3;have HG:=hide (zz hg (zgu (w:=wr) (g:=g) (j:=j*4) (y:=zfb (k+4*j))));have HM:=hide (zhA k j);have hm:0≤k+4*(j:Int)∧k+4*(j:Int)≤2199023255552:=by omega
   clear how hg hown o3 hz hdr;generalize hK:k+4*(j:Int)=K at *;go_wp2
   go_roundw
   case rel=>exact ⟨j+1,by omega,by go_num,by simp; omega,by rw [HM.out,List.append_assoc]; exact HO3.out,HG.out⟩
   case measure=>simp [intOf]; omega
  ·have hj':j=n:=by omega
   subst hj';rw [List.drop_eq_nil_of_le (by omega),List.append_nil] at how;have HO:=hide how;clear how hown;go_wp2;go_ret;exact ⟨rfl,HO.out,hg⟩

theorem zfM (k:Int) (c:Nat) (w:World) :
  Calls Tryz.prog 40 #[.slice none 0 c,.int .i64 k] w fun r w'=>r=.returned (.int .i64 k)∧w'=w:=by
 go_enter Tryz.func40,Tryz.ntmps40;go_wp2
 go_loop [1,5] (fun m i=>m=.int .i64 k∧i=.int .i64 0) (fun _ _=>0)
 case atStart=>exact ⟨rfl,rfl⟩
 case round =>
  obtain ⟨rfl,rfl⟩:=hrel;go_wp2;go_ret;exact ⟨rfl,rfl⟩

theorem zeq (base:Nat) (ao:Option Addr) (n cap:Nat) (l:List LK) (k:Int) (w:World) (hown:w.ownsRow base 98 4 (.slice ao n cap) n (linkF.all l)) (hn:n≤16777216) (hk0:0≤k) (hk1:k≤1099511627776) :
  Calls Tryz.prog 40 #[.slice ao n cap,.int .i64 k] w fun r w'=>r=.returned (.int .i64 (k+4*n))∧w'.ownsRow base 98 4 (.slice ao n cap) n (linkF.all (zbF k n))∧w.grownBy w' (Value.slice ao n cap).ownBlock:=by
 rcases hown.2 with ⟨e,h0⟩ | ⟨g,cap',cur,e,-⟩
 ·cases e;refine (zfM k 0 w).mono ?_;rintro r w' ⟨rfl,rfl⟩;exact ⟨by simp,by simpa [zbF,Flat.all] using World.ownsRow_nil w' base 98 4,World.grownBy.refl _ _⟩
 ·cases e;exact zgB base g n cap l k w hown hn hk0 hk1

theorem zfz (ao:Option Addr) (n cap:Nat) (k:Int) (w:World) (h1:GRow linkF w ao n cap (zbF k n)) (hn:n≤16777216) (hk0:0≤k) (hk1:k≤1099511627776) :
  Calls Tryz.prog 43 #[.slice ao n cap,.int .i64 k] w fun r w'=>r=.returned (.int .i64 (k+4*n))∧Below w.heap.size w w':=by
 go_enter Tryz.func43,Tryz.ntmps43;go_wp2
 go_loopw [1,5] (fun m i wr=>∃j:Nat,j≤n∧i=.int .i64 j∧m=.int .i64 (k+4*j)∧Below w.heap.size w wr) (fun _ i _=>n - (intOf i).toNat)
 case atStart=>exact ⟨0,Nat.zero_le _,rfl,by simp,Below.refl _ _⟩
 case round =>
  obtain ⟨j,hj,rfl,rfl,hb⟩:=hrel;by_cases hlt:j < n
  ·obtain ⟨x,b,off,hx,rfl,c0,c1,c2,c3⟩:=zaw (h1.below hb) j hlt;rw [zj0 k n j hlt] at hx;cases hx;have hm:0≤k+4*(j:Int)∧k+4*(j:Int)≤2199023255552:=by omega
   unfold zfb at c0 c1 c2 c3;generalize hK:k+4*(j:Int)=K at *;go_wp2
   go_roundw
   case rel=>exact ⟨j+1,by omega,by go_num,by simp; omega,hb⟩
   case measure=>simp [intOf]; omega
  ·have hj':j=n:=by omega
   subst hj';go_wp2;go_ret;exact ⟨rfl,hb⟩

theorem zgC (k:Int) (c:Nat) (w:World) :
  Calls Tryz.prog 41 #[.slice none 0 c,.int .i64 k] w fun r w'=>r=.returned (.int .i64 k)∧w'=w:=by
 go_enter Tryz.func41,Tryz.ntmps41;go_wp2
 go_loop [1,5] (fun m i=>m=.int .i64 k∧i=.int .i64 0) (fun _ _=>0)
 case atStart=>exact ⟨rfl,rfl⟩
 case round =>
  obtain ⟨rfl,rfl⟩:=hrel;go_wp2;go_ret;exact ⟨rfl,rfl⟩

def byB (zs:List Int):ByteArray:=⟨(zs.map fun z=>UInt8.ofNat z.toNat).toArray⟩

theorem zie (zs:List Int):(byB zs).size=zs.length:=by
 show (zs.map fun z=>UInt8.ofNat z.toNat).toArray.size=_
 rw [List.size_toArray,List.length_map]

theorem zjo {z:Int} (h:0≤z∧z≤255):((UInt8.ofNat z.toNat).toNat:Int)=z:=by
 rw [UInt8.toNat_ofNat'];omega

theorem zkJ (dst:TypeId) (w:World) (ao:Option Addr) (l c:Nat) (zs:List Int) (h:Row w ao l c zs) (hd:Tryz.prog.underlying dst=some .string):(convert 182 dst (.slice ao l c)).run Tryz.prog w=.ok (.string (byB zs)) w:=by
 have hl:(zs.map fun z=>UInt8.ofNat z.toNat).length=l:=by rw [List.length_map]; exact h.size
 rcases ao with _ | a
 ·obtain ⟨rfl,rfl⟩:=h.none_zero rfl;have hz:zs=[]:=List.eq_nil_of_length_eq_zero h.size;subst hz;rw [run_convert_bytes_string w 182 dst 5 none 0 0 Tryz.underlying182 Tryz.underlying5 hd]
  rfl
 ·have:=run_convert_bytes_back (P:=Tryz.prog) w 182 dst 5 a c (zs.map fun z=>UInt8.ofNat z.toNat) Tryz.underlying182 Tryz.underlying5 hd (by
   intro j hj;have hj':j < zs.length:=by simpa using hj
   rw [h.news a rfl j _ (zlq zs j hj')];have hb:=zjJ h.byte j;have e:(zs.map fun z=>UInt8.ofNat z.toNat)[j]=UInt8.ofNat (zs.getD j 0).toNat:=by simp [List.getD_eq_getElem?_getD,hj']
   rw [e,zjo hb])
  rw [hl] at this;exact this

def mtF:Nat→Nat→ByteArray→ByteArray
 | 0,_,out=>out
 | f+1,k,out=>if k=0 then out else mtF f (k / 10) (byB [((48+k % 10:Nat):Int)]++out)
def mtx (k:Int):ByteArray:=⟨#[109]⟩++mtF 20 k.toNat ⟨#[]⟩

theorem zk7 (f:Nat) (out:ByteArray):mtF f 0 out=out:=by cases f <;> simp [mtF]

structure MT (k:Int) (m:Nat) (out:ByteArray):Prop where
 f:∃f,mtF f m out=mtF 20 k.toNat ⟨#[]⟩∧m < 10 ^ f∧out.size+f≤20

theorem MT.next {k:Int} {m:Nat} {out:ByteArray} (h:MT k m out) (hm:0 < m):MT k (m / 10) (byB [((48+m % 10:Nat):Int)]++out):=by
 obtain ⟨f,h1,h2,h3⟩:=h.f;cases f with
 | zero=>simp at h2; omega
 | succ f =>
  refine ⟨f, ?_, ?_, ?_⟩
  ·rw [← h1]
   conv=>rhs; unfold mtF
   rw [if_neg (by omega)]
  ·rw [Nat.pow_succ] at h2; omega
  ·rw [ByteArray.size_append,zie]; simp; omega
theorem MT.done {k:Int} {out:ByteArray} (h:MT k 0 out):⟨#[109]⟩++out=mtx k:=by
 obtain ⟨f,h1,-,-⟩:=h.f;rw [zk7] at h1;unfold mtx;rw [h1]
theorem MT.small {k:Int} {m:Nat} {out:ByteArray} (h:MT k m out):out.size≤20:=by
 obtain ⟨f,-,-,h3⟩:=h.f; omega

theorem zdI (k:Int) (w:World) (h0:0 < k) (h1:k≤1099511627776) :
  Calls Tryz.prog 82 #[.int .i64 k] w fun e w'=>e=.returned (.string (mtx k))∧(mtx k).size≤21∧Below w.heap.size w w':=by
 have hstart:MT k k.toNat ⟨#[]⟩:=⟨20,rfl,by omega,by simp [ByteArray.size]⟩;have hk0:¬k≤0:=by omega
 go_enter Tryz.func82,Tryz.ntmps82;go_wp2
 go_loopw [0,3] (fun x s wr=>∃(m:Nat) (out:ByteArray),x=.int .i64 m∧s=.string out∧(m:Int)≤k∧MT k m out∧Below w.heap.size w wr) (fun x _ _=>(intOf x).toNat)
 case atStart=>exact ⟨k.toNat,⟨#[]⟩,by rw [Int.toNat_of_nonneg (by omega)],rfl,by omega,hstart,Below.refl _ _⟩
 case round =>
  obtain ⟨m,out,rfl,rfl,hmk,hmt,hb⟩:=hrel;have hsm:=hmt.small;by_cases hm:0 < m
  ·have hnx:=hmt.next hm;have hw0:(m:Int).tdiv 10=((m / 10:Nat):Int):=by rw [Int.tdiv_eq_ediv_of_nonneg (by omega)]; omega
   have hw1:(m:Int).tmod 10=((m % 10:Nat):Int):=by rw [Int.tmod_eq_emod_of_nonneg (by omega)]; omega
   have hd:m % 10 < 10:=Nat.mod_lt _ (by omega);have hcv:=zkJ 9 (wr.alloc (.cells #[.int .u8 ((48+m % 10:Nat):Int)] 5)) (some ⟨wr.heap.size,0,none⟩) 1 1 [((48+m % 10:Nat):Int)] (zlT wr _ (by omega)) Tryz.underlying9;have hbs:(byB [((48+m % 10:Nat):Int)]).size=1:=zie _;have HB:=hide (hb.trans ((zl wr (.cells #[.int .u8 ((48+m % 10:Nat):Int)] 5)).mono hb.size));have HN:=hide hnx;clear hb hnx hstart hmt;generalize hD:((48+m % 10:Nat):Int)=D at *;have hD':48+((m % 10:Nat):Int)=D:=by rw [← hD]; omega
   generalize ((m % 10:Nat):Int)=r at *;generalize hq:m / 10=q at *;go_wp2
   go_roundw
   case rel=>exact ⟨q,_,rfl,rfl,by omega,HN.out,HB.out⟩
   case measure=>simp [intOf]; omega
  ·have hm0:m=0:=by omega
   subst hm0;have HD:=hide hmt.done;have hsz:(ByteArray.mk #[109]++out).size≤21:=by rw [ByteArray.size_append]; have:(ByteArray.mk #[109]).size=1:=rfl; omega
   have HS:=hide hsz;clear hsz hmt;go_wp2;go_ret;exact ⟨by rw [← HD.out]; rfl,by rw [← HD.out]; exact HS.out,hb⟩

theorem zlB {e:FE} (h:entOk e=true):e.Rng:=by
 rw [zgd] at h;exact ⟨by omega,by omega,by omega,by omega⟩

end Go.Proofs.YtpaneiaflfegoaaGreat
