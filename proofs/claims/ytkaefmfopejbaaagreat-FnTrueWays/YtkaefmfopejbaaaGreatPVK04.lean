/-
  Packed: MapEnt FdbKeys PtRole PtSends GTake BrLess JoinM NetMarkL TextRow MarkText Draw Drawb PickBlk EvMem FdbEnt Big.
-/
import Derived.Test.YtkaefmfopejbaaaGreatPVK03
import Derived.Laws.IdiomStrings
namespace Go.Proofs.YtkaefmfopejbaaaGreat
set_option maxRecDepth 100000
set_option maxHeartbeats 16000000
open Go.RowKit

section
open Go.RowKit Go.ChangeMaps Go.MapKept
open Go.WideElems (Fit rd rd_mk rd_key other_key)
open Go.Maps (Keyed)

variable {P:Program} {α β:Type}

theorem zip [DecidableEq α] {γ:Type} {g:α→γ} {a:α} {v:γ} (h:g a=v):upd g a v=g:=by
 funext x
 by_cases e:x=a
 ·subst e; rw [zaq,h]
 ·rw [zY g _ e]

theorem zhF [DecidableEq α] {γ:Type} (g:α→γ) (a:α) (u v:γ):upd (upd g a u) a v=upd g a v:=by
 funext x
 by_cases e:x=a
 ·subst e; rw [zaq,zaq]
 ·rw [zY _ _ e,zY _ _ e,zY _ _ e]

theorem zg4 [DecidableEq α] {M:MK P α β} {n:Nat} {es:Array MapEntry} {clock:Nat} {g:α→Option β} (he:Ents M es clock n g) (hn:n < maxLen) {a:α} (ha:M.ok a) (v:β) (h2:∀x∈es.toList,x.key≠M.kv a) :
  Ents M (es.push ⟨M.kv a,M.vv v,clock⟩) (clock+1) (n+1) (upd g a (some v)):=by
 obtain ⟨kl,hkey⟩:=M.key a ha;have hsz:=he.size;refine ⟨⟨by simp; omega,stamped_push he.fit.stamped h2, ?_⟩,by simp; omega, ?_, ?_⟩
 ·intro x hx;simp only [Array.toList_push,List.mem_append,List.mem_singleton] at hx;rcases hx with hx | rfl
  ·exact he.fit.reads x hx
  ·exact ⟨_,rd_mk (R:=rdAny) hkey rfl⟩
 ·intro x hx;simp only [Array.toList_push,List.mem_append,List.mem_singleton] at hx;rcases hx with hx | rfl
  ·obtain ⟨a',v',h4,h5,h6,h7⟩:=he.down x hx;refine ⟨a',v',h4,h5,h6, ?_⟩;rw [zY g _ (fun e=>h2 x hx (by rw [h5,e]))];exact h7
  ·exact ⟨a,v,ha,rfl,rfl,zaq g a _⟩
 ·intro a' v' h4;by_cases e:a'=a
  ·subst e;rw [zaq] at h4;cases h4;exact ⟨⟨M.kv a',M.vv v,clock⟩,by simp,rfl,rfl⟩
  ·rw [zY g _ e] at h4;obtain ⟨x,hx,h5,h6⟩:=he.up a' v' h4;exact ⟨x,by simp only [Array.toList_push,List.mem_append]; exact .inl hx,h5,h6⟩

theorem zhU [DecidableEq α] {M:MK P α β} {n:Nat} {es:Array MapEntry} {clock:Nat} {g:α→Option β} (he:Ents M es clock n g) {j:Nat} {e0:MapEntry} (h2:es.toList[j]? = some e0) {a:α} (ha:M.ok a) (h3:e0.key=M.kv a) (v:β) :
  Ents M (es.modify j (fun e'=>{ e' with val:=M.vv v })) clock n (upd g a (some v)):=by
 obtain ⟨kl,hkey⟩:=M.key a ha;have hjl:j < es.toList.length:=(List.getElem?_eq_some_iff.1 h2).1;have hlist:(es.modify j (fun e'=>{ e' with val:=M.vv v })).toList=es.toList.set j { e0 with val:=M.vv v }:=by rw [Array.toList_modify,modify_eq_set _ _ _ _ h2]
 have who:∀x∈es.toList.set j { e0 with val:=M.vv v },x={ e0 with val:=M.vv v }∨(x∈es.toList∧x.key≠M.kv a):=by
  intro x hx;obtain ⟨i,hi,ex⟩:=List.getElem_of_mem hx;rw [List.getElem_set] at ex
  split at ex
  ·exact Or.inl ex.symm
  ·rename_i hne
   have hi':i < es.toList.length:=by simpa using hi
   refine Or.inr ⟨ex▸List.getElem_mem hi', ?_⟩;rw [← h3];exact other_key he.fit h2 (by rw [List.getElem?_eq_getElem hi',ex]) (fun e1=>hne e1.symm)
 refine ⟨⟨by simpa using he.fit.size,stamped_modify he.fit.stamped _ _ (fun _ _=>rfl) (fun _ _ _=>rfl), ?_⟩,by simpa using he.size, ?_, ?_⟩
 ·intro x hx;rw [hlist] at hx;rcases who x hx with rfl | ⟨hx',_⟩
  ·exact ⟨_,rd_mk (R:=rdAny) (key:=e0.key) (by rw [h3]; exact hkey) rfl⟩
  ·exact he.fit.reads x hx'
 ·intro x hx;rw [hlist] at hx;rcases who x hx with rfl | ⟨hx',hne⟩
  ·exact ⟨a,v,ha,h3,rfl,zaq g a _⟩
  ·obtain ⟨a',v',h4,h5,h6,h7⟩:=he.down x hx';refine ⟨a',v',h4,h5,h6, ?_⟩;rw [zY g _ (fun e=>hne (by rw [h5,e]))];exact h7
 ·intro a' v' h4;rw [hlist];by_cases e:a'=a
  ·subst e;rw [zaq] at h4;cases h4;exact ⟨{ e0 with val:=M.vv v },List.mem_iff_getElem.2 ⟨j,by simpa using hjl,by simp⟩,h3,rfl⟩
  ·rw [zY g _ e] at h4;obtain ⟨x,hx,h5,h6⟩:=he.up a' v' h4;obtain ⟨i,hi,ex⟩:=List.getElem_of_mem hx;have hij:j≠i:=by
    intro e1;subst e1;rw [List.getElem?_eq_getElem hi] at h2;cases h2;rw [ex] at h3;exact e (M.inj _ _ (h5.symm.trans h3))
   exact ⟨x,List.mem_iff_getElem.2 ⟨i,by simpa using hi,by rw [List.getElem_set_ne hij]; exact ex⟩,h5,h6⟩

theorem zdk [DecidableEq α] {M:MK P α β} {w:World} {b n:Nat} {es:Array MapEntry} {clock:Nat} {g:α→Option β} (hb:w.heap[b]? = some (.map es clock)) (he:Ents M es clock n g) {x:MapEntry} (hx:x∈es.toList) {a:α} (ha:M.ok a) (hk:x.key=M.kv a) (v:β) :
  ∃w2,(Instr.entryStore M.T (.map (some b)) (.int .i64 x.born) (M.vv v)).run P w=.ok () w2∧MapIs M w2 b n (upd g a (some v))∧w.grownBy w2 (some b)∧w2.heap.size=w.heap.size:=by
 have hst:=(stamped_iff es clock).1 he.fit.stamped;cases hf:es.findIdx? (fun e=>(e.born:Int) == (x.born:Int)) with
 | none =>
  rw [Array.findIdx?_eq_none_iff] at hf
  have:=hf x (by simpa using hx)
  simp at this
 | some j =>
  obtain ⟨hj,hp,-⟩:=Array.findIdx?_eq_some_iff_getElem.1 hf;have hj2:es.toList[j]? = some es[j]:=by simp [hj]
  have hbn:es[j].born=x.born:=by
   have h9:(es[j].born:Int)=(x.born:Int):=by simpa using hp
   omega
  have hex:es[j]=x:=born_inj hst.2.1 (List.mem_of_getElem? hj2) hx hbn;have hk2:es[j].key=M.kv a:=by rw [hex]; exact hk
  refine ⟨setBlock w b (.map (es.modify j (fun e'=>{ e' with val:=M.vv v })) clock), ?_,⟨_,_,heap_setBlock_same hb _,zhU he hj2 ha hk2 v⟩,⟨rfl,rfl,rfl,by simp [setBlock],fun i _ hi=>heap_setBlock_other hb _ (fun e=>hi (by rw [e]))⟩,by simp [setBlock]⟩
  simp [Instr.entryStore,MapKept.run_getObj_map hb,asInt,asIntOf,hf,MapKept.run_setObj_map _ hb,Result.andThen,setBlock]

theorem zfE {es:Array MapEntry} {j:Nat} {e0:MapEntry} {key:Value} (h2:es.toList[j]? = some e0) (h3:e0.key=key):es.modify j (fun e'=>{ e' with key:=key })=es:=by
 apply Array.toList_inj.1
 rw [Array.toList_modify,modify_eq_set _ _ _ _ h2];have hjl:j < es.toList.length:=(List.getElem?_eq_some_iff.1 h2).1
 have:({ e0 with key:=key }:MapEntry)=es.toList[j]:=by
  rw [List.getElem?_eq_getElem hjl] at h2;cases h2;subst h3
  rfl
 rw [this];exact List.set_getElem_self _

theorem MapIs.entry [DecidableEq α] {M:MK P α β} {w:World} {b n:Nat} {g:α→Option β} (h:MapIs M w b n g) (hn:n < maxLen) {a:α} (ha:M.ok a) :
  ∃w1 st,(Instr.mapEntry M.T (.map (some b)) (M.kv a)).run P w=.ok (.tuple #[M.vv ((g a).getD M.z),.int .i64 st]) w1∧MapIs M w1 b (n+1) (upd g a (some ((g a).getD M.z)))∧w.grownBy w1 (some b)∧w1.heap.size=w.heap.size ∧
   ∀v,∃w2,(Instr.entryStore M.T (.map (some b)) (.int .i64 st) (M.vv v)).run P w1=.ok () w2∧MapIs M w2 b (n+1) (upd g a (some v))∧w1.grownBy w2 (some b)∧w2.heap.size=w1.heap.size:=by
 obtain ⟨es,clock,hb,he⟩:=h;obtain ⟨kl,hkey⟩:=M.key a ha;rcases M.law.find w hkey es.toList he.fit.keys with ⟨h1,h2⟩ | ⟨j,e0,h1,h2,h3⟩
 ·have hg:g a=none:=by
   cases hga:g a with
   | none=>rfl
   | some u =>
    obtain ⟨x,hx,hk,_⟩:=he.up a u hga;exact absurd hk (h2 x hx)
  have he1:=zg4 he hn ha M.z h2;rw [hg];refine ⟨setBlock w b (.map (es.push ⟨M.kv a,M.vv M.z,clock⟩) (clock+1)),clock, ?_,⟨_,_,heap_setBlock_same hb _,he1⟩,⟨rfl,rfl,rfl,by simp [setBlock],fun i _ hi=>heap_setBlock_other hb _ (fun e=>hi (by rw [e]))⟩,by simp [setBlock], ?_⟩
  ·simp [Instr.mapEntry,run_underlying M.und,MapKept.run_getObj_map hb,M.law.check w false hkey,h1,M.zero,MapKept.run_setObj_map _ hb,Result.andThen,setBlock,goInt]
  ·intro v;obtain ⟨w2,r1,r2,r3,r4⟩:=zdk (heap_setBlock_same hb _) he1 (x:=⟨M.kv a,M.vv M.z,clock⟩) (by simp) ha rfl v;rw [zhF] at r2;exact ⟨w2,r1,r2,r3,r4⟩
 ·have hm0:=List.mem_of_getElem? h2;obtain ⟨v0,hv0,hg⟩:=zej he hm0 h3;have hj:es[j]? = some e0:=by simpa using h2
  rw [hg];simp only [Option.getD_some];rw [zip hg];refine ⟨setBlock w b (.map es clock),e0.born, ?_,⟨es,clock,heap_setBlock_same hb _,⟨he.fit,Nat.le_trans he.size (Nat.le_succ n),he.down,he.up⟩⟩,⟨rfl,rfl,rfl,by simp [setBlock],fun i _ hi=>heap_setBlock_other hb _ (fun e=>hi (by rw [e]))⟩,by simp [setBlock], ?_⟩
  ·simp [Instr.mapEntry,run_underlying M.und,MapKept.run_getObj_map hb,M.law.check w false hkey,h1,hj,h3,M.law.stays w hkey,zfE h2 h3,hv0,MapKept.run_setObj_map _ hb,Result.andThen,setBlock,goInt]
  ·intro v;obtain ⟨w2,r1,r2,r3,r4⟩:=zdk (heap_setBlock_same hb _) (n:=n+1) ⟨he.fit,Nat.le_trans he.size (Nat.le_succ n),he.down,he.up⟩ hm0 ha h3 v;exact ⟨w2,r1,r2,r3,r4⟩

end

abbrev FK:=Int × Int × Int

def cnt (l:List FE) (t m:Int):Int:=((l.filter (fun e=>both e t m)).length:Int)

def keyIn (pre:List FE) (x:FE):FK:=(x.t,x.m,cnt pre x.t x.m)

def ziB:List FE→List FE→List FK
 | _,[]=>[]
 | pre,x::r=>keyIn pre x::ziB (pre++[x]) r

def ziz (g:FK→Option FE):List FE→List FE→FK→Option FE
 | _,[]=>g
 | pre,x::r=>ziz (upd g (keyIn pre x) (some x)) (pre++[x]) r

def keysOf (l:List FE):List FK:=ziB [] l
def entsOf (l:List FE):FK→Option FE:=ziz (fun _=>none) [] l

abbrev q215:Oper:=⟨some 34,.move (.tmp 1),38,"l10_role.go:47",#[],none⟩
abbrev q216:Oper:=⟨some 35,.move (.tmp 2),3,"l10_role.go:47",#[],none⟩
abbrev q217:Oper:=⟨some 36,.indexAddr 38 (.tmp 34) (.tmp 35),0,"l10_role.go:47",#[⟨0,.data⟩,⟨1,.data⟩],none⟩
abbrev q218:Oper:=⟨some 37,.fieldAddr 53 (.tmp 36) 2,0,"l10_role.go:47",#[⟨2,.data⟩],none⟩
abbrev q219:Oper:=⟨some 38,.load 4 (.tmp 37),4,"l10_role.go:47",#[⟨3,.data⟩],none⟩
abbrev q220:Oper:=⟨some 39,.unOp .not 4 (.tmp 38),4,"l10_role.go:47",#[⟨4,.data⟩],none⟩
abbrev q221:Oper:=⟨some 40,.move (.tmp 39),4,"l10_role.go:47",#[⟨5,.data⟩],none⟩
abbrev q222:Oper:=⟨some 41,.move (.tmp 0),3,"l10_role.go:47",#[⟨6,.guard⟩],some (6,false)⟩
abbrev q223:Oper:=⟨some 42,.move (.tmp 1),38,"l10_role.go:47",#[⟨6,.guard⟩],some (6,false)⟩
abbrev q224:Oper:=⟨some 43,.move (.tmp 2),3,"l10_role.go:47",#[⟨6,.guard⟩],some (6,false)⟩
abbrev q225:Oper:=⟨some 44,.call ⟨.value (.func 90),#[.tmp 41,.tmp 42,.tmp 43],#[3,38,3]⟩,51,"l10_role.go:47",#[⟨7,.data⟩,⟨8,.data⟩,⟨9,.data⟩,⟨6,.chain⟩,⟨6,.guard⟩],some (6,false)⟩
abbrev q226:Oper:=⟨some 45,.move (.tmp 1),38,"l10_role.go:47",#[⟨6,.guard⟩],some (6,false)⟩
abbrev q227:Oper:=⟨some 46,.move (.tmp 2),3,"l10_role.go:47",#[⟨6,.guard⟩],some (6,false)⟩
abbrev q228:Oper:=⟨some 47,.indexAddr 38 (.tmp 45) (.tmp 46),0,"l10_role.go:47",#[⟨11,.data⟩,⟨12,.data⟩,⟨6,.guard⟩],some (6,false)⟩
abbrev q229:Oper:=⟨some 48,.fieldAddr 53 (.tmp 47) 3,0,"l10_role.go:47",#[⟨13,.data⟩,⟨6,.guard⟩],some (6,false)⟩
abbrev q230:Oper:=⟨some 49,.load 51 (.tmp 48),51,"l10_role.go:47",#[⟨14,.data⟩,⟨6,.guard⟩],some (6,false)⟩
abbrev q231:Oper:=⟨some 50,.call ⟨.value (.func 154),#[.tmp 44,.tmp 49],#[51,51]⟩,4,"l10_role.go:47",#[⟨10,.data⟩,⟨15,.data⟩,⟨10,.chain⟩,⟨6,.guard⟩],some (6,false)⟩
abbrev q232:Oper:=⟨some 51,.pick (.tmp 40) (.const (.bool true)) (.tmp 50),4,"l10_role.go:47",#[⟨6,.data⟩,⟨16,.data⟩],none⟩
abbrev q233:Oper:=⟨some 33,.assign (.tmp 51),4,"l10_role.go:47",#[⟨17,.data⟩,⟨16,.chain⟩],none⟩

theorem zaX (id:Int) (a:Option Addr) (n c:Nat) (l:List PT) (port:Int) (w:World) (h:GRow ptF w a n c l) :
  Calls Tryz.prog 90 #[.int .i64 id,.slice a n c,.int .i64 port] w fun e w'=>e=.returned (.agg #[.int .i64 (sayV id l port).r,.int .i64 (sayV id l port).c,.int .i64 (sayV id l port).h,.int .i64 (sayV id l port).b,.int .i64 (sayV id l port).p])∧Below w.heap.size w w':=by
 generalize hw1:w.alloc (Obj.cells #[.int .i64 0,.int .i64 0,.int .i64 0,.int .i64 0,.int .i64 0] 51)=w1;have q1:=zb hw1;have k1:=zk hw1;have hsb:(sayV id l port)=⟨(bestV id (zae id l)).r,(bestV id (zae id l)).c,(bestV id (zae id l)).h,(bestV id (zae id l)).b,port⟩:=by
  unfold sayV;cases zae id l <;> rfl
 rw [hsb];clear hsb;go_enter Tryz.func90,Tryz.ntmps90;go_wp2_with fail
 refine (zba id a n c l _ (h.below q1)).mono ?_;rintro e w2 ⟨rfl,hb2⟩;generalize hv:bestV id (zae id l)=v;have HV:=hide hv;clear hv;generalize hw3:w2.alloc (Obj.cells #[.int .i64 v.r,.int .i64 v.c,.int .i64 v.h,.int .i64 v.b,.int .i64 v.p] 51)=w3;have hb3:=zb hw3;have k3:=zk hw3;have k1:=za (za k1 hb2) hb3;have lt1:=(Array.getElem?_eq_some_iff.1 (za (by rw [← hw1]; exact zT _ _:w1.heap[w.heap.size]? = some (.cells #[.int .i64 0,.int .i64 0,.int .i64 0,.int .i64 0,.int .i64 0] 51)) hb2)).1;have ne1:¬w2.heap.size=w.heap.size:=by omega
 have ne2:¬w.heap.size=w2.heap.size:=by omega
 have HB:=hide (zau (zy (zc (zc q1 hb2) hb3) (g:=w2.heap.size) (by omega) 4 (.int .i64 port)) (Nat.le_refl w.heap.size) (.int .i64 v.r) (.int .i64 v.c) (.int .i64 v.h) (.int .i64 v.b) (.int .i64 port));obtain ⟨⟨x0,x1,x2,x3,x4⟩,y0,y1,y2,y3,y4⟩:=zZ k3;obtain ⟨⟨r0,r1,r2,r3,r4⟩,z0,z1,z2,z3,z4⟩:=zZ k1;clear hb2 hb3 k1 k3 q1 lt1;go_wp2;exact bodyPost_ret (v:=.agg #[.int .i64 v.r,.int .i64 v.c,.int .i64 v.h,.int .i64 v.b,.int .i64 port]) (by simp [results,Tryz.results90,go_sem, *]) rfl ⟨(by rw [HV.out]),HB.out⟩

theorem ze4 (id:Int) (a:Option Addr) (n c:Nat) (l:List PT) (port:Int) (w:World) (h:GRow ptF w a n c l) :
  Calls Tryz.prog 163 #[.int .i64 id,.slice a n c,.int .i64 port] w fun e w'=>e=.returned (.int .i64 (za1 id l port))∧Below w.heap.size w w':=by
 have hle:=h.le;have htop:=h.top;unfold maxLen at htop;have hsz:=hide h.size;cases hin:(decide (0≤port) && decide (port≤(n:Int) - 1))
 ·have HIN:=hide hin;have HR:Hid (za1 id l port=4):=hide (by unfold za1; rw [hsz.out,hin]; rfl);clear hin;go_enter Tryz.func163,Tryz.ntmps163;(go_wp2_with fail);refine (zf port 0 ((n:Int) - 1) _).mono ?_;rintro e w1 ⟨rfl,ew⟩;obtain rfl:=ew.symm;rw [HIN.out];go_wp2;go_ret;exact ⟨(by rw [HR.out]; rfl),Below.refl _ _⟩
 obtain ⟨k,rfl⟩:∃k:Nat,port=(k:Int):=⟨port.toNat,by simp at hin; omega⟩;have hlt:k < n:=by simp at hin; omega
 have HIN:=hide hin;have i1:(0:Int)≤(k:Int):=by omega
 have i2:(k:Int) < (n:Int):=by omega
 obtain ⟨x,b,off,hx,rfl,c0,c1,c2,c3,c4,c5,c6,c7⟩:=pt_at h k hlt;have hro:za1 id l (k:Int)=zd7 id l k x:=by
  unfold za1;rw [hsz.out,hin]
  simp [hx]
 have HRO:=hide hro;clear hin hro;cases hu:x.up
 ·rw [hu] at c0;have HR:Hid (za1 id l (k:Int)=4):=hide (by rw [HRO.out]; unfold zd7; rw [if_pos hu]);clear hu c1 c2 c3 c4 c5 c6 c7 hx;go_enter Tryz.func163,Tryz.ntmps163;(go_wp2_with fail);refine (zf (k:Int) 0 ((n:Int) - 1) _).mono ?_;rintro e w1 ⟨rfl,ew⟩;obtain rfl:=ew.symm;rw [HIN.out];go_wp2;go_ret;exact ⟨(by rw [HR.out]; rfl),Below.refl _ _⟩
 rw [hu] at c0;have HU:=hide hu;clear hu;by_cases hp:bestP (zae id l)=(k:Int)
 ·have HR:Hid (za1 id l (k:Int)=1):=hide (by rw [HRO.out]; unfold zd7; rw [if_neg (by rw [HU.out]; decide),if_pos hp]);have HP:=hide hp;clear c1 c2 c3 c4 c5 c6 c7 hx hp;go_enter Tryz.func163,Tryz.ntmps163;(go_wp2_with fail);refine (zf (k:Int) 0 ((n:Int) - 1) _).mono ?_;rintro e w1 ⟨rfl,ew⟩;obtain rfl:=ew.symm;rw [HIN.out];(go_wp2_with fail);refine (zba id (some ⟨b,off,none⟩) n c l _ h).mono ?_;rintro e w2 ⟨rfl,hb2⟩;rw [HP.out];have HB:=hide (zc hb2 (zn _ (Obj.cells #[.int .i64 (bestV id (zae id l)).r,.int .i64 (bestV id (zae id l)).c,.int .i64 (bestV id (zae id l)).h,.int .i64 (bestV id (zae id l)).b,.int .i64 (bestV id (zae id l)).p] 51)));clear hb2 c0;go_wp2;go_ret;exact ⟨(by rw [HR.out]; rfl),HB.out⟩
 go_enter Tryz.func163,Tryz.ntmps163;go_wp2_with fail
 refine (zf (k:Int) 0 ((n:Int) - 1) _).mono ?_;rintro e w1 ⟨rfl,ew⟩;obtain rfl:=ew.symm;rw [HIN.out];go_wp2_with fail
 refine (zba id (some ⟨b,off,none⟩) n c l _ h).mono ?_;rintro e w2 ⟨rfl,hb2⟩;generalize hw3:w2.alloc (Obj.cells #[.int .i64 (bestV id (zae id l)).r,.int .i64 (bestV id (zae id l)).c,.int .i64 (bestV id (zae id l)).h,.int .i64 (bestV id (zae id l)).b,.int .i64 (bestV id (zae id l)).p] 51)=w3;have HB:Hid (Below w.heap.size w w3):=hide (zc hb2 (by rw [← hw3]; exact zn _ _));clear hb2 c0 c1 c2 c3 c4 c5 c6 c7;obtain ⟨x',b',off',hx',ha',c0,c1,c2,c3,c4,c5,c6,c7⟩:=pt_at (h.below HB.out) k hlt;rw [hx] at hx';cases hx';cases ha';generalize hP:bestP (zae id l)=P at *;have hPne:(P == (k:Int))=false:=by simp [hp]
 have HX:=hide hx;have vv:Below w3.heap.size w3 w3.drew:=zG (Below.refl _ _);have HR0:Hid (za1 id l (k:Int)=(if (!x.has || lessV (sayV id l (k:Int)) x.v)=true then 2 else 3)):=hide (by rw [HRO.out]; unfold zd7; rw [if_neg (by rw [HU.out]; decide),hP,if_neg hp]);clear c0 c1 hx hP;cases hh:x.has
 ·rw [hh] at c2;have HR:Hid (za1 id l (k:Int)=2):=hide (by rw [HR0.out,hh]; rfl);have HSS:Hid (∀W',Below w3.heap.size w3 W'→zcc W' b (off+k*8+2) (.bool false)∧zcc W' b (off+k*8+3) (.int .i64 x.v.r)∧zcc W' b (off+k*8+4) (.int .i64 x.v.c)∧zcc W' b (off+k*8+5) (.int .i64 x.v.h)∧zcc W' b (off+k*8+6) (.int .i64 x.v.b)∧zcc W' b (off+k*8+7) (.int .i64 x.v.p)):=hide (fun W' hb=>⟨(hb.cell (zp c2)).trans c2,(hb.cell (zp c3)).trans c3,(hb.cell (zp c4)).trans c4,(hb.cell (zp c5)).trans c5,(hb.cell (zp c6)).trans c6,(hb.cell (zp c7)).trans c7⟩);clear c2 c3 c4 c5 c6 c7 hh;(go_wp2_with fail);refine wp_region_held_drew (S:=(fun W=>zcc W b (off+k*8+2) (.bool false)∧zcc W b (off+k*8+3) (.int .i64 x.v.r)∧zcc W b (off+k*8+4) (.int .i64 x.v.c)∧zcc W b (off+k*8+5) (.int .i64 x.v.h)∧zcc W b (off+k*8+6) (.int .i64 x.v.b)∧zcc W b (off+k*8+7) (.int .i64 x.v.p))) (by kernel_rfl) (HSS.out _ vv) (fun hHeld => ?_);refine kK 0 q215 ?_;refine kK 1 q216 ?_;refine kK 2 q217 ?_;refine kK 3 q218 ?_;refine kK 4 q219 ?_;refine kK 5 q220 ?_;refine kK 6 q221 ?_;refine kN 7 q222 ?_;refine kN 8 q223 ?_;refine kN 9 q224 ?_;refine kN 10 q225 ?_;refine kN 11 q226 ?_;refine kN 12 q227 ?_;refine kN 13 q228 ?_;refine kN 14 q229 ?_;refine kN 15 q230 ?_;refine kN 16 q231 ?_;refine kK 17 q232 ?_;refine kK 18 q233 ?_;refine wpAnyH_done (by kernel_rfl) ?_ _;clear hHeld;go_wp2;go_ret;exact ⟨(by rw [HR.out]; rfl),zc HB.out vv⟩
 ·rw [hh] at c2;have HSS:Hid (∀W',Below w3.heap.size w3 W'→zcc W' b (off+k*8+2) (.bool true)∧zcc W' b (off+k*8+3) (.int .i64 x.v.r)∧zcc W' b (off+k*8+4) (.int .i64 x.v.c)∧zcc W' b (off+k*8+5) (.int .i64 x.v.h)∧zcc W' b (off+k*8+6) (.int .i64 x.v.b)∧zcc W' b (off+k*8+7) (.int .i64 x.v.p)):=hide (fun W' hb=>⟨(hb.cell (zp c2)).trans c2,(hb.cell (zp c3)).trans c3,(hb.cell (zp c4)).trans c4,(hb.cell (zp c5)).trans c5,(hb.cell (zp c6)).trans c6,(hb.cell (zp c7)).trans c7⟩);clear c2 c3 c4 c5 c6 c7;cases hl:lessV (sayV id l (k:Int)) x.v
  ·have HR:Hid (za1 id l (k:Int)=3):=hide (by rw [HR0.out,hh,hl]; rfl);have HL:Hid (zbh (sayV id l (k:Int)).r (sayV id l (k:Int)).c (sayV id l (k:Int)).b (sayV id l (k:Int)).p x.v.r x.v.c x.v.b x.v.p=false):=hide hl;clear hh hl;(go_wp2_with fail);refine wp_region_held_drew (S:=(fun W=>zcc W b (off+k*8+2) (.bool true)∧zcc W b (off+k*8+3) (.int .i64 x.v.r)∧zcc W b (off+k*8+4) (.int .i64 x.v.c)∧zcc W b (off+k*8+5) (.int .i64 x.v.h)∧zcc W b (off+k*8+6) (.int .i64 x.v.b)∧zcc W b (off+k*8+7) (.int .i64 x.v.p))) (by kernel_rfl) (HSS.out _ vv) (fun hHeld => ?_);refine kK 0 q215 ?_;refine kK 1 q216 ?_;refine kK 2 q217 ?_;refine kK 3 q218 ?_;refine kK 4 q219 ?_;refine kK 5 q220 ?_;refine kK 6 q221 ?_;refine kK 7 q222 ?_;refine kK 8 q223 ?_;refine kK 9 q224 ?_;refine kK 11 q226 ?_;refine kK 12 q227 ?_;refine kK 13 q228 ?_;refine kK 14 q229 ?_;refine kK 15 q230 ?_;refine kR 10 q225 (fun K hK => ?_);go_simp;refine (zaX id (some ⟨b,off,none⟩) n c l (k:Int) _ (h.below (zc HB.out vv))).mono ?_;rintro e wx ⟨rfl,hbx⟩;have vv:=zc vv hbx;clear hbx;(go_wp2_with fail);refine kO hK (HSS.out _ vv) fun hHeld => ?_
   clear hK K;refine kR 16 q231 (fun K hK => ?_);go_simp;refine (zaP (sayV id l (k:Int)).r (sayV id l (k:Int)).c (sayV id l (k:Int)).h (sayV id l (k:Int)).b (sayV id l (k:Int)).p x.v.r x.v.c x.v.h x.v.b x.v.p _).mono ?_;rintro e wx ⟨rfl,hbx⟩;rw [HL.out];have vv:=zc vv hbx;clear hbx;(go_wp2_with fail);refine kO hK (HSS.out _ vv) fun hHeld => ?_
   clear hK K;refine kK 17 q232 ?_;refine kK 18 q233 ?_;refine wpAnyH_done (by kernel_rfl) ?_ _;clear hHeld;go_wp2;go_ret;exact ⟨(by rw [HR.out]; rfl),zc HB.out vv⟩
  ·have HR:Hid (za1 id l (k:Int)=2):=hide (by rw [HR0.out,hh,hl]; rfl);have HL:Hid (zbh (sayV id l (k:Int)).r (sayV id l (k:Int)).c (sayV id l (k:Int)).b (sayV id l (k:Int)).p x.v.r x.v.c x.v.b x.v.p=true):=hide hl;clear hh hl;(go_wp2_with fail);refine wp_region_held_drew (S:=(fun W=>zcc W b (off+k*8+2) (.bool true)∧zcc W b (off+k*8+3) (.int .i64 x.v.r)∧zcc W b (off+k*8+4) (.int .i64 x.v.c)∧zcc W b (off+k*8+5) (.int .i64 x.v.h)∧zcc W b (off+k*8+6) (.int .i64 x.v.b)∧zcc W b (off+k*8+7) (.int .i64 x.v.p))) (by kernel_rfl) (HSS.out _ vv) (fun hHeld => ?_);refine kK 0 q215 ?_;refine kK 1 q216 ?_;refine kK 2 q217 ?_;refine kK 3 q218 ?_;refine kK 4 q219 ?_;refine kK 5 q220 ?_;refine kK 6 q221 ?_;refine kK 7 q222 ?_;refine kK 8 q223 ?_;refine kK 9 q224 ?_;refine kK 11 q226 ?_;refine kK 12 q227 ?_;refine kK 13 q228 ?_;refine kK 14 q229 ?_;refine kK 15 q230 ?_;refine kR 10 q225 (fun K hK => ?_);go_simp;refine (zaX id (some ⟨b,off,none⟩) n c l (k:Int) _ (h.below (zc HB.out vv))).mono ?_;rintro e wx ⟨rfl,hbx⟩;have vv:=zc vv hbx;clear hbx;(go_wp2_with fail);refine kO hK (HSS.out _ vv) fun hHeld => ?_
   clear hK K;refine kR 16 q231 (fun K hK => ?_);go_simp;refine (zaP (sayV id l (k:Int)).r (sayV id l (k:Int)).c (sayV id l (k:Int)).h (sayV id l (k:Int)).b (sayV id l (k:Int)).p x.v.r x.v.c x.v.h x.v.b x.v.p _).mono ?_;rintro e wx ⟨rfl,hbx⟩;rw [HL.out];have vv:=zc vv hbx;clear hbx;(go_wp2_with fail);refine kO hK (HSS.out _ vv) fun hHeld => ?_
   clear hK K;refine kK 17 q232 ?_;refine kK 18 q233 ?_;refine wpAnyH_done (by kernel_rfl) ?_ _;clear hHeld;go_wp2;go_ret;exact ⟨(by rw [HR.out]; rfl),zc HB.out vv⟩

theorem zex (id:Int) (a:Option Addr) (n c:Nat) (l:List PT) (w:World) (h:GRow ptF w a n c l) :
  Calls Tryz.prog 134 #[.int .i64 id,.slice a n c] w fun e w'=>e=.returned (.int .i64 (zdz id l))∧Below w.heap.size w w':=by
 have hle:=h.le;have htop:=h.top;unfold maxLen at htop;have hsz:=hide h.size;go_enter Tryz.func134,Tryz.ntmps134;go_wp2_with fail
 go_loopw [5,6] (fun s i wr=>∃k:Nat,k≤min n 6∧i=.int .i64 k∧s=.int .i64 (zbD id l k)∧Below w.heap.size w wr) (fun _ i _=>6 - (intOf i).toNat)
 case atStart=>exact ⟨0,Nat.zero_le _,rfl,rfl,Below.refl _ _⟩
 case round =>
  obtain ⟨k,hk,rfl,rfl,hb⟩:=hrel;have hk6:k≤6:=by omega
  generalize hS:zbD id l k=S;have HS:=hide hS;clear hS;by_cases hlt:k < min n 6
  ·have hkn:k < n:=by omega
   have hk5:k < 6:=by omega
   have i1:(0:Int)≤(k:Int):=by omega
   have i2:(k:Int) < (n:Int):=by omega
   have i3:(k:Int) < 6:=by omega
   have hmin:(if (n:Int)≤6 then (n:Int) else 6)=((min n 6:Nat):Int):=by split <;> omega
   have i4:(k:Int) < ((min n 6:Nat):Int):=by omega
   have HB:=hide hb;clear hk hb;(go_wp2_with fail);refine (ze4 id a n c l (k:Int) _ (h.below HB.out)).mono ?_;rintro e w2 ⟨rfl,hb2⟩;have HB2:=hide (zc HB.out hb2);have h14:=zih (id:=id) (l:=l) (k:Int);clear hb2;generalize hR:za1 id l (k:Int)=R at *;have HR:=hide hR;clear hR;by_cases hr:R≤2
   ·have HN:Hid (zbD id l (k+1)=bits .or .i64 S (2 ^ k)):=hide (by rw [zbD,HR.out,if_pos hr,HS.out]);have hw2:wrap64 (2 ^ k)=2 ^ k:=by
     rcases (show k=0∨k=1∨k=2∨k=3∨k=4∨k=5 by omega) with rfl | rfl | rfl | rfl | rfl | rfl <;> exact Go.IntWalk.wrap64_in _ (by decide)
    have HW2:=hide hw2;clear hw2;go_wp2;rw [HW2.out]
    go_roundw
    case rel=>exact ⟨k+1,by omega,by go_num,by rw [HN.out],HB2.out⟩
    case measure=>simp [intOf]; omega
   ·have HN:Hid (zbD id l (k+1)=S):=hide (by rw [zbD,HR.out,if_neg hr,HS.out]);go_wp2
    go_roundw
    case rel=>exact ⟨k+1,by omega,by go_num,by rw [HN.out],HB2.out⟩
    case measure=>simp [intOf]; omega
  ·have hkn:k=min n 6:=by omega
   have HK:Hid (zdz id l=S):=hide (by unfold zdz; rw [hsz.out,← hkn]; exact HS.out);have hend:¬((k:Int) < (n:Int)∧(k:Int) < 6):=by omega
   go_wp2
   all_goals go_ret
   all_goals exact ⟨(by rw [HK.out]; rfl),hb⟩

theorem GRow.take {α:Type} {F:Flat α} {w:World} {ao:Option Addr} {n c k:Nat} {l:List α} (h:GRow F w ao n c l) (hk:k≤n):GRow F w ao k c (l.take k) where
 size:=by have:=h.size; simp; omega
 le:=Nat.le_trans hk h.le
 top:=h.top
 nil:=h.nil
 cell:=by
  rcases h.cell with h0 | ⟨b,off,ha,hc⟩
  ·exact .inl (by omega)
  ·refine .inr ⟨b,off,ha,fun i x hi j v hv=>hc i x ?_ j v hv⟩;rw [List.getElem?_take] at hi
   split at hi
   ·exact hi
   ·cases hi

def lessB (V B:BR):Prop:=V.ports.length≤B.ports.length∧V.f.length≤B.f.length∧V.v=B.v

theorem zfP (B:BR):lessB (turned B) B:=⟨Nat.le_refl _,(zbw _ _ _).length_le,rfl⟩

theorem zdZ {a b c:BR} (h:lessB a b) (k:lessB b c):lessB a c:=⟨Nat.le_trans h.1 k.1,Nat.le_trans h.2.1 k.2.1,h.2.2.trans k.2.2⟩

theorem zhg (B:BR) (port:Int) (up:Bool):lessB (linkB B port up) B:=by
 unfold linkB
 split
 ·split
  ·exact zdZ (zfP _) ⟨by simp,Nat.le_refl _,rfl⟩
  ·exact ⟨Nat.le_refl _,Nat.le_refl _,rfl⟩
 ·exact ⟨Nat.le_refl _,Nat.le_refl _,rfl⟩

def inB (nb:Nat) (z:Int):Bool:=decide (0≤z) && decide (z≤(nb:Int) - 1)
def zbU (ls:List LK) (k:Int):Option LK:=if 0≤k then ls[k.toNat]? else none
def addTo (nb:Nat) (a b:Int) (o:List Int):List Int:=if (o.contains a && (!(o.contains b) && inB nb b))=true then o++[b] else o
def zcg (nb:Nat) (x:LK) (o:List Int):List Int:=addTo nb x.b x.a (addTo nb x.a x.b o)
def moreK (nb:Nat) (ls:List LK) (o:List Int) (k:Int):List Int:=match zbU ls k with
 | some x=>zcg nb x o
 | none=>o
def za9 (nb:Nat) (ls:List LK) (l o:List Int):Nat→List Int
 | 0=>o
 | k+1=>match l[k]? with
  | some z=>moreK nb ls (za9 nb ls l o k) z
  | none=>za9 nb ls l o k
def moreL (nb:Nat) (ls:List LK) (l o:List Int):List Int:=za9 nb ls l o l.length
def itTo (nb:Nat) (ls:List LK) (l:List Int) (b:Int):Nat→List Int
 | 0=>[b]
 | k+1=>moreL nb ls l (itTo nb ls l b k)
def zbR (S:List Int):Nat→List Int
 | 0=>[]
 | k+1=>if S.contains (k:Int)=true then zbR S k++[(k:Int)] else zbR S k
def joined (nb:Nat) (ls:List LK) (b:Int) (l:List Int):List Int:=if inB nb b=true then zbR (itTo nb ls l b nb) nb else []

/-! Each once,and each there. -/
def GoodL (nb:Nat) (o:List Int):Prop:=o.Nodup∧∀z∈o,0≤z∧z < (nb:Int)

theorem zeq:∀(n:Nat) (l:List Int),l.Nodup→(∀z∈l,0≤z∧z < (n:Int))→l.length≤n
 | 0,l,_,h=>by
  cases l with
  | nil=>exact Nat.le_refl _
  | cons a l=>have:=h a (by simp); omega
 | n+1,l,hn,h=>by
  by_cases hm:(n:Int)∈l
  ·have h1:=zeq n (l.erase (n:Int)) (hn.erase _) (fun z hz=>by
    have h2:=h z (List.mem_of_mem_erase hz);have h3:z≠(n:Int):=fun e=>by
     rw [e] at hz;exact (List.Nodup.not_mem_erase hn) hz
    omega)
   rw [List.length_erase_of_mem hm] at h1;omega
  ·have h1:=zeq n l hn (fun z hz=>by
    have h2:=h z hz;have h3:z≠(n:Int):=fun e=>hm (e▸hz)
    omega)
   omega

theorem GoodL.len {nb:Nat} {o:List Int} (h:GoodL nb o):o.length≤nb:=zeq nb o h.1 h.2

theorem zaH {nb:Nat} {z:Int}:inB nb z=true↔0≤z∧z < (nb:Int):=by
 unfold inB;simp only [Bool.and_eq_true,decide_eq_true_eq];omega

theorem zbt {nb:Nat} {a b:Int} {o:List Int} {z:Int}:z∈addTo nb a b o↔z∈o∨(z=b∧a∈o∧inB nb b=true):=by
 unfold addTo
 split
 ·rename_i h
  simp only [Bool.and_eq_true,List.contains_iff_mem,Bool.not_eq_true'] at h;simp only [List.mem_append,List.mem_singleton]
  constructor
  ·rintro (h1 | rfl)
   ·exact .inl h1
   ·exact .inr ⟨rfl,h.1,h.2.2⟩
  ·rintro (h1 | ⟨rfl,-⟩)
   ·exact .inl h1
   ·exact .inr rfl
 ·rename_i h
  constructor
  ·exact .inl
  ·rintro (h1 | ⟨rfl,ha,hb⟩)
   ·exact h1
   ·by_cases hm:z∈o
    ·exact hm
    ·refine absurd ?_ h;simp only [Bool.and_eq_true,List.contains_iff_mem,Bool.not_eq_true'];exact ⟨ha,by rw [← Bool.not_eq_true,List.contains_iff_mem]; exact hm,hb⟩

theorem zfV {nb:Nat} {a b:Int} {o:List Int} (h:GoodL nb o):GoodL nb (addTo nb a b o):=by
 refine ⟨?_,fun z hz => ?_⟩
 ·unfold addTo
  split
  ·rename_i hc
   simp only [Bool.and_eq_true,Bool.not_eq_true'] at hc;have hb:b∉o:=by
    have:=hc.2.1
    rw [← Bool.not_eq_true,List.contains_iff_mem] at this;exact this
   rw [List.nodup_append];exact ⟨h.1,by simp,fun x hx y hy=>by simp at hy; rw [hy]; exact fun e=>hb (e▸hx)⟩
  ·exact h.1
 ·rcases zbt.1 hz with h1 | ⟨rfl,-,hb⟩
  ·exact h.2 z h1
  ·exact zaH.1 hb

theorem zfe {nb:Nat} {a b:Int} {o:List Int}:o.length≤(addTo nb a b o).length:=by
 unfold addTo
 split
 ·simp
 ·exact Nat.le_refl _

theorem zfW {nb:Nat} {a b:Int} {o:List Int} (h:(addTo nb a b o).length≤o.length):addTo nb a b o=o:=by
 unfold addTo at *;by_cases hc:(o.contains a && (!(o.contains b) && inB nb b))=true
 ·rw [if_pos hc,List.length_append,List.length_cons,List.length_nil] at h;omega
 ·rw [if_neg hc]

theorem zgE {nb:Nat} {ls:List LK} {o:List Int} {k:Int} (h:GoodL nb o):GoodL nb (moreK nb ls o k):=by
 unfold moreK zcg
 split
 ·exact zfV (zfV h)
 ·exact h
theorem zeS {nb:Nat} {ls:List LK} {o:List Int} {k:Int}:o.length≤(moreK nb ls o k).length:=by
 unfold moreK zcg
 split
 ·exact Nat.le_trans zfe zfe
 ·exact Nat.le_refl _
theorem zhk {nb:Nat} {ls:List LK} {o:List Int} {k z:Int} (h:z∈o):z∈moreK nb ls o k:=by
 unfold moreK zcg
 split
 ·exact zbt.2 (.inl (zbt.2 (.inl h)))
 ·exact h
theorem zgF {nb:Nat} {ls:List LK} {o:List Int} {k:Int} (h:(moreK nb ls o k).length≤o.length):moreK nb ls o k=o:=by
 unfold moreK zcg at *
 split
 ·rename_i x hx
  rw [hx] at h;dsimp only at h;have h1:addTo nb x.a x.b o=o:=zfW (Nat.le_trans zfe h);rw [h1] at h ⊢;exact zfW h
 ·rfl

theorem zch {nb:Nat} {ls:List LK} {l o:List Int} (h:GoodL nb o):∀k,GoodL nb (za9 nb ls l o k)
 | 0=>h
 | k+1=>by
  unfold za9
  split
  ·exact zgE (zch h k)
  ·exact zch h k
theorem zd0 {nb:Nat} {ls:List LK} {l o:List Int}:∀k,o.length≤(za9 nb ls l o k).length
 | 0=>Nat.le_refl _
 | k+1=>by
  unfold za9
  split
  ·exact Nat.le_trans (zd0 k) zeS
  ·exact zd0 k
theorem zci {nb:Nat} {ls:List LK} {l o:List Int}:∀k,(za9 nb ls l o k).length≤o.length→za9 nb ls l o k=o∧∀j,j < k→∀z,l[j]? = some z→moreK nb ls o z=o
 | 0,_=>⟨rfl,fun j hj=>absurd hj (by omega)⟩
 | k+1,h=>by
  unfold za9 at h ⊢
  split at h
  ·rename_i z hz
   obtain ⟨e,hr⟩:=zci k (Nat.le_trans zeS h);rw [e] at h ⊢;have e2:=zgF h;refine ⟨e2,fun j hj y hy => ?_⟩;by_cases hk:j=k
   ·subst hk;rw [hz] at hy;cases hy;exact e2
   ·exact hr j (by omega) y hy
  ·rename_i hz
   obtain ⟨e,hr⟩:=zci k h;refine ⟨e,fun j hj y hy => ?_⟩;by_cases hk:j=k
   ·subst hk;rw [hz] at hy;cases hy
   ·exact hr j (by omega) y hy

theorem zfx {nb:Nat} {ls:List LK} {l:List Int} {b:Int} (hb:inB nb b=true):∀k,GoodL nb (itTo nb ls l b k)
 | 0=>⟨by simp [itTo],fun z hz=>by simp [itTo] at hz; rw [hz]; exact zaH.1 hb⟩
 | k+1=>zch (zfx hb k) _

def Clo (nb:Nat) (ls:List LK) (l:List Int) (S:Int→Prop):Prop:=∀k∈l,∀x,zbU ls k=some x→(S x.a→inB nb x.b=true→S x.b)∧(S x.b→inB nb x.a=true→S x.a)
def Rch (nb:Nat) (ls:List LK) (l:List Int) (b z:Int):Prop:=∀S:Int→Prop,S b→Clo nb ls l S→S z

theorem zij {nb:Nat} {ls:List LK} {l o:List Int} (h:(moreL nb ls l o).length≤o.length):moreL nb ls l o=o∧Clo nb ls l (fun z=>z∈o):=by
 obtain ⟨e,hr⟩:=zci l.length h;refine ⟨e,fun k hk x hx => ?_⟩;obtain ⟨j,hj,hjk⟩:=List.mem_iff_getElem.1 hk;have h1:=hr j hj k (by rw [List.getElem?_eq_getElem hj,hjk]);unfold moreK zcg at h1;rw [hx] at h1;dsimp only at h1;refine ⟨fun ha hb => ?_,fun hb ha => ?_⟩
 ·rw [← h1];exact zbt.2 (.inl (zbt.2 (.inr ⟨rfl,ha,hb⟩)))
 ·rw [← h1];exact zbt.2 (.inr ⟨rfl,zbt.2 (.inl hb),ha⟩)

theorem zhb {nb:Nat} {ls:List LK} {l:List Int} {b:Int}:∀k,k+1≤(itTo nb ls l b k).length∨(Clo nb ls l (fun z=>z∈itTo nb ls l b k)∧moreL nb ls l (itTo nb ls l b k)=itTo nb ls l b k)
 | 0=>.inl (by simp [itTo])
 | k+1=>by
  by_cases h:(moreL nb ls l (itTo nb ls l b k)).length≤(itTo nb ls l b k).length
  ·obtain ⟨e,hc⟩:=zij h;refine .inr ?_
   show Clo nb ls l (fun z=>z∈moreL nb ls l (itTo nb ls l b k))∧moreL nb ls l (moreL nb ls l (itTo nb ls l b k))=moreL nb ls l (itTo nb ls l b k)
   rw [e];exact ⟨hc,e⟩
  ·rcases zhb (nb:=nb) (ls:=ls) (l:=l) (b:=b) k with h1 | ⟨hc,e⟩
   ·refine .inl ?_
    show k+1+1≤(moreL nb ls l (itTo nb ls l b k)).length
    omega
   ·rw [e] at h;exact absurd (Nat.le_refl _) h

theorem zji {nb:Nat} {ls:List LK} {l:List Int} {b:Int} (hb:inB nb b=true):Clo nb ls l (fun z=>z∈itTo nb ls l b nb):=by
 rcases zhb (nb:=nb) (ls:=ls) (l:=l) (b:=b) nb with h | ⟨h,-⟩
 ·have:=(zfx (ls:=ls) (l:=l) hb nb).len
  omega
 ·exact h

theorem zeT {nb:Nat} {ls:List LK} {l o:List Int} {S:Int→Prop} (hS:Clo nb ls l S) (ho:∀z∈o,S z):∀k,∀z∈za9 nb ls l o k,S z
 | 0=>ho
 | k+1=>by
  intro z hz;unfold za9 at hz;have ih:=zeT hS ho k
  split at hz
  ·rename_i y hy
   unfold moreK at hz
   split at hz
   ·rename_i x hx
    have hc:=hS y (List.mem_of_getElem? hy) x hx;unfold zcg at hz;have key:∀u∈addTo nb x.a x.b (za9 nb ls l o k),S u:=by
     intro u hu;rcases zbt.1 hu with h1 | ⟨rfl,ha,hb⟩
     ·exact ih u h1
     ·exact hc.1 (ih _ ha) hb
    rcases zbt.1 hz with h1 | ⟨rfl,ha,hb⟩
    ·exact key z h1
    ·exact hc.2 (key _ ha) hb
   ·exact ih z hz
  ·exact ih z hz

theorem it_in {nb:Nat} {ls:List LK} {l:List Int} {b:Int} {S:Int→Prop} (hb:S b) (hS:Clo nb ls l S):∀k,∀z∈itTo nb ls l b k,S z
 | 0=>fun z hz=>by simp [itTo] at hz; rw [hz]; exact hb
 | k+1=>zeT hS (it_in hb hS k) _

theorem zhc {nb:Nat} {ls:List LK} {l o:List Int} {z:Int} (h:z∈o):∀k,z∈za9 nb ls l o k
 | 0=>h
 | k+1=>by
  unfold za9
  split
  ·exact zhk (zhc h k)
  ·exact zhc h k
theorem zha {nb:Nat} {ls:List LK} {l:List Int} {b:Int}:∀k,b∈itTo nb ls l b k
 | 0=>by simp [itTo]
 | k+1=>zhc (zha k) _

theorem ziA {nb:Nat} {ls:List LK} {l:List Int} {b z:Int} (hb:inB nb b=true):z∈itTo nb ls l b nb↔Rch nb ls l b z :=
 ⟨fun h _ h1 h2=>it_in h1 h2 nb z h,fun h=>h _ (zha nb) (zji hb)⟩

theorem zcs {S:List Int}:∀{k:Nat} {z:Int},z∈zbR S k↔z∈S∧0≤z∧z < (k:Int)
 | 0,z=>by simp [zbR]
 | k+1,z=>by
  unfold zbR;have ih:=@zcs S k z
  split
  ·rename_i h
   rw [List.contains_iff_mem] at h;rw [List.mem_append,List.mem_singleton,ih]
   constructor
   ·rintro (⟨h1,h2⟩ | rfl)
    ·exact ⟨h1,by omega⟩
    ·exact ⟨h,by omega⟩
   ·rintro ⟨h1,h2⟩;by_cases e:z=(k:Int)
    ·exact .inr e
    ·exact .inl ⟨h1,by omega⟩
  ·rename_i h
   rw [List.contains_iff_mem] at h;rw [ih]
   constructor
   ·rintro ⟨h1,h2⟩;exact ⟨h1,by omega⟩
   ·rintro ⟨h1,h2⟩;have e:z≠(k:Int):=fun e=>h (e▸h1)
    exact ⟨h1,by omega⟩
theorem zf5 (S:List Int):∀k,(zbR S k).length≤k
 | 0=>Nat.le_refl _
 | k+1=>by
  have:=zf5 S k
  unfold zbR
  split
  ·simp; omega
  ·omega

def zjl (k:Int):LK:=⟨k,k+1,k+1+1,k+1+1+1⟩
def ziC (k:Int) (n:Nat):List LK:=(List.range n).map fun (i:Nat)=>zjl (k+4*i)

def byB (zs:List Int):ByteArray:=⟨(zs.map fun z=>UInt8.ofNat z.toNat).toArray⟩

def mtF:Nat→Nat→ByteArray→ByteArray
 | 0,_,out=>out
 | f+1,k,out=>if k=0 then out else mtF f (k / 10) (byB [((48+k % 10:Nat):Int)]++out)
def mtx (k:Int):ByteArray:=⟨#[109]⟩++mtF 20 k.toNat ⟨#[]⟩

theorem zcm (x m:Int) (h:0≤m∧m≤9223372036854775807):0≤bits .and .i64 x m∧bits .and .i64 x m≤m:=by
 have e2:(BitVec.ofInt 64 m).toNat=m.toNat:=by
  rw [BitVec.toNat_ofInt]
  have:((2 ^ 64:Nat):Int)=18446744073709551616:=by decide
  rw [this]; omega
 have e3:((BitVec.ofInt 64 x) &&& (BitVec.ofInt 64 m)).toNat≤m.toNat:=by
  rw [BitVec.toNat_and,e2]; exact Nat.and_le_right
 have e:bits .and .i64 x m=IntKind.i64.wrap (((BitVec.ofInt 64 x) &&& (BitVec.ofInt 64 m)).toNat:Int):=rfl;rw [e,IntKind.wrap_i64];omega

theorem zcf {a b c:World} {C:Nat} (h:a.grownBy b (some C)) (k:b.grownBy c (some C)):a.grownBy c (some C) where
 os:=k.os.trans h.os
 tape:=k.tape.trans h.tape
 output:=k.output.trans h.output
 size:=Nat.le_trans h.size k.size
 block:=fun j hj hne=>(k.block j (Nat.lt_of_lt_of_le hj h.size) hne).trans (h.block j hj hne)

theorem zb9 {a b:World} (C:Nat) (h:Below a.heap.size a b):a.grownBy b (some C) where
 os:=h.os
 tape:=h.tape
 output:=h.output
 size:=h.size
 block:=fun j hj _=>h.block j hj

theorem zb7 {a b:World} {C B:Nat} (h:a.grownBy b (some C)) (hB:B≤C) (hs:C≤a.heap.size):Below B a b where
 os:=h.os
 tape:=h.tape
 output:=h.output
 size:=h.size
 block:=fun j hj=>h.block j (by omega) (by intro e; cases e; omega)

theorem zdl {a b:World} {C:Nat} (h:a.grownBy b (some C)) (n:Nat):a.grownBy (b.drewN n) (some C):=⟨h.os,h.tape,h.output,h.size,h.block⟩

structure Cur (w:World) (C:Nat) (a0:Option Addr) (l0 c0:Nat) (z0:List Int):Prop where
 row:∀w',Below C w w'→Row w' a0 l0 c0 z0
 small:l0≤1048576
 here:∃i h:Int,0≤i∧i≤l0∧w.heap[C]? = some (.cells #[.slice a0 l0 c0,.int .i64 i,.int .i64 h] 85)

theorem Cur.lt {w:World} {C:Nat} {a0:Option Addr} {l0 c0:Nat} {z0:List Int} (h:Cur w C a0 l0 c0 z0):C < w.heap.size:=by
 obtain ⟨i,x,_,_,e⟩:=h.here;by_cases hlt:C < w.heap.size
 ·exact hlt
 ·rw [Array.getElem?_eq_none (by omega)] at e; cases e

theorem Cur.below {w w':World} {C:Nat} {a0:Option Addr} {l0 c0:Nat} {z0:List Int} (h:Cur w C a0 l0 c0 z0) (hb:Below w.heap.size w w'):Cur w' C a0 l0 c0 z0 where
 row:=fun w2 h2=>h.row w2 ((hb.mono (Nat.le_of_lt h.lt)).trans h2)
 small:=h.small
 here:=by
  obtain ⟨i,x,h1,h2,e⟩:=h.here;exact ⟨i,x,h1,h2,by rw [hb.block C h.lt]; exact e⟩

theorem zgZ (w:World) (a0:Option Addr) (l0 c0:Nat) (z0:List Int) (x:Int) (h0:Row w a0 l0 c0 z0) (hs:l0≤1048576):Cur (w.alloc (.cells #[.slice a0 l0 c0,.int .i64 0,.int .i64 x] 85)) w.heap.size a0 l0 c0 z0 where
 row:=fun w2 h2=>h0.below (((Below.refl _ _).alloc (Nat.le_refl _) _).trans h2)
 small:=hs
 here:=⟨0,x,by omega,by omega,by show (w.heap.push _)[w.heap.size]? = _; simp⟩

theorem Cur.drew {w:World} {C:Nat} {a0:Option Addr} {l0 c0:Nat} {z0:List Int} (h:Cur w C a0 l0 c0 z0) (n:Nat):Cur (w.drewN n) C a0 l0 c0 z0:=h.below (zfg (Below.refl _ _) n)

theorem ziT (a0:Option Addr) (l0 c0:Nat) (z0:List Int) (w:World) (h0:Row w a0 l0 c0 z0) (hs:l0≤1048576) :
  Calls Tryz.prog 19 #[.slice a0 l0 c0] w fun e w'=>e=.returned (.pointer (some ⟨w.heap.size,0,none⟩))∧Cur w' w.heap.size a0 l0 c0 z0∧Below w.heap.size w w':=by
 have hby:=h0.byte;have hcell:=h0.cell;go_enter Tryz.func19,Tryz.ntmps19;go_wp2
 go_loop [3,4] (fun m i=>∃(k:Nat) (x:Int),k≤l0∧k≤4000∧i=.int .i64 k∧m=.int .i64 x∧0≤x∧x≤1073741823) (fun _ i=>l0 - (intOf i).toNat)
 case atStart=>exact ⟨0,_,Nat.zero_le _,by omega,rfl,rfl,by omega,by omega⟩
 case round =>
  obtain ⟨k,x,hk,hk4,rfl,rfl,hx0,hx1⟩:=hrel;by_cases hlt:k < l0
  ·by_cases hl4:k < 4000
   ·rcases hcell with h | ⟨b,off,rfl,hc⟩
    ·omega
    have cx:=hc k hlt;have bx:=hby.at k;clear hc;generalize z0.getD k 0=y at *;go_wp2
    go_round
    case rel=>exact ⟨k+1,_,by omega,by omega,by go_num,rfl,(zcm (x*137+y+11) 1073741823 (by omega)).1,(zcm (x*137+y+11) 1073741823 (by omega)).2⟩
    case measure=>simp [intOf]; omega
   ·have i1:¬(k:Int) < 4000:=by omega
    go_wp2;go_ret;exact ⟨rfl,zgZ w a0 l0 c0 z0 x h0 hs,(Below.refl _ _).alloc (Nat.le_refl _) _⟩
  ·go_wp2;go_ret;exact ⟨rfl,zgZ w a0 l0 c0 z0 x h0 hs,(Below.refl _ _).alloc (Nat.le_refl _) _⟩

structure Went (w w':World) (C:Nat) (a0:Option Addr) (l0 c0:Nat) (z0:List Int):Prop where
 cur:Cur w' C a0 l0 c0 z0
 grown:w.grownBy w' (some C)

theorem Cur.cells {w:World} {C:Nat} {c0 c1 c2:Value} (h:w.heap[C]? = some (.cells #[c0,c1,c2] 85)) :
  w.cell? ⟨C,0,none⟩=some c0∧w.cell? ⟨C,1,none⟩=some c1∧w.cell? ⟨C,2,none⟩=some c2∧(∀j,w.frozen? ⟨C,j,none⟩=false):=by
 refine ⟨?_, ?_, ?_,fun j => ?_⟩ <;> simp [World.cell?,World.frozen?,h]

theorem zhS {w:World} {C:Nat} {a0:Option Addr} {l0 c0:Nat} {z0:List Int} {i h:Int} (hc:Cur w C a0 l0 c0 z0) (hh:w.heap[C]? = some (.cells #[.slice a0 l0 c0,.int .i64 i,.int .i64 h] 85)) (H:Int) (hi:0≤i∧i≤l0) :
  (w.setCell ⟨C,2,none⟩ (.int .i64 H)).heap[C]? = some (.cells #[.slice a0 l0 c0,.int .i64 i,.int .i64 H] 85)∧w.grownBy (w.setCell ⟨C,2,none⟩ (.int .i64 H)) (some C)∧Cur (w.setCell ⟨C,2,none⟩ (.int .i64 H)) C a0 l0 c0 z0:=by
 have e:(w.setCell ⟨C,2,none⟩ (.int .i64 H)).heap[C]? = some (.cells #[.slice a0 l0 c0,.int .i64 i,.int .i64 H] 85):=by
  have:=hc.lt
  simp [World.setCell,Array.getElem?_modify,hh]
 have g:w.grownBy (w.setCell ⟨C,2,none⟩ (.int .i64 H)) (some C):=zbx (World.grownBy.refl _ _) 2 _;exact ⟨e,g,⟨fun w2 h2=>hc.row w2 ((zb7 g (Nat.le_refl _) (Nat.le_of_lt hc.lt)).trans h2),hc.small,i,H,hi.1,hi.2,e⟩⟩

theorem zhR {w:World} {C:Nat} {a0:Option Addr} {l0 c0:Nat} {z0:List Int} {i h:Int} (hc:Cur w C a0 l0 c0 z0) (hh:w.heap[C]? = some (.cells #[.slice a0 l0 c0,.int .i64 i,.int .i64 h] 85)) (j:Int) (hj:0≤j∧j≤l0) :
  Went w (w.setCell ⟨C,1,none⟩ (.int .i64 j)) C a0 l0 c0 z0:=by
 have e:(w.setCell ⟨C,1,none⟩ (.int .i64 j)).heap[C]? = some (.cells #[.slice a0 l0 c0,.int .i64 j,.int .i64 h] 85):=by
  have:=hc.lt
  simp [World.setCell,Array.getElem?_modify,hh]
 have g:w.grownBy (w.setCell ⟨C,1,none⟩ (.int .i64 j)) (some C):=zbx (World.grownBy.refl _ _) 1 _;exact ⟨⟨fun w2 h2=>hc.row w2 ((zb7 g (Nat.le_refl _) (Nat.le_of_lt hc.lt)).trans h2),hc.small,j,h,hj.1,hj.2,e⟩,g⟩

theorem zc5 (C:Nat) (a0:Option Addr) (l0 c0:Nat) (z0:List Int) (w:World) (hc:Cur w C a0 l0 c0 z0) :
  Calls Tryz.prog 69 #[.pointer (some ⟨C,0,none⟩)] w fun e w'=>∃x:Int,e=.returned (.int .i64 x)∧0≤x∧x≤255∧Went w w' C a0 l0 c0 z0:=by
 obtain ⟨i,h,hi0,hi1,hh⟩:=hc.here;obtain ⟨k0,k1,k2,kf⟩:=Cur.cells hh;have kf2:=kf 2;clear kf;obtain ⟨k,rfl⟩:∃k:Nat,i=k:=⟨i.toNat,by omega⟩;go_enter Tryz.func69,Tryz.ntmps69;go_wp2;generalize wrap64 (wrap64 (h*6364136223846793005)+1442695040888963407)=H;have st:=zhS hc hh H ⟨hi0,hi1⟩;generalize w.setCell ⟨C,2,none⟩ (.int .i64 H)=W at *;obtain ⟨hW,hg,hcw⟩:=st;clear k0 k1 k2 kf2 hh hc;obtain ⟨k0,k1,k2,kf⟩:=Cur.cells hW;have kf1:=kf 1;clear kf;have hrow:=hcw.row W (Below.refl _ _);have hl0:=hcw.small;have hby:=hrow.byte;have hcell:=hrow.cell
 go_quiet (fail)
 go_wp2;have hx:=zcm (bits BinOp.xor IntKind.i64 (H / 8589934592) (H / 140737488355328)) 255 (by omega);generalize bits BinOp.and IntKind.i64 (bits BinOp.xor IntKind.i64 (H / 8589934592) (H / 140737488355328)) 255=x at *;by_cases hlt:k < l0
 ·rcases hcell with h | ⟨b,off,rfl,hc⟩
  ·omega
  have cx:=hc k hlt;have bx:=hby.at k;clear hc;generalize z0.getD k 0=y at *;have g1:(k:Int) < l0:=by omega
  go_quiet (fail)
  go_wp2
  go_quiet (fail)
  go_wp2;go_ret;refine ⟨_,rfl,(zcm _ 255 (by omega)).1,(zcm _ 255 (by omega)).2, ?_⟩;have t:=fun n=>zhR (hcw.drew n) (by exact hW) ((k:Int)+1) (by omega)
  exact ⟨(t _).cur,zcf (zdl hg _) (t _).grown⟩
 ·have g1:¬(k:Int) < l0:=by omega
  go_quiet (fail)
  go_wp2;go_ret;exact ⟨x,rfl,hx.1,hx.2,hcw.drew _,zdl hg _⟩

theorem zf8 (x n:Int) (hx:0≤x) (hn:0 < n):0≤x % n∧x % n < n∧x % n≤x:=by
 refine ⟨Int.emod_nonneg _ (by omega),Int.emod_lt_of_pos _ hn, ?_⟩;have h1:=Int.emod_add_mul_ediv x n;have h2:0≤x / n:=Int.ediv_nonneg hx (by omega);have h3:0≤n*(x / n):=Int.mul_nonneg (by omega) h2;omega

theorem Went.trans {a b c:World} {C:Nat} {a0:Option Addr} {l0 c0:Nat} {z0:List Int} (h:Went a b C a0 l0 c0 z0) (k:Went b c C a0 l0 c0 z0):Went a c C a0 l0 c0 z0:=⟨k.cur,zcf h.grown k.grown⟩

theorem Went.made {a b c:World} {C:Nat} {a0:Option Addr} {l0 c0:Nat} {z0:List Int} (h:Went a b C a0 l0 c0 z0) (k:Below b.heap.size b c):Went a c C a0 l0 c0 z0:=⟨h.cur.below k,zcf h.grown (zb9 C k)⟩

theorem Went.start {a b:World} {C:Nat} {a0:Option Addr} {l0 c0:Nat} {z0:List Int} (h:Cur a C a0 l0 c0 z0) (k:Below a.heap.size a b):Went a b C a0 l0 c0 z0:=⟨h.below k,zb9 C k⟩

theorem zX (C:Nat) (a0:Option Addr) (l0 c0:Nat) (z0:List Int) (n:Int) (w:World) (hc:Cur w C a0 l0 c0 z0) (hn:n≤1099511627776) :
  Calls Tryz.prog 37 #[.pointer (some ⟨C,0,none⟩),.int .i64 n] w fun e w'=>∃x:Int,e=.returned (.int .i64 x)∧0≤x∧(0 < n→x < n)∧x≤16777215∧Went w w' C a0 l0 c0 z0:=by
 by_cases k0:n≤0
 ·go_enter Tryz.func37,Tryz.ntmps37;go_wp2;go_ret;exact ⟨0,rfl,by omega,by omega,by omega,Went.start hc (Below.refl _ _)⟩
 by_cases k1:n≤256
 ·go_enter Tryz.func37,Tryz.ntmps37;(go_wp2_with fail);refine (zc5 C a0 l0 c0 z0 _ hc).mono ?_;rintro e w1 ⟨x,rfl,hx0,hx1,went⟩;have hne:(n == 0)=false:=by simp; omega
  go_wp2;go_ret;exact ⟨_,rfl,(zf8 x n hx0 (by omega)).1,fun _=>(zf8 x n hx0 (by omega)).2.1,by have:=(zf8 x n hx0 (by omega)).2.2; omega,went⟩
 ·go_enter Tryz.func37,Tryz.ntmps37;(go_wp2_with fail);refine (zc5 C a0 l0 c0 z0 _ hc).mono ?_;rintro e w1 ⟨x,rfl,hx0,hx1,went1⟩;(go_wp2_with fail);refine (zc5 C a0 l0 c0 z0 _ went1.cur).mono ?_;rintro e w2 ⟨y,rfl,hy0,hy1,went2⟩;(go_wp2_with fail);refine (zc5 C a0 l0 c0 z0 _ went2.cur).mono ?_;rintro e w3 ⟨z,rfl,hz0,hz1,went3⟩;have hne:(n == 0)=false:=by simp; omega
  go_wp2;go_ret;have hm:=zf8 (x*65536+y*256+z) n (by omega) (by omega);exact ⟨_,rfl,hm.1,fun _=>hm.2.1,by omega,(went1.trans went2).trans went3⟩

theorem zga (C:Nat) (a0:Option Addr) (l0 c0:Nat) (z0:List Int) (n:Int) (w:World) (hc:Cur w C a0 l0 c0 z0) (hn:n≤1099511627776) :
  Calls Tryz.prog 73 #[.pointer (some ⟨C,0,none⟩),.int .i64 n] w fun e w'=>∃x:Bool,e=.returned (.bool x)∧Went w w' C a0 l0 c0 z0:=by
 go_enter Tryz.func73,Tryz.ntmps73;go_wp2_with fail
 refine (zX C a0 l0 c0 z0 n _ hc hn).mono ?_;rintro e w1 ⟨x,rfl,hx0,hx1,hx2,went⟩;go_wp2;go_ret;exact ⟨_,rfl,went⟩

theorem ziO (C:Nat) (a0:Option Addr) (l0 c0:Nat) (z0:List Int) (B n:Nat) (xs:List Int) (w:World) (hc:Cur w C a0 l0 c0 z0) (hB:C < B) (hcell:∀j,j < n→w.cell? ⟨B,j,none⟩=some (.int .i64 (xs.getD j 0))) (hxs:xs.length=n) (hn0:0 < n) (hn:n≤1000) :
  Calls Tryz.prog 41 #[.pointer (some ⟨C,0,none⟩),.slice (some ⟨B,0,none⟩) n n] w fun e w'=>∃x:Int,x∈xs∧e=.returned (.int .i64 x)∧Went w w' C a0 l0 c0 z0:=by
 have HC:=hide hcell;clear hcell;go_enter Tryz.func41,Tryz.ntmps41;go_wp2_with fail
 refine (zX C a0 l0 c0 z0 n _ hc (by omega)).mono ?_;rintro e w1 ⟨x,rfl,hx0,hx1,hx2,went⟩;have hx1:=hx1 (by omega);obtain ⟨j,rfl⟩:∃j:Nat,x=j:=⟨x.toNat,by omega⟩;have cx:w1.cell? ⟨B,j,none⟩=some (.int .i64 (xs.getD j 0)):=went.grown.cell (HC.out j (by omega)) (by intro e; simp at e; omega);have hm:xs.getD j 0∈xs:=by
  rw [List.getD_eq_getElem?_getD,List.getElem?_eq_getElem (by omega)]; exact List.getElem_mem _
 generalize xs.getD j 0=y at *;go_wp2;go_ret;exact ⟨y,hm,rfl,went⟩

theorem Cur.belowAt {w w':World} {C B:Nat} {a0:Option Addr} {l0 c0:Nat} {z0:List Int} (h:Cur w C a0 l0 c0 z0) (hb:Below B w w') (hC:C < B):Cur w' C a0 l0 c0 z0 where
 row:=fun w2 h2=>h.row w2 ((hb.mono (Nat.le_of_lt hC)).trans h2)
 small:=h.small
 here:=by
  obtain ⟨i,x,h1,h2,e⟩:=h.here;exact ⟨i,x,h1,h2,by rw [hb.block C hC]; exact e⟩

theorem Went.madeAt {a b c:World} {C B:Nat} {a0:Option Addr} {l0 c0:Nat} {z0:List Int} (h:Went a b C a0 l0 c0 z0) (k:Below B b c) (hC:C < B) (hB:a.heap.size≤B):Went a c C a0 l0 c0 z0 where
 cur:=h.cur.belowAt k hC
 grown:=⟨k.os.trans h.grown.os,k.tape.trans h.grown.tape,k.output.trans h.grown.output,Nat.le_trans h.grown.size k.size,fun j hj hne=>(k.block j (by omega)).trans (h.grown.block j hj hne)⟩

theorem Went.own {a b:World} {C:Nat} {a0:Option Addr} {l0 c0:Nat} {z0:List Int} (h:Went a b C a0 l0 c0 z0) {base:Nat} {v:Value} {n:Nat} {xs:List Value} (ho:a.ownsRow base 5 1 v n xs) (hC:C < base):b.ownsRow base 5 1 v n xs :=
 zhp ho h.grown (by intro k hk; cases hk; exact hC)

theorem zcx (C:Nat) (a0:Option Addr) (l0 c0:Nat) (z0:List Int) (xs:List Int) (g n:Nat) (w:World) (hc:Cur w C a0 l0 c0 z0) (hCg:C < g) {cs:Array Value} (hg:w.heap[g]? = some (.cells cs 3)) (hcs:cs=(xs.map (Value.int .i64)).toArray) (hn0:0 < xs.length) (hn:xs.length≤1000) (hnx:xs.length=n:=by rfl) :
  Calls Tryz.prog 41 #[.pointer (some ⟨C,0,none⟩),.slice (some ⟨g,0,none⟩) n n] w fun e w'=>∃x:Int,x∈xs∧e=.returned (.int .i64 x)∧Went w w' C a0 l0 c0 z0:=by
 subst hnx hcs;refine (ziO C a0 l0 c0 z0 g xs.length xs _ hc hCg (fun j hj => ?_) rfl hn0 hn).mono ?_
 ·simp only [World.cell?,hg]
  simp [hj]
 ·rintro e w' ⟨x,hx,rfl,went⟩;exact ⟨x,hx,rfl,went⟩

structure EV where
 kd:Int
 i:Int

def evF:Flat EV where
 k:=2
 cs:=fun x=>[.int .i64 x.kd,.int .i64 x.i]
 len:=fun _=>rfl
 pos:=by decide
 one:=fun _ v hv=>by
  simp only [List.mem_cons,List.not_mem_nil,or_false] at hv;rcases hv with rfl | rfl <;> rfl

theorem ziK {e:FE} (h:entOk e=true):e.Rng:=by
 rw [zeI] at h;exact ⟨by omega,by omega,by omega,by omega⟩

theorem zi9 (a0:Option Addr) (l0 c0:Nat) (w:World) (h:¬1048576 < l0):Calls Tryz.prog 5 #[.slice a0 l0 c0] w fun e w'=>e=.returned (.bool false)∧w'=w:=by
 have i1:¬(1048576:Int) < l0:=by omega
 go_enter Tryz.func5,Tryz.ntmps5;go_wp2;go_ret;exact ⟨rfl,rfl⟩

theorem Row.take {w:World} {ao:Option Addr} {n c:Nat} {zs:List Int} (h:Row w ao n c zs) (k:Nat) (hk:k≤n):Row w ao k c (zs.take k) where
 size:=by have:=h.size; simp; omega
 le:=by have:=h.le; omega
 top:=h.top
 nil:=h.nil
 byte:=fun z hz=>h.byte z (List.mem_of_mem_take hz)
 cell:=by
  rcases h.cell with h0 | ⟨b,off,ha,hc⟩
  ·exact .inl (by omega)
  ·exact .inr ⟨b,off,ha,fun i hi=>by rw [hc i (by omega)]; simp [List.getD_eq_getElem?_getD,hi]⟩

end Go.Proofs.YtkaefmfopejbaaaGreat
