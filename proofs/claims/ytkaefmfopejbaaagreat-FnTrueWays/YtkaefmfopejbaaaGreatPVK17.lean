/-
  Packed: JoinI JoinT JoinK.
-/
import Derived.Test.YtkaefmfopejbaaaGreatPVK16
import Derived.Lib.SlicesCompact
import Derived.Lib.SlKeysI
import Derived.Maps.OwnSet
namespace Go.Proofs.YtkaefmfopejbaaaGreat
set_option maxRecDepth 100000
set_option maxHeartbeats 16000000
open Go.RowKit

def across (x:LK) (b:Int):Option Int:=if b=x.a then some x.b else if b=x.b then some x.a else none
def zdb:Option Int→Value
 | some z=>.tuple #[.int .i64 z,.bool true]
 | none=>.tuple #[.int .i64 0,.bool false]

theorem zdT (x:LK) (b:Int) (w:World) :
  Calls Tryz.prog 62 #[.agg #[.int .i64 x.a,.int .i64 x.p,.int .i64 x.b,.int .i64 x.q],.int .i64 b] w fun e w'=>e=.returned (zdb (across x b))∧Below w.heap.size w w':=by
 generalize hw1:w.alloc (Obj.cells #[.int .i64 x.a,.int .i64 x.p,.int .i64 x.b,.int .i64 x.q] 66)=w1;have b01:=zb hw1;have k1:=zk hw1;obtain ⟨c0,c1,c2,c3⟩:=zr k1;have HB:=hide b01;clear b01 k1;by_cases h1:b=x.a
 ·have HE:Hid (across x b=some x.b):=hide (by unfold across; rw [if_pos h1]);subst h1;go_enter Tryz.func62,Tryz.ntmps62;go_wp2;rw [HE.out];exact bodyPost_ret (v:=.tuple #[.int .i64 x.b,.bool true]) (by simp [results,Tryz.results62,go_sem, *]) rfl ⟨rfl,HB.out⟩
 ·by_cases h2:b=x.b
  ·have HE:Hid (across x b=some x.a):=hide (by unfold across; rw [if_neg h1,if_pos h2]);have h1':¬x.a=b:=fun e=>h1 e.symm
   go_enter Tryz.func62,Tryz.ntmps62;go_wp2;rw [HE.out];exact bodyPost_ret (v:=.tuple #[.int .i64 x.a,.bool true]) (by simp [results,Tryz.results62,go_sem, *]) rfl ⟨rfl,HB.out⟩
  ·have HE:Hid (across x b=none):=hide (by unfold across; rw [if_neg h1,if_neg h2]);have h1':¬x.a=b:=fun e=>h1 e.symm
   have h2':¬x.b=b:=fun e=>h2 e.symm
   go_enter Tryz.func62,Tryz.ntmps62;go_wp2;rw [HE.out];exact bodyPost_ret (v:=.tuple #[.int .i64 0,.bool false]) (by simp [results,Tryz.results62,go_sem, *]) rfl ⟨rfl,HB.out⟩

theorem zbN (N:NV) (b:Int) (w:World) (h:zac w N) :
  Calls Tryz.prog 31 #[.agg #[.slice N.ba N.bn N.bc,.slice N.la N.ln N.lc,.slice N.sa N.sn N.sc],.int .i64 b] w fun e w'=>∃v:Option Addr,e=.returned (.pointer v)∧(v=none↔inB N.bn b=false)∧Below w.heap.size w w':=by
 have hle:=Nat.le_trans h.b.le h.b.top;unfold maxLen at hle;cases hA:inB N.bn b
 ·refine (zdh N b w hle hA).mono ?_;rintro e w' ⟨rfl,hb⟩;exact ⟨none,rfl,by simp,hb⟩
 ·obtain ⟨k,rfl⟩:∃k:Nat,b=(k:Int):=⟨b.toNat,by have:=zaH.1 hA; omega⟩;have hk:k < N.bn:=by have:=zaH.1 hA; omega
  obtain ⟨x,bb,off,hx,hba,-⟩:=br_at h.b k hk;refine (zbf N k bb off w hle hk hba).mono ?_;rintro e w' ⟨rfl,hb⟩;exact ⟨_,rfl,by simp,hb⟩

theorem zgs (N:NV) (x:LK) (w:World) (h:zac w N) :
  Calls Tryz.prog 65 #[.agg #[.slice N.ba N.bn N.bc,.slice N.la N.ln N.lc,.slice N.sa N.sn N.sc],.agg #[.int .i64 x.a,.int .i64 x.p,.int .i64 x.b,.int .i64 x.q]] w fun e w'=>e=.returned (.bool (inB N.bn x.a && inB N.bn x.b))∧Below w.heap.size w w':=by
 generalize hR:(inB N.bn x.a && inB N.bn x.b)=R;have HR:=hide hR;clear hR;generalize hw1:w.alloc (Obj.cells #[.slice N.ba N.bn N.bc,.slice N.la N.ln N.lc,.slice N.sa N.sn N.sc] 28)=w1;generalize hw2:w1.alloc (Obj.cells #[.int .i64 x.a,.int .i64 x.p,.int .i64 x.b,.int .i64 x.q] 66)=w2;have b01:=zb hw1;have b12:=zb hw2;have b02:=zc b01 b12;have kP:=za (zk hw1) b12;have kL:=zk hw2;obtain ⟨x0,x1,x2⟩:=zd kP;obtain ⟨l0,l1,l2,l3⟩:=zr kL;go_enter Tryz.func65,Tryz.ntmps65;go_wp2_with fail
 refine (zbN N x.a _ (h.below b02)).mono ?_;rintro e w3 ⟨v3,rfl,hv3,hb3⟩;have kP:=za kP hb3;have kL:=za kL hb3;have b03:=zc b02 hb3;clear x0 x1 x2 l0 l1 l2 l3 hb3 b01 b12 b02 hw1 hw2;obtain ⟨x0,x1,x2⟩:=zd kP;obtain ⟨l0,l1,l2,l3⟩:=zr kL;cases v3 with
 | none =>
  have HE:Hid (R=false):=hide (by rw [← HR.out,hv3.1 rfl]; rfl);have HB:=hide b03;clear hv3 b03 kP kL HR;go_wp2;go_ret;exact ⟨by rw [HE.out]; rfl,HB.out⟩
 | some p3 =>
  have h3:inB N.bn x.a=true:=by
   cases hc:inB N.bn x.a
   ·have:=hv3.2 hc
    cases this
   ·rfl
  have HE:Hid (R=inB N.bn x.b):=hide (by rw [← HR.out,h3]; rfl);clear hv3 h3 HR;(go_wp2_with fail);refine (zbN N x.b _ (h.below b03)).mono ?_;rintro e w4 ⟨v4,rfl,hv4,hb4⟩;have HB:=hide (zc b03 hb4);clear b03 hb4 kP kL x0 x1 x2 l0 l1 l2 l3;cases v4 with
  | none =>
   have HE:Hid (R=false):=hide (by rw [HE.out,hv4.1 rfl]);clear hv4;go_wp2;go_ret;exact ⟨by rw [HE.out]; rfl,HB.out⟩
  | some p4 =>
   have HE:Hid (R=true):=hide (by
    rw [HE.out];cases hc:inB N.bn x.b
    ·have:=hv4.2 hc
     cases this
    ·rfl)
   clear hv4;go_wp2;go_ret;exact ⟨by rw [HE.out]; rfl,HB.out⟩

section
open Go.RowKit Go.Lib

def zbZ (nb:Nat) (ls:List LK) (k:Int):Option LK:=match zbU ls k with
 | some x=>if (inB nb x.a && inB nb x.b)=true then some x else none
 | none=>none
def told (nb:Nat) (ls:List LK) (cs:List Int):List LK:=cs.filterMap (zbZ nb ls)
def CloT (T:List LK) (S:Int→Prop):Prop:=∀x∈T,(S x.a→S x.b)∧(S x.b→S x.a)
def RchT (T:List LK) (b z:Int):Prop:=∀S:Int→Prop,S b→CloT T S→S z

theorem zc6 {nb:Nat} {ls:List LK} {cs:List Int} {x:LK}:x∈told nb ls cs↔∃k∈cs,zbU ls k=some x∧inB nb x.a=true∧inB nb x.b=true:=by
 unfold told;rw [List.mem_filterMap]
 constructor
 ·rintro ⟨k,hk,h⟩;unfold zbZ at h
  split at h
  ·rename_i y hy
   split at h
   ·rename_i hc
    cases h;simp only [Bool.and_eq_true] at hc;exact ⟨k,hk,hy,hc.1,hc.2⟩
   ·cases h
  ·cases h
 ·rintro ⟨k,hk,h,h1,h2⟩;refine ⟨k,hk, ?_⟩;unfold zbZ;rw [h];dsimp only;rw [h1,h2]
  rfl

theorem zig {nb:Nat} {ls:List LK} {l cs:List Int} {b z:Int} (hcs:∀k,k∈cs↔k∈l) (hb:inB nb b=true):Rch nb ls l b z↔RchT (told nb ls cs) b z:=by
 constructor
 ·intro h S h1 h2;refine (h (fun y=>S y∧inB nb y=true) ⟨h1,hb⟩ (fun k hk x hx=>⟨fun ha hi=>⟨?_,hi⟩,fun ha hi=>⟨?_,hi⟩⟩)).1
  ·exact (h2 x (zc6.2 ⟨k,(hcs k).2 hk,hx,ha.2,hi⟩)).1 ha.1
  ·exact (h2 x (zc6.2 ⟨k,(hcs k).2 hk,hx,hi,ha.2⟩)).2 ha.1
 ·intro h S h1 h2;refine h S h1 (fun x hx => ?_);obtain ⟨k,hk,hl,ha,hb⟩:=zc6.1 hx
  have:=h2 k ((hcs k).1 hk) x hl
  exact ⟨fun h=>this.1 h hb,fun h=>this.2 h ha⟩

theorem zdc {x:LK} {z y:Int} (h:across x z=some y):(z=x.a∧y=x.b)∨(z=x.b∧y=x.a):=by
 unfold across at h
 split at h
 ·rename_i e; cases h; exact .inl ⟨e,rfl⟩
 ·split at h
  ·rename_i e; cases h; exact .inr ⟨e,rfl⟩
  ·cases h

structure RI (nb:Nat) (T:List LK) (b:Int) (S:List Int) (p:Nat):Prop where
 good:GoodL nb S
 here:b∈S
 le:p≤S.length
 rch:∀z∈S,RchT T b z
 done:∀j z,j < p→S[j]? = some z→∀x∈T,∀y,across x z=some y→y∈S

structure RJ (nb:Nat) (T:List LK) (b:Int) (S:List Int) (p:Nat) (z:Int) (i:Nat):Prop where
 ri:RI nb T b S p
 at':S[p]? = some z
 part:∀j x,j < i→T[j]? = some x→∀y,across x z=some y→y∈S

theorem RI.start {nb:Nat} {T:List LK} {b:Int} (hb:inB nb b=true):RI nb T b [b] 0 where
 good:=⟨by simp,fun z hz=>by simp at hz; rw [hz]; exact zaH.1 hb⟩
 here:=by simp
 le:=Nat.zero_le _
 rch:=fun z hz=>by simp at hz; rw [hz]; exact fun S h _=>h
 done:=fun _ _ hj=>absurd hj (Nat.not_lt_zero _)

theorem RI.begin {nb:Nat} {T:List LK} {b:Int} {S:List Int} {p:Nat} {z:Int} (h:RI nb T b S p) (hz:S[p]? = some z):RJ nb T b S p z 0:=⟨h,hz,fun _ _ hj=>absurd hj (Nat.not_lt_zero _)⟩

theorem RJ.stay {nb:Nat} {T:List LK} {b:Int} {S:List Int} {p:Nat} {z:Int} {i:Nat} (h:RJ nb T b S p z i) {x:LK} (hx:T[i]? = some x) (hs:∀y,across x z=some y→y∈S):RJ nb T b S p z (i+1) :=
 ⟨h.ri,h.at',fun j u hj hu y hy=>by
  by_cases e:j=i
  ·subst e;rw [hx] at hu;cases hu;exact hs y hy
  ·exact h.part j u (by omega) hu y hy⟩

theorem RJ.more {nb:Nat} {T:List LK} {b:Int} {S:List Int} {p:Nat} {z:Int} {i:Nat} (h:RJ nb T b S p z i) (hT:∀x∈T,inB nb x.a=true∧inB nb x.b=true) {x:LK} (hx:T[i]? = some x) {y:Int} (hy:across x z=some y) (hn:y∉S):RJ nb T b (S++[y]) p z (i+1):=by
 have hxT:=List.mem_of_getElem? hx;have hzS:z∈S:=List.mem_of_getElem? h.at';have hp:p < S.length:=(List.getElem?_eq_some_iff.1 h.at').1;have old:∀{j:Nat} {u:Int},j < S.length→(S++[y])[j]? = some u→S[j]? = some u:=fun hj hu=>by rw [List.getElem?_append_left hj] at hu; exact hu
 have hyB:inB nb y=true:=by
  rcases zdc hy with ⟨-,rfl⟩ | ⟨-,rfl⟩
  ·exact (hT x hxT).2
  ·exact (hT x hxT).1
 refine ⟨⟨⟨?_,fun u hu => ?_⟩,List.mem_append.2 (.inl h.ri.here),by rw [List.length_append]; omega,fun u hu => ?_,fun j u hj hu v hv q hq => ?_⟩,by rw [List.getElem?_append_left hp]; exact h.at',fun j u hj hu v hv => ?_⟩
 ·rw [List.nodup_append];exact ⟨h.ri.good.1,by simp,fun u hu v hv=>by simp at hv; rw [hv]; exact fun e=>hn (e▸hu)⟩
 ·rcases List.mem_append.1 hu with h1 | h1
  ·exact h.ri.good.2 u h1
  ·simp at h1; rw [h1]; exact zaH.1 hyB
 ·rcases List.mem_append.1 hu with h1 | h1
  ·exact h.ri.rch u h1
  ·simp at h1
   rw [h1];intro Q hQ hc;have hz:=h.ri.rch z hzS Q hQ hc;rcases zdc hy with ⟨rfl,rfl⟩ | ⟨rfl,rfl⟩
   ·exact (hc x hxT).1 hz
   ·exact (hc x hxT).2 hz
 ·exact List.mem_append.2 (.inl (h.ri.done j u hj (old (by have:=h.ri.le; omega) hu) v hv q hq))
 ·by_cases e:j=i
  ·subst e;rw [hx] at hu;cases hu;rw [hy] at hv;cases hv
   simp
  ·exact List.mem_append.2 (.inl (h.part j u (by omega) hu v hv))

theorem RJ.next {nb:Nat} {T:List LK} {b:Int} {S:List Int} {p:Nat} {z:Int} (h:RJ nb T b S p z T.length):RI nb T b S (p+1) where
 good:=h.ri.good
 here:=h.ri.here
 le:=(List.getElem?_eq_some_iff.1 h.at').1
 rch:=h.ri.rch
 done:=fun j u hj hu x hx y hy=>by
  by_cases e:j=p
  ·subst e;rw [h.at'] at hu;cases hu;obtain ⟨k,hk,rfl⟩:=List.mem_iff_getElem.1 hx;exact h.part k _ hk (List.getElem?_eq_getElem hk) y hy
  ·exact h.ri.done j u (by omega) hu x hx y hy

theorem RI.all {nb:Nat} {T:List LK} {b:Int} {S:List Int} (h:RI nb T b S S.length) {z:Int}:z∈S↔RchT T b z:=by
 refine ⟨h.rch z,fun hr=>hr _ h.here (fun x hx=>⟨fun ha => ?_,fun hb => ?_⟩)⟩
 ·obtain ⟨j,hj,e⟩:=List.mem_iff_getElem.1 ha;exact h.done j x.a hj (by rw [List.getElem?_eq_getElem hj,e]) x hx x.b (by unfold across; rw [if_pos rfl])
 ·by_cases e:x.b=x.a
  ·rw [← e]; exact hb
  ·obtain ⟨j,hj,e'⟩:=List.mem_iff_getElem.1 hb;exact h.done j x.b hj (by rw [List.getElem?_eq_getElem hj,e']) x hx x.a (by unfold across; rw [if_neg e,if_pos rfl])

theorem zdo (S:List Int):∀k,(zbR S k).Pairwise (fun a b=>a < b)
 | 0=>List.Pairwise.nil
 | k+1=>by
  unfold zbR
  split
  ·rw [List.pairwise_append];exact ⟨zdo S k,by simp,fun a ha c hc=>by simp at hc; rw [hc]; exact (zcs.1 ha).2.2⟩
  ·exact zdo S k

theorem zem {nb:Nat} {ls:List LK} {l cs S:List Int} {b:Int} (hcs:∀k,k∈cs↔k∈l) (hb:inB nb b=true) (h:RI nb (told nb ls cs) b S S.length):S.mergeSort leI=joined nb ls b l:=by
 have hj:joined nb ls b l=zbR (itTo nb ls l b nb) nb:=by unfold joined; rw [if_pos hb]
 have hp:=zdo (itTo nb ls l b nb) nb;have hperm:S.Perm (joined nb ls b l):=by
  rw [hj];refine (List.perm_ext_iff_of_nodup h.good.1 (hp.imp (fun hlt e=>by omega))).2 (fun z => ?_);rw [h.all,← zig hcs hb,← ziA hb,zcs];exact ⟨fun hz=>⟨hz,(zfx hb nb).2 z hz⟩,fun hz=>hz.1⟩
 rw [mergeSort_of_perm_i hperm];have tr:∀a b c:Int,leI a b=true→leI b c=true→leI a c=true:=fun a b c h1 h2=>by simp only [leI,decide_eq_true_eq] at *; omega
 have tot:∀a b:Int,(leI a b || leI b a)=true:=fun a b=>by simp only [leI,Bool.or_eq_true,decide_eq_true_eq]; omega
 refine List.Perm.eq_of_pairwise (le:=fun a b=>leI a b=true) (fun a c _ _ h1 h2 => ?_) (List.pairwise_mergeSort tr tot _) ?_ (List.mergeSort_perm _ leI)
 ·simp only [leI,decide_eq_true_eq] at h1 h2;omega
 ·rw [hj];exact hp.imp (fun hlt=>by simp only [leI,decide_eq_true_eq]; omega)

theorem zeC {d:Array Int}:∀m,m≤d.size→∀j,j < m→d[j]! ∈ compactUpTo d m
 | 0,_,j,hj=>absurd hj (Nat.not_lt_zero _)
 | m+1,hm,j,hj=>by
  rw [compactUpTo_succ];by_cases e:j=m
  ·subst e;by_cases hk:keeps d j=true
   ·rw [if_pos hk]; simp
   ·have hj0:¬(j=0∨d[j]! ≠ d[j - 1]!):=by simpa [keeps] using hk
    have h0:j≠0:=fun h=>hj0 (.inl h)
    have h1:d[j]! = d[j - 1]! := Classical.byContradiction fun h=>hj0 (.inr h)
    rw [h1];exact List.mem_append.2 (.inl (zeC j (by omega) (j - 1) (by omega)))
  ·exact List.mem_append.2 (.inl (zeC m (by omega) j (by omega)))

theorem zfo {zs:List Int} {z:Int}:z∈compact zs↔z∈zs:=by
 constructor
 ·intro h;unfold compact compactUpTo at h;obtain ⟨j,hj,rfl⟩:=List.mem_map.1 h;have hj:=List.mem_range.1 (List.mem_filter.1 hj).1
  simp [hj]
 ·intro h;obtain ⟨j,hj,rfl⟩:=List.mem_iff_getElem.1 h
  have:=zeC (d:=zs.toArray) zs.length (by simp) j hj
  unfold compact
  simpa [hj] using this
theorem ze9 {d:Array Int} (hd:∀i j,i≤j→j < d.size→d[i]! ≤ d[j]!):∀m,m≤d.size→(compactUpTo d m).Pairwise (fun a b=>a < b)∧∀z∈compactUpTo d m,∃j,j < m∧z=d[j]!
 | 0,_=>by simp [compactUpTo]
 | m+1,hm=>by
  obtain ⟨h1,h2⟩:=ze9 hd m (by omega);rw [compactUpTo_succ];have h3:∀z∈compactUpTo d m,∃j,j < m+1∧z=d[j]! := fun z hz=>by
   obtain ⟨j,hj,e⟩:=h2 z hz;exact ⟨j,by omega,e⟩
  by_cases hk:keeps d m=true
  ·rw [if_pos hk];refine ⟨List.pairwise_append.2 ⟨h1,by simp,fun a ha b hb => ?_⟩,fun z hz => ?_⟩
   ·obtain ⟨j,hj,rfl⟩:=h2 a ha;simp only [List.mem_singleton] at hb;subst hb;have hk2:m=0∨d[m]! ≠ d[m - 1]! := by simpa [keeps] using hk
    have a1:=hd j (m - 1) (by omega) (by omega);have a2:=hd (m - 1) m (by omega) (by omega);rcases hk2 with e | e
    ·omega
    ·omega
   ·rcases List.mem_append.1 hz with h | h
    ·exact h3 z h
    ·simp only [List.mem_singleton] at h;exact ⟨m,by omega,h⟩
  ·rw [if_neg hk,List.append_nil];exact ⟨h1,h3⟩
theorem zeh {zs:List Int} (h:zs.Pairwise (fun a b=>a≤b)):(compact zs).Nodup:=by
 have hp:=List.pairwise_iff_getElem.1 h
 have:=(ze9 (d:=zs.toArray) (fun i j hij hj=>by
  have hj2:j < zs.length:=by simpa using hj
  have hi2:i < zs.length:=by omega
  rcases Nat.lt_or_ge i j with hl | hl
  ·simpa [hi2,hj2] using hp i j hi2 hj2 hl
  ·have e:i=j:=by omega
   subst e;exact Int.le_refl _) zs.length (by simp)).1
 exact this.imp (fun hab e=>by omega)
theorem zdi (zs:List Int):(compact zs).length≤zs.length:=by
 unfold compact compactUpTo;rw [List.length_map];exact Nat.le_trans (List.length_filter_le _ _) (by simp)

/-! The map of what is reached. -/
open Go.Maps in
def setI (S:List Int):DataW Unit:=setOf (.agg []) (S.map (Lit.int .i64))
open Go.Maps in
theorem zhe (z:Int):WideAt.IsKeyLit (.int .i64 z):=by first | exact trivial | (simp [WideAt.IsKeyLit])
open Go.Maps in
theorem zel (S:List Int) (z:Int):has (setI S) (.int .i64 z)=S.contains z:=by
 unfold setI;rw [has_setOf _ _ _ (fun x hx=>by obtain ⟨y,_,rfl⟩:=List.mem_map.1 hx; exact zhe y)];rw [List.any_map,Bool.eq_iff_iff,List.any_eq_true,List.contains_iff_mem]
 constructor
 ·rintro ⟨y,hy,h⟩;by_cases e:y=z
  ·rw [← e]; exact hy
  ·have:=sameKey_ne (a:=Lit.int .i64 y) (b:=Lit.int .i64 z) (fun e'=>e (by simpa using e'))
   rw [Function.comp] at h;rw [this] at h;cases h
 ·intro h;exact ⟨z,h,WideAt.sameKey_self (zhe z)⟩
open Go.Maps in
theorem zhu (S:List Int) (z:Int):setI (S++[z])=(setI S).put (.int .i64 z) (.agg []):=by
 unfold setI;rw [List.map_append];exact setOf_snoc _ _ _

end

section
open Go.RowKit Go.Lib

abbrev q298:Oper:=⟨some 17,.move (.tmp 7),3,"l15_agree.go:70",#[],none⟩
abbrev q299:Oper:=⟨some 18,.fieldAddr 28 (.tmp 2) 1,0,"l15_agree.go:70",#[],none⟩
abbrev q300:Oper:=⟨some 19,.load 25 (.tmp 18),25,"l15_agree.go:70",#[⟨1,.data⟩],none⟩
abbrev q301:Oper:=⟨some 20,.call ⟨.builtin .len,#[.tmp 19],#[25]⟩,3,"l15_agree.go:70",#[⟨2,.data⟩],none⟩
abbrev q302:Oper:=⟨some 21,.binOp .sub 3 (.tmp 20) (.const (.int .i64 1)) 3,3,"l15_agree.go:70",#[⟨3,.data⟩],none⟩
abbrev q303:Oper:=⟨some 22,.call ⟨.value (.func 51),#[.tmp 17,.const (.int .i64 0),.tmp 21],#[3,3,3]⟩,4,"l15_agree.go:70",#[⟨0,.data⟩,⟨4,.data⟩],none⟩
abbrev q304:Oper:=⟨some 23,.move (.tmp 22),4,"l15_agree.go:70",#[⟨5,.data⟩,⟨5,.chain⟩],none⟩
abbrev q305:Oper:=⟨some 24,.load 28 (.tmp 2),28,"l15_agree.go:70",#[⟨6,.guard⟩],some (6,true)⟩
abbrev q306:Oper:=⟨some 25,.fieldAddr 28 (.tmp 2) 1,0,"l15_agree.go:70",#[⟨6,.guard⟩],some (6,true)⟩
abbrev q307:Oper:=⟨some 26,.load 25 (.tmp 25),25,"l15_agree.go:70",#[⟨8,.data⟩,⟨6,.guard⟩],some (6,true)⟩
abbrev q308:Oper:=⟨some 27,.move (.tmp 7),3,"l15_agree.go:70",#[⟨6,.guard⟩],some (6,true)⟩
abbrev q309:Oper:=⟨some 28,.indexAddr 25 (.tmp 26) (.tmp 27),0,"l15_agree.go:70",#[⟨9,.data⟩,⟨10,.data⟩,⟨6,.guard⟩],some (6,true)⟩
abbrev q310:Oper:=⟨some 29,.load 66 (.tmp 28),66,"l15_agree.go:70",#[⟨11,.data⟩,⟨6,.guard⟩],some (6,true)⟩
abbrev q311:Oper:=⟨some 30,.call ⟨.value (.func 65),#[.tmp 24,.tmp 29],#[28,66]⟩,4,"l15_agree.go:70",#[⟨7,.data⟩,⟨12,.data⟩,⟨6,.chain⟩,⟨6,.guard⟩],some (6,true)⟩
abbrev q312:Oper:=⟨some 31,.pick (.tmp 23) (.tmp 30) (.const (.bool false)),4,"l15_agree.go:70",#[⟨6,.data⟩,⟨13,.data⟩],none⟩

theorem zhA {nb:Nat} {ls:List LK} {cs:List Int} {k:Nat} {z:Int} (h:cs[k]? = some z) (h0:zbZ nb ls z=none):told nb ls (cs.take (k+1))=told nb ls (cs.take k):=by
 unfold told;rw [List.take_add_one,h,List.filterMap_append]
 simp [h0]
theorem zio {nb:Nat} {ls:List LK} {cs:List Int} {k:Nat} {z:Int} {x:LK} (h:cs[k]? = some z) (h0:zbZ nb ls z=some x):told nb ls (cs.take (k+1))=told nb ls (cs.take k)++[x]:=by
 unfold told;rw [List.take_add_one,h,List.filterMap_append]
 simp [h0]
theorem ziP {ls:List LK} {ln:Nat} {z:Int} (h:inB ln z=false) (hs:ls.length=ln):zbU ls z=none:=by
 unfold zbU
 split
 ·rw [List.getElem?_eq_none];have h1:¬inB ln z=true:=by rw [h]; simp
  rw [zaH] at h1;omega
 ·rfl
theorem zin (nb:Nat) (ls:List LK) (cs:List Int):(told nb ls cs).length≤cs.length:=List.length_filterMap_le _ _

theorem zfp {w:World} {base n:Nat} {v:Value} {zs:List Int} (hn:zs.length=n) (h:w.ownsRow base 3 1 v n (zs.map encZ)) :
  Calls Tryz.prog 63 #[v] w fun e w'=>∃ao cap,e=.returned (.slice ao (compact zs).length cap)∧GRow intF w' ao (compact zs).length cap (compact zs)∧(∀W0,Below base W0 w→Below base W0 w'):=by
 subst hn;obtain ⟨-,⟨rfl,h0⟩ | ⟨g,cap,cur,rfl,hb,hg,r1,r2,r3,r4⟩⟩:=h
 ·have hz:zs=[]:=List.eq_nil_of_length_eq_zero h0;subst hz;refine (Tryz.slices_Compact_int_empty none 0 w).mono ?_;rintro e w' ⟨rfl,rfl⟩;exact ⟨none,0,rfl,zcp intF _,fun _ hW=>hW⟩
 ·have hH:Go.Sort.Holds (Value.int .i64) w g 0 zs.toArray:=holds_of_block_i hg (by simpa using r4);refine (Tryz.slices_Compact_int g 0 cap zs w hH (by unfold maxLen at r2; omega) r1).mono ?_;rintro e w' ⟨rfl,q,rfl⟩;have hcl:=zdi zs;have hH2:=Go.Sort.holds_putRow (Value.int .i64) (Go.Sort.ahead w q) g 0 zs.toArray (compact zs++List.replicate (zs.length - (compact zs).length) 0).toArray (Go.Sort.holds_ahead _ _ _ _ _ _ hH) (by simp; omega);have hgr:w.grownBy (Go.Sort.putRow (Value.int .i64) (Go.Sort.ahead w q) g 0 (compact zs++List.replicate (zs.length - (compact zs).length) 0).toArray) (some g):=⟨rfl,rfl,rfl,by simp [Go.Sort.putRow,Go.Sort.mapBlock,Go.Sort.ahead],fun k hk hne=>by
   have:g≠k:=fun e=>hne (by rw [e])
   simp [Go.Sort.putRow,Go.Sort.mapBlock,Go.Sort.ahead,Array.getElem?_modify,this]⟩
  refine ⟨some ⟨g,0,none⟩,cap,rfl,⟨rfl,by omega,r2,(by intro h; cases h),.inr ⟨g,0,rfl,fun i x hx j v hv => ?_⟩⟩,fun W0 hW=>hW.grown hgr (Nat.le_of_lt (Nat.lt_of_le_of_lt hb (Array.getElem?_eq_some_iff.1 hg).1)) (fun k e=>by cases e; exact hb)⟩;have hi:i < (compact zs).length:=(List.getElem?_eq_some_iff.1 hx).1;obtain ⟨hc,-⟩:=hH2 i (by simp; omega);have hj:j=0:=by
   have:=(List.getElem?_eq_some_iff.1 hv).1
   simp [intF] at this
   omega
  subst hj;have hv:v=.int .i64 x:=by simpa [intF] using hv.symm
  subst hv;have e1:((compact zs++List.replicate (zs.length - (compact zs).length) 0).toArray)[i]! = x:=by
   have hx':(compact zs)[i]=x:=by rw [List.getElem?_eq_getElem hi] at hx; simpa using hx
   simp [hi,hx',List.getElem?_append_left hi]
  rw [e1] at hc
  simpa [intF] using hc

theorem zeo (N:NV) (la:Option Addr) (n c:Nat) (l:List Int) (w:World) (h:zac w N) (hl:GRow intF w la n c l) (hn:n≤1048576) :
  Calls Tryz.prog 35 #[.agg #[.slice N.ba N.bn N.bc,.slice N.la N.ln N.lc,.slice N.sa N.sn N.sc],.slice la n c] w fun e w'=>∃(cs:List Int) (ao:Option Addr) (cap:Nat),(∀k,k∈cs↔k∈l)∧cs.Nodup∧cs.length≤n∧e=.returned (.slice ao (told N.bn N.ls cs).length cap)∧w'.ownsRow w.heap.size 66 4 (.slice ao (told N.bn N.ls cs).length cap) (told N.bn N.ls cs).length (linkF.all (told N.bn N.ls cs))∧Below w.heap.size w w':=by
 have HLL:Hid (N.ln≤9223372036854775807):=hide (by have:=Nat.le_trans h.l.le h.l.top; unfold maxLen at this; omega);have HSL:=hide h.l.size;have HSN:=hide hl.size;generalize hw1:w.alloc (Obj.cells #[.slice N.ba N.bn N.bc,.slice N.la N.ln N.lc,.slice N.sa N.sn N.sc] 28)=w1;generalize hw2:w1.alloc (Obj.cells #[.slice la n c] 35)=w2;have b01:=zb hw1;have b12:=zb hw2;have b02:=zc b01 b12;have k1:=za (zk hw1) b12;have k2:=zk hw2;have hc2:w2.cell? ⟨w1.heap.size,0,none⟩=some (.slice la n c):=by simp [World.cell?,k2]
 have hl2:=hl.below b02;have hI:zda w2 (.slice la n c) l:=by
  have hsz:=hl2.size;rcases hl2.cell with h0 | ⟨b,off,rfl,hcell⟩
  ·have hz:l=[]:=List.eq_nil_of_length_eq_zero (by omega);subst hz;subst h0;exact .inl ⟨la,c,rfl,rfl⟩
  ·refine .inr ⟨b,off,c,by rw [hsz],fun j hj => ?_⟩
   have:=hcell j l[j] (List.getElem?_eq_getElem hj) 0 _ rfl
   have hcl:w2.cell? ⟨b,off+j,none⟩=some (.int .i64 l[j]):=by simpa [intF] using this
   exact ⟨zp hcl,by rw [hcl,List.getElem?_eq_getElem hj]; rfl⟩
 have hB1:w1.heap.size < w2.heap.size:=(Array.getElem?_eq_some_iff.1 k2).1;have hn16:l.length≤16777216:=by have:=hl.size; omega
 go_enter Tryz.func35,Tryz.ntmps35;go_wp2_with fail
 refine (zgT la n c _).mono ?_;rintro e w2' ⟨rfl,rfl⟩;rw [hw2];go_wp2_with fail
 refine (zdO (.slice la n c) l w1.heap.size w2 hn16 hB1 hc2 hI).mono ?_;rintro e w3 ⟨v3,rfl,ow3,-,hb3⟩;clear hw1 hw2 b01 b12 k2 hc2 hI hl2 hB1 hn16;go_wp2_with fail
 refine (zfp (by rw [List.length_mergeSort]) ow3).mono ?_;rintro e w5 ⟨ca,cc,rfl,hC,hbb⟩;have b0:=zc b02 (hbb _ hb3);have k5:=za k1 (hbb _ hb3);have HK:Hid (w.heap.size < w5.heap.size):=hide (Array.getElem?_eq_some_iff.1 k5).1;have HCM:Hid (∀k,k∈compact (l.mergeSort (fun x y=>decide (x≤y)))↔k∈l):=hide (fun k=>zfo.trans List.mem_mergeSort);have HCO:Hid ((compact (l.mergeSort (fun x y=>decide (x≤y)))).Nodup):=hide (zeh ((List.pairwise_mergeSort (le:=fun x y:Int=>decide (x≤y)) (fun a b c h1 h2=>by simp only [decide_eq_true_eq] at *; omega) (fun a b=>by simp only [Bool.or_eq_true,decide_eq_true_eq]; omega) l).imp (fun h=>by simpa using h)));have HCN:Hid ((compact (l.mergeSort (fun x y=>decide (x≤y)))).length≤n):=hide (by have:=zdi (l.mergeSort (fun x y=>decide (x≤y))); rw [List.length_mergeSort] at this; have:=HSN.out; omega);clear hbb hb3 ow3 k1 b02;generalize compact (l.mergeSort (fun x y=>decide (x≤y)))=cs at hC HCM HCN HCO;have HCL:Hid (cs.length≤1048576):=hide (by have:=HCN.out; omega);go_wp2_with fail
 go_loopw [5,7,13] (fun p u i wr=>∃(k:Nat) (ao:Option Addr) (cap:Nat),k≤cs.length∧i=.int .i64 k∧p=.slice ao (told N.bn N.ls (cs.take k)).length cap∧wr.ownsRow w5.heap.size 66 4 (.slice ao (told N.bn N.ls (cs.take k)).length cap) (told N.bn N.ls (cs.take k)).length (linkF.all (told N.bn N.ls (cs.take k)))∧Below w5.heap.size w5 wr) (fun _ _ i _=>cs.length - (intOf i).toNat)
 case atStart=>exact ⟨0,none,0,Nat.zero_le _,rfl,rfl,World.ownsRow_nil _ _ _ _,Below.refl _ _⟩
 case round =>
  obtain ⟨k,ao,cap,hk,rfl,rfl,ow,hb⟩:=hrel;have hcl:=HCL.out;have kP:=za k5 hb;obtain ⟨x0,x1,x2⟩:=zd kP;by_cases hlt:k < cs.length
  ·have i1:(0:Int)≤(k:Int):=by omega
   have i2:(k:Int) < (cs.length:Int):=by omega
   obtain ⟨z,b,off,hz,rfl,c0⟩:=zfv (hC.below hb) k hlt;have HZ2:=hide hz;clear hz;have vv:Below wr.heap.size wr wr.drew:=zG (Below.refl _ _);have hww:IntKind.i64.wrap ((N.ln:Int) - 1)=(N.ln:Int) - 1:=by rw [IntKind.wrap_i64]; have:=HLL.out; omega
   cases hB:inB N.ln z
   ·have HBB:Hid ((decide (0≤z) && decide (z≤(N.ln:Int) - 1))=false):=hide hB;have HTN:Hid (told N.bn N.ls (cs.take (k+1))=told N.bn N.ls (cs.take k)):=hide (zhA HZ2.out (by unfold zbZ; rw [ziP hB HSL.out]));clear hB;(go_upto_region 5 with fail);refine wp_region_held_drew (S:=(fun W=>(zcc W w.heap.size 0 (.slice N.ba N.bn N.bc)∧zcc W w.heap.size 1 (.slice N.la N.ln N.lc)∧zcc W w.heap.size 2 (.slice N.sa N.sn N.sc)))) (by kernel_rfl) ((zd (za kP vv))) (fun hHeld => ?_);refine kK 0 q298 ?_;refine kK 1 q299 ?_;refine kK 2 q300 ?_;refine kK 3 q301 ?_;refine kK 4 q302 ?_;refine kR 5 q303 (fun K hK => ?_);go_simp;clear hHeld;refine (zap z 0 ((N.ln:Int) - 1) _).mono ?_;rintro e wz ⟨rfl,ez⟩;obtain rfl:=ez.symm;rw [HBB.out];(go_wp2_with fail);refine kO hK ((zd (za kP vv))) fun hHeld => ?_
    clear hK K;refine kK 6 q304 ?_;refine kN 7 q305 ?_;refine kN 8 q306 ?_;refine kN 9 q307 ?_;refine kN 10 q308 ?_;refine kN 11 q309 ?_;refine kN 12 q310 ?_;refine kN 13 q311 ?_;refine kK 14 q312 ?_;refine wpAnyH_done (by kernel_rfl) ?_ _;have hb:=zc hb vv;have ow:=zi ow vv;clear hHeld vv;generalize hwd:wr.drew=wd at *;have HOW:=hide ow;have HB:=hide hb;clear ow hb kP x0 x1 x2;go_wp2
    go_roundw
    case rel=>exact ⟨k+1,ao,cap,by omega,by go_num,by rw [HTN.out],by rw [HTN.out]; exact HOW.out,HB.out⟩
    case measure=>simp [intOf]; omega
   ·obtain ⟨m,rfl⟩:∃m:Nat,z=(m:Int):=⟨z.toNat,by have:=zaH.1 hB; omega⟩;have hm:m < N.ln:=by have:=zaH.1 hB; omega
    obtain ⟨x,lb,lo,hx,hla,-⟩:=zak (h.l.below (zc b0 hb)) m hm;have HBB:Hid ((decide (0≤(m:Int)) && decide ((m:Int)≤(N.ln:Int) - 1))=true):=hide hB;have HLK:Hid (zbU N.ls (m:Int)=some x):=hide (by unfold zbU; rw [if_pos (by omega),Int.toNat_natCast,hx]);have HX:=hide hx;have HLA:=hide hla;have HSX:Hid (∀W,Below wr.heap.size wr W→(zcc W w.heap.size 0 (.slice N.ba N.bn N.bc)∧zcc W w.heap.size 1 (.slice (some ⟨lb,lo,none⟩) N.ln N.lc)∧zcc W w.heap.size 2 (.slice N.sa N.sn N.sc))∧(zcc W lb (lo+m*4) (.int .i64 x.a)∧zcc W lb (lo+m*4+1) (.int .i64 x.p)∧zcc W lb (lo+m*4+2) (.int .i64 x.b)∧zcc W lb (lo+m*4+3) (.int .i64 x.q))):=hide (fun W hW=>by
     have kW:=za kP hW;obtain ⟨u0,u1,u2⟩:=zd kW;rw [HLA.out] at u1;obtain ⟨x',lb',lo',hx',hla',a0,a1,a2,a3⟩:=zak (h.l.below (zc (zc b0 hb) hW)) m hm;rw [HX.out] at hx';cases hx';rw [HLA.out] at hla';cases hla';exact ⟨⟨u0,u1,u2⟩,a0,a1,a2,a3⟩)
    have i3:(0:Int)≤(m:Int):=by omega
    have i4:(m:Int) < (N.ln:Int):=by omega
    clear hB hx hla x0 x1 x2;(go_upto_region 5 with fail);refine wp_region_held_drew (S:=(fun W=>(zcc W w.heap.size 0 (.slice N.ba N.bn N.bc)∧zcc W w.heap.size 1 (.slice (some ⟨lb,lo,none⟩) N.ln N.lc)∧zcc W w.heap.size 2 (.slice N.sa N.sn N.sc))∧(zcc W lb (lo+m*4) (.int .i64 x.a)∧zcc W lb (lo+m*4+1) (.int .i64 x.p)∧zcc W lb (lo+m*4+2) (.int .i64 x.b)∧zcc W lb (lo+m*4+3) (.int .i64 x.q)))) (by kernel_rfl) ((by first | exact HSS.out | exact HSX.out _ vv)) (fun hHeld => ?_);refine kK 0 q298 ?_;refine kK 1 q299 ?_;refine kK 2 q300 ?_;refine kK 3 q301 ?_;refine kK 4 q302 ?_;refine kR 5 q303 (fun K hK => ?_);go_simp;clear hHeld;refine (zap (m:Int) 0 ((N.ln:Int) - 1) _).mono ?_;rintro e wz ⟨rfl,ez⟩;obtain rfl:=ez.symm;rw [HBB.out];(go_wp2_with fail);refine kO hK ((by first | exact HSS.out | exact HSX.out _ vv)) fun hHeld => ?_
    clear hK K;refine kK 6 q304 ?_;refine kK 7 q305 ?_;refine kK 8 q306 ?_;refine kK 9 q307 ?_;refine kK 10 q308 ?_;refine kK 11 q309 ?_;refine kK 12 q310 ?_;refine kR 13 q311 (fun K hK => ?_);go_simp;clear hHeld;have hbd:=zc hb vv;rw [← HLA.out];refine (zgs N x _ (h.below (zc b0 hbd))).mono ?_;rintro e w6 ⟨rfl,hb6⟩;have hb:=zc hbd hb6;have ow:=zi (zi ow vv) hb6;have kP:=za (za kP vv) hb6;have HSS:=hide (HSX.out w6 (zc vv hb6));clear hbd hb6 vv;obtain ⟨x0,x1,x2⟩:=zd kP;(go_wp2_with fail);refine kO hK ((by first | exact HSS.out | exact HSX.out _ vv)) fun hHeld => ?_
    clear hK K;refine kK 14 q312 ?_;refine wpAnyH_done (by kernel_rfl) ?_ _;clear hHeld;generalize hQ:(inB N.bn x.a && inB N.bn x.b)=Q;have HQ:=hide hQ;clear hQ;generalize hwd:w6=wd at *;cases Q
    ·have HTN:Hid (told N.bn N.ls (cs.take (k+1))=told N.bn N.ls (cs.take k)):=hide (zhA HZ2.out (by unfold zbZ; rw [HLK.out]; dsimp only; rw [HQ.out]; rfl));have HOW:=hide ow;have HB:=hide hb;clear ow hb kP x0 x1 x2;go_wp2
     go_roundw
     case rel=>exact ⟨k+1,ao,cap,by omega,by go_num,by rw [HTN.out],by rw [HTN.out]; exact HOW.out,HB.out⟩
     case measure=>simp [intOf]; omega
    ·have HTN:Hid (told N.bn N.ls (cs.take (k+1))=told N.bn N.ls (cs.take k)++[x]):=hide (zio HZ2.out (by unfold zbZ; rw [HLK.out]; dsimp only; rw [HQ.out]; rfl));have HTL:Hid ((told N.bn N.ls (cs.take (k+1))).length=(told N.bn N.ls (cs.take k)).length+1):=hide (by rw [HTN.out,List.length_append]; rfl);have HLQ:=hide (Nat.le_trans (zin N.bn N.ls (cs.take k)) (by rw [List.length_take]; exact Nat.min_le_left _ _));obtain ⟨x',lb',lo',hx',hla',a0,a1,a2,a3⟩:=zak (h.l.below (zc b0 hb)) m hm;rw [HX.out] at hx';cases hx';rw [HLA.out] at hla';cases hla';generalize hwa:wd.alloc (Obj.cells #[.int .i64 x.a,.int .i64 x.p,.int .i64 x.b,.int .i64 x.q] 66)=wa;have bra:=zb hwa;have ka:=zk hwa;have gone:GRow linkF wa (some ⟨wd.heap.size,0,none⟩) 1 1 [x]:=zA (F:=linkF) (zcR linkF (x:=x) (base:=0) ka rfl (Nat.zero_le _));have hI2:=zi ow bra;have HBA:=hide (zc hb bra);rw [HLA.out] at x1;clear ow hb kP;go_wp2_with (at_builtin; refine zS (F:=linkF) _ rfl _ _ 25 66 rfl w5.heap.size Tryz.underlying25 zaw rfl (by decide) _ (told N.bn N.ls (cs.take k)).length (told N.bn N.ls (cs.take k)) rfl hI2 (some ⟨wd.heap.size,0,none⟩) 1 1 [x] rfl gone (by have:=HLQ.out; omega) HBA.out.size ?_)
     intro a7 c7 w7 how hr hgr hb7;rw [← HTN.out] at how;have HOW:=hide how;have HB:=hide (HBA.out.trans hb7);clear how hr hgr hb7 hI2 gone ka hwa bra x0 x1 x2 a0 a1 a2 a3;go_wp2
     go_roundw
     case rel=>exact ⟨k+1,a7,c7,by omega,by go_num,by rw [HTL.out],by rw [HTL.out]; exact HOW.out,HB.out⟩
     case measure=>simp [intOf]; omega
  ·have hkn:k=cs.length:=by omega
   subst hkn;have HO:=hide ow;have HB:=hide hb;clear ow hb kP x0 x1 x2;go_wp2;go_ret;refine ⟨cs,ao,cap,HCM.out,HCO.out,HCN.out,by first | rfl | (rw [List.take_length]; rfl), ?_,zc b0 HB.out⟩
   have:=HO.out
   rw [List.take_length] at this;exact zB this (Nat.le_of_lt HK.out)

end

end Go.Proofs.YtkaefmfopejbaaaGreat
