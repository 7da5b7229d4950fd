/-
  Packed: VtabCopy MibTh ZerosNil MibCat VtabOr VtabSet VtabRowM BrOwn VtabHelp MibBind CloneI.
-/
import Derived.Test.YtcpdkcdfnpcemabGreatPGK04
import Derived.Test.YtcpdkcdfnpcemabGreatPGK05
import Derived.Test.YtcpdkcdfnpcemabGreatPGVtabOkS
import Derived.Lib.AppendZeros
namespace Go.Proofs.YtcpdkcdfnpcemabGreat
set_option maxRecDepth 100000
set_option maxHeartbeats 16000000
open Go.RowKit

def intF:Flat Int where
 k:=1
 cs:=fun x=>[.int .i64 x]
 len:=fun _=>rfl
 pos:=by decide
 one:=fun _ v hv=>by
  simp only [List.mem_cons,List.not_mem_nil,or_false] at hv;subst hv
  rfl

theorem z7:∀(l:List Int),intF.all l=cI l
 | []=>rfl
 | x::l=>by
  have:=z7 l
  rw [Flat.all_cons,this]
  rfl

theorem IRow.flat {w:World} {ao:Option Addr} {n c:Nat} {l:List Int} (h:IRow w ao n c l):GRow intF w ao n c l where
 size:=h.size
 le:=h.le
 top:=h.top
 nil:=h.nil
 cell:=by
  rcases h.cell with h0 | ⟨b,off,ha,hc⟩
  ·exact .inl h0
  ·refine .inr ⟨b,off,ha,fun i x hi j v hv => ?_⟩;have hl:=(List.getElem?_eq_some_iff.1 hi).1;have hs:=h.size
   have:=hc i (by omega)
   rw [List.getD_eq_getElem?_getD,hi] at this
   match j,hv with
   | 0,hv =>
    cases hv
    show w.cell? ⟨b,off+i*1+0,none⟩=_
    rw [Nat.mul_one,Nat.add_zero];exact this
   | j+1,hv=>simp [intF] at hv

theorem zad {w w':World} {base k:Nat} {e:TypeId} {v:Value} {n:Nat} {xs:List Value} (h:w.ownsRow base e k v n xs) {base2 k2:Nat} {e2:TypeId} {v2:Value} {n2:Nat} {xs2:List Value} (h2:w.ownsRow base2 e2 k2 v2 n2 xs2) (hne:(e:Nat)≠e2) (hg:w.grownBy w' v2.ownBlock):w'.ownsRow base e k v n xs:=by
 refine h.kept hg ?_;obtain ⟨-,h | ⟨g,cap,cur,e1,-,hh,-⟩⟩:=h
 ·rw [h.1]; exact .inl rfl
 ·obtain ⟨-,h2 | ⟨g2,cap2,cur2,e2',-,hh2,-⟩⟩:=h2
  ·rw [h2.1]; exact .inr (by rw [e1]; intro hc; cases hc)
  ·refine .inr (fun hc => ?_);rw [e1,e2'] at hc;have hgg:g=g2:=by simpa [Value.ownBlock] using hc
   subst hgg;rw [hh] at hh2;cases hh2;exact hne rfl

structure VOwn (w:World) (base:Nat) (a:Option Addr) (n c:Nat) (o:Option Addr) (p q:Nat) (v:VT):Prop where
 rows:w.ownsRow base 113 3 (.slice a n c) n (vrowF.all v.rows)
 own:w.ownsRow base 3 1 (.slice o p q) p (cI v.own)
 i64:I64s v.own

theorem VOwn.tab {w:World} {base:Nat} {a:Option Addr} {n c:Nat} {o:Option Addr} {p q:Nat} {v:VT} (h:VOwn w base a n c o p q v):VTab w a n c o p q v:=⟨zT (F:=vrowF) h.rows,zO h.own h.i64⟩

section
open Go.RowKit

structure TL where
 a:Option Addr
 n:Nat
 c:Nat
 z:List Int

def tlF:Flat TL where
 k:=1
 cs:=fun x=>[.slice x.a x.n x.c]
 len:=fun _=>rfl
 pos:=by decide
 one:=fun _ v hv=>by
  simp only [List.mem_cons,List.not_mem_nil,or_false] at hv;subst hv
  rfl

structure TH where
 oa:Option Addr
 on:Nat
 oc:Nat
 wb:Nat
 pb:Nat
 d:BD

def thF:Flat TH where
 k:=2
 cs:=fun x=>[.slice x.oa x.on x.oc,.func (.func 205) #[] #[.pointer (some ⟨x.wb,0,none⟩),.pointer (some ⟨x.pb,0,none⟩)]]
 len:=fun _=>rfl
 pos:=by decide
 one:=fun _ v hv=>by
  simp only [List.mem_cons,List.not_mem_nil,or_false] at hv;rcases hv with rfl | rfl <;> rfl

theorem zfB:(Tryz.prog.info? 83).map (fun i=>(i.zero,i.size,i.bytes))=some (some (.agg #[.slice none 0 0,.nilFunc]),thF.k,32):=by kernel_rfl
theorem zfD:(Tryz.prog.info? 25).map (fun i=>(i.zero,i.size,i.bytes))=some (some (.slice none 0 0),tlF.k,24):=by kernel_rfl

structure THs (w:World) (base:Nat) (l:List TH):Prop where
 item:∀x∈l,w.ownsRow base 3 1 (.slice x.oa x.on x.oc) x.on (cI x.d.o)
 i64:∀x∈l,I64s x.d.o
 apart:(l.flatMap (fun x=>blkL x.oa)).Nodup

theorem zfC (w:World) (base:Nat):THs w base []:=⟨(by intro x hx; cases hx),(by intro x hx; cases hx),List.nodup_nil⟩

section
variable {w w' w1:World} {base base':Nat} {l l1 l2:List TH}
theorem THs.below (h:THs w base l) (hb:Below w.heap.size w w'):THs w' base l:=⟨fun x hx=>zY (h.item x hx) hb,h.i64,h.apart⟩
theorem THs.lt (h:THs w base l) (hb:base'≤base):THs w base' l:=⟨fun x hx=>zbN (h.item x hx) hb,h.i64,h.apart⟩
theorem THs.only {bs:List Nat} (h:THs w base l) (ho:Only bs w w') (hn:∀x∈l,∀b∈blkL x.oa,b∉bs):THs w' base l :=
 ⟨fun x hx=>ho.own (h.item x hx) (fun k hk=>hn x hx k (zP.1 hk)),h.i64,h.apart⟩
theorem THs.blk (h:THs w base l):∀b∈l.flatMap (fun x=>blkL x.oa),base≤b∧b < w.heap.size:=by
 intro b hb;obtain ⟨x,hx,hb⟩:=List.mem_flatMap.1 hb;exact (h.item x hx).lt b (zP.2 hb)
theorem THs.append (h1:THs w base l1) (hb:Below w.heap.size w w') (h2:THs w' base' l2) (hle:w.heap.size≤base') (hbs:base≤base'):THs w' base (l1++l2):=by
 have k1:=h1.below hb;have k2:=h2.lt hbs;refine ⟨?_, ?_, ?_⟩
 ·intro x hx;rcases List.mem_append.1 hx with hx | hx
  ·exact k1.item x hx
  ·exact k2.item x hx
 ·intro x hx;rcases List.mem_append.1 hx with hx | hx
  ·exact k1.i64 x hx
  ·exact k2.i64 x hx
 ·rw [List.flatMap_append];refine List.nodup_append.2 ⟨h1.apart,h2.apart, ?_⟩;intro a ha b hb' e;subst e;have e1:=(h1.blk a ha).2;have e2:=(h2.blk a hb').1;omega
theorem THs.push {ao:Option Addr} {n cap:Nat} {xs:List Value} {rb:Nat} {y:TH} (h:THs w base l) (hb:Below w.heap.size w w1) (hy:w1.ownsRow w.heap.size 3 1 (.slice y.oa y.on y.oc) y.on (cI y.d.o)) (hz:I64s y.d.o) (hbs:base≤w.heap.size)
  (hr:w1.ownsRow rb 83 2 (.slice ao n cap) n xs) (hg:w1.grownBy w' (Value.slice ao n cap).ownBlock):THs w' base (l++[y]):=by
 have hne:(3:Nat)≠83:=by decide
 have hone:THs w1 w.heap.size [y]:=⟨fun x hx=>by rw [List.mem_singleton.1 hx]; exact hy,fun x hx=>by rw [List.mem_singleton.1 hx]; exact hz,by cases he:y.oa <;> simp [blkL,he]⟩;have hall:=h.append hb hone (Nat.le_refl _) hbs;exact hall.only (Only.of_grown hg) (fun x hx b hb1 hb2=>zaX (hall.item x hx) hr hne (zP.2 hb1) (zP.2 hb2))
end

def zdg (w:World) (x:TH):Prop :=
 ∀w',Below w.heap.size w w'→Calls Tryz.prog 205 #[.pointer (some ⟨x.wb,0,none⟩),.pointer (some ⟨x.pb,0,none⟩)] w' fun e w''=>e=.returned (.agg #[.int .i64 x.d.K,.int .i64 x.d.N,.string x.d.S,.slice none 0 0])∧Below w'.heap.size w' w''

theorem zdg.below {w w1:World} {x:TH} (h:zdg w x) (hb:Below w.heap.size w w1):zdg w1 x:=fun w' hw=>h w' (ze hb hw)

structure Things (w:World) (base:Nat) (ao:Option Addr) (cap:Nat) (l:List TH):Prop where
 row:GRow thF w ao l.length cap l
 names:THs w base l
 gives:∀x∈l,zdg w x
 nil:∀x∈l,x.d.z=[]∧x.d.S.size≤maxLen∧x.on=x.d.o.length

theorem Things.below {w w':World} {base:Nat} {ao:Option Addr} {cap:Nat} {l:List TH} (h:Things w base ao cap l) (hb:Below w.heap.size w w'):Things w' base ao cap l :=
 ⟨h.row.below hb,h.names.below hb,fun x hx=>(h.gives x hx).below hb,h.nil⟩

theorem th_at {w:World} {ao:Option Addr} {len cap:Nat} {l:List TH} (h:GRow thF w ao len cap l) (i:Nat) (hi:i < len):∃(x:TH) (b off:Nat),l[i]? = some x∧ao=some ⟨b,off,none⟩∧w.cell? ⟨b,off+i*2,none⟩=some (.slice x.oa x.on x.oc)∧w.cell? ⟨b,off+i*2+1,none⟩=some (.func (.func 205) #[] #[.pointer (some ⟨x.wb,0,none⟩),.pointer (some ⟨x.pb,0,none⟩)]):=by
 obtain ⟨x,b,off,hx,ha,hc⟩:=h.at i hi;exact ⟨x,b,off,hx,ha,hc 0 _ rfl,hc 1 _ rfl⟩

theorem tl_at {w:World} {ao:Option Addr} {len cap:Nat} {l:List TL} (h:GRow tlF w ao len cap l) (i:Nat) (hi:i < len):∃(x:TL) (b off:Nat),l[i]? = some x∧ao=some ⟨b,off,none⟩∧w.cell? ⟨b,off+i,none⟩=some (.slice x.a x.n x.c):=by
 obtain ⟨x,b,off,hx,ha,hc⟩:=h.at i hi
 have:=hc 0 _ rfl
 exact ⟨x,b,off,hx,ha,by simpa [tlF] using this⟩

def rowTo (g:Nat→BD):Nat→List BD
 | 0=>[]
 | k+1=>rowTo g k++[g k]
def zaQ (G:Nat→Nat→BD) (n:Nat):Nat→List BD
 | 0=>[]
 | k+1=>zaQ G n k++rowTo (G k) n

theorem zci {α:Type} {f:Nat→α→BD} {l:List α} {g:Nat→BD} (h:∀i x,l[i]? = some x→g i=f i x):∀k,k≤l.length→rowTo g k=zV f l k
 | 0,_=>rfl
 | k+1,hk=>by
  have hx:l[k]? = some l[k]:=List.getElem?_eq_getElem (by omega);rw [rowTo,za5 hx,zci h k (by omega),h k _ hx]

theorem zcp {G:Nat→Nat→BD} {n:Nat} {g:Int→List BD} (h:∀i,rowTo (G i) n=g ((i:Int)+1)):∀k,zaQ G n k=zI g k
 | 0=>rfl
 | k+1=>by rw [zaQ,zI,zcp h k,h k]

end

theorem zde {P:Program} (w:World) (t tn ty e:TypeId) (i:TypeInfo) (z:Value) (k kn:IntKind) (ht:P.underlying t=some (.slice e)) (htn:P.underlying tn=some (.int kn)) (hi:P.info? e=some i) (hz:i.zero=some z)
  (n:Nat) (h0:0 < n) (hs:0 < i.size) (h63:((n:Nat):Int)≤9223372036854775807) (h48:n*i.bytes≤140737488355328) :
  (Builtin.append_ #[t,tn] ty #[.slice none 0 0,.int k n]).run P w =
   .ok (.slice (some ⟨w.heap.size,0,none⟩) n (grownCap w n 0 e))
    (w.drew.alloc (.cells (Builtin.zeroCells z.cells n++Builtin.zeroCells z.cells (grownCap w n 0 e - n)) e)):=by
 have hw:IntKind.i64.wrap (n:Int)=n:=by rw [IntKind.wrap_i64]; omega
 have h63':¬(9223372036854775807 < (n:Int)):=by omega
 have h48':¬(281474976710656 < Builtin.nextslicecap n 0*i.bytes):=by
  have:=growslice_fits (need:=n) (old:=0) (bytes:=i.bytes) (by omega) h48
  omega
 have h48i:¬(281474976710656 < (n:Int)*(i.bytes:Int)):=by
  rw [← Int.natCast_mul];omega
 have hneg:¬((n:Int) < 0):=by omega
 have hns:¬(n*i.size=0):=Nat.mul_ne_zero (by omega) (by omega);have hn0:¬n=0:=by omega
 simp [Builtin.append_,run_underlying ht,run_underlying htn,sizeOf,typeInfo,zeroValue,hi,hz,asInt,asIntOf,hw,hneg,hns,h63',h48',h48i,Question.forced,Builtin.firstCells,newRow,grownCap,hn0]

structure SL where
 a:Option Addr
 n:Nat
 c:Nat
 l:List TH

def slF:Flat SL where
 k:=1
 cs:=fun x=>[.slice x.a x.n x.c]
 len:=fun _=>rfl
 pos:=by decide
 one:=fun _ v hv=>by
  simp only [List.mem_cons,List.not_mem_nil,or_false] at hv;subst hv
  rfl

theorem sl_at {w:World} {ao:Option Addr} {len cap:Nat} {l:List SL} (h:GRow slF w ao len cap l) (i:Nat) (hi:i < len):∃(x:SL) (b off:Nat),l[i]? = some x∧ao=some ⟨b,off,none⟩∧w.cell? ⟨b,off+i,none⟩=some (.slice x.a x.n x.c):=by
 obtain ⟨x,b,off,hx,ha,hc⟩:=h.at i hi
 have:=hc 0 _ rfl
 exact ⟨x,b,off,hx,ha,by simpa [slF] using this⟩

def sumS (l:List SL):Nat→Nat
 | 0=>0
 | k+1=>match l[k]? with
  | some x=>sumS l k+x.n
  | none=>sumS l k
def catS (l:List SL):Nat→List TH
 | 0=>[]
 | k+1=>match l[k]? with
  | some x=>catS l k++x.l
  | none=>catS l k
theorem zeH {l:List SL} {k:Nat} {x:SL} (h:l[k]? = some x):sumS l (k+1)=sumS l k+x.n:=by rw [sumS,h]
theorem zfS {l:List SL} {k:Nat} {x:SL} (h:l[k]? = some x):catS l (k+1)=catS l k++x.l:=by rw [catS,h]
theorem zfz (l:List SL):∀{k m:Nat},k≤m→sumS l k≤sumS l m
 | k,0,h=>by rw [Nat.le_zero.1 h]; exact Nat.le_refl _
 | k,m+1,h=>by
  by_cases e:k=m+1
  ·rw [e]; exact Nat.le_refl _
  ·have:=zfz l (show k≤m by omega)
   rw [sumS]
   split <;> omega

theorem zd4 (m:Nat) (w:World) (h0:0 < m) (hm:m≤33554432) :
  Calls Tryz.prog 167 #[.slice none 0 0,.int .i64 m] w fun e w'=>∃a' c',e=.returned (.slice a' 0 c')∧w'.ownsRow w.heap.size 83 2 (.slice a' 0 c') 0 (thF.all [])∧Below w.heap.size w w':=by
 obtain ⟨i0,hi0,hz0,hz1,hz2⟩:=zaL zfB;have hk3:thF.k=2:=rfl;rw [hk3] at hz1;obtain ⟨NC,hNC⟩:∃NC,NC=grownCap w m 0 83:=⟨_,rfl⟩;have hge:m≤NC:=by rw [hNC]; exact grownCap_ge w m 0 83
 have hcm:NC≤maxLen:=by rw [hNC]; exact grownCap_le_maxLen w m 0 83 (by unfold maxLen; omega)
 obtain ⟨C0,hC0⟩:∃C0:Array Value,C0=Builtin.zeroCells #[.slice none 0 0,.nilFunc] m++Builtin.zeroCells #[.slice none 0 0,.nilFunc] (NC - m):=⟨_,rfl⟩;have hap:∀ty,(Builtin.append_ #[79,3] ty #[.slice none 0 0,.int .i64 m]).run Tryz.prog w=.ok (.slice (some ⟨w.heap.size,0,none⟩) m NC) (w.drew.alloc (.cells C0 83)):=fun ty=>by
  rw [hC0,hNC];exact zde (P:=Tryz.prog) w 79 3 ty 83 i0 (.agg #[.slice none 0 0,.nilFunc]) .i64 .i64 Tryz.underlying79 Tryz.underlying3 hi0 hz0 m h0 (by omega) (by omega) (by rw [hz2]; omega)
 have hC0s:C0.size=NC*2:=by
  rw [hC0];simp only [Array.size_append,size_zeroCells]
  simp
  omega
 have hown:(w.drew.alloc (.cells C0 83)).ownsRow w.heap.size 83 2 (.slice (some ⟨w.heap.size,0,none⟩) 0 NC) 0 (thF.all []) :=
  ⟨by simp [Flat.all],.inr ⟨w.heap.size,NC,C0,rfl,Nat.le_refl _,zz w.drew _,Nat.zero_le _,hcm,hC0s,by simp [Flat.all]⟩⟩
 have HO:=hide hown;have HB:Hid (Below w.heap.size w (w.drew.alloc (.cells C0 83))):=hide (ze (zR (Below.refl _ _)) (zg w.drew _));have hpos:(0:Int) < (m:Int):=by omega
 have hnn:¬((m:Int) < 0):=by omega
 have hwm:IntKind.i64.wrap (m:Int)=(m:Int):=by rw [IntKind.wrap_i64]; omega
 clear hown hC0 hC0s hge hi0 hz0 hz1 hz2 hNC;go_enter Tryz.func167,Tryz.ntmps167;go_wp2_with (at_builtin; refine Lib.wpList_append_run _ rfl _ _ _ _ rfl _ _ rfl rfl _ _ (hap _) ?_)
 go_wp2;go_ret;exact ⟨_,_,rfl,HO.out,HB.out⟩

theorem zcX (g m:Nat) (ss:List SL) (w:World) (hg:GRow slF w (some ⟨g,0,none⟩) m m ss) (hr:∀x∈ss,GRow thF w x.a x.n x.c x.l) (hs:sumS ss m≤33554432) (hp:0 < sumS ss m) (hm:m≤1000) :
  Calls Tryz.prog 126 #[.slice (some ⟨g,0,none⟩) m m] w fun e w'=>∃a' c',e=.returned (.slice a' (sumS ss m) c')∧GRow thF w' a' (sumS ss m) c' (catS ss m)∧Below w.heap.size w w':=by
 have HS:=hide hs;have HG:=hide hg;clear hg;go_enter Tryz.func126,Tryz.ntmps126;go_wp2
 go_loop [3,11] (fun s i=>∃k:Nat,k≤m∧i=.int .i64 k∧s=.int .i64 (sumS ss k:Int)) (fun _ i=>m - (intOf i).toNat)
 case atStart=>exact ⟨0,Nat.zero_le _,rfl,rfl⟩
 case round =>
  obtain ⟨k,hk,rfl,rfl⟩:=hrel;by_cases hkm:k < m
  ·obtain ⟨x,gb,off,hx,hga,cc⟩:=sl_at HG.out k hkm;cases hga;rw [Nat.zero_add] at cc;have hkm':(k:Int) < (m:Int):=by omega
   have HX:=hide (zeH hx);have hle:=HS.out;have h2:=zfz ss (show k+1≤m by omega);rw [HX.out] at h2;have e1:IntKind.i64.wrap ((sumS ss k:Int)+(x.n:Int))=(sumS ss k:Int)+(x.n:Int):=by rw [IntKind.wrap_i64]; omega
   have j1:¬((sumS ss k:Int)+(x.n:Int) < 0):=by omega
   clear hx hs;go_wp2
   go_round
   case rel=>exact ⟨k+1,by omega,by go_num,by rw [HX.out]; go_num⟩
   case measure=>simp [intOf]; omega
  ·have hkm':¬(k:Int) < (m:Int):=by omega
   have hke:k=m:=by omega
   subst hke;(go_wp2_with fail);refine (zd4 (sumS ss k) _ hp HS.out).mono ?_;rintro e w1 ⟨a',c',rfl,ho,hb⟩;clear hs;go_wp2
   go_loopw [6,27] (fun s i wr=>∃(j:Nat) (ar:Option Addr) (cr:Nat),j≤k∧i=.int .i64 j∧s=.slice ar (sumS ss j) cr∧wr.ownsRow w.heap.size 83 2 (.slice ar (sumS ss j) cr) (sumS ss j) (thF.all (catS ss j))∧Below w.heap.size w wr) (fun _ i _=>k - (intOf i).toNat)
   case atStart=>exact ⟨0,a',c',Nat.zero_le _,rfl,rfl,ho,hb⟩
   case round =>
    obtain ⟨j,ar,cr,hj,rfl,rfl,ho,hb⟩:=hrel;by_cases hjk:j < k
    ·obtain ⟨x,gb,off,hx,hga,cc⟩:=sl_at (HG.out.below hb) j hjk;cases hga;rw [Nat.zero_add] at cc;have hjk':(j:Int) < (k:Int):=by omega
     have HX:=hide (zeH hx);have HCX:=hide (zfS hx);have h2:=zfz ss (show j+1≤k by omega);rw [HX.out] at h2;have hle:=HS.out;have hrx:=(hr x (List.mem_of_getElem? hx)).below hb;have HB:=hide hb;have hbs:=hb.size;clear hx hb;go_wp2_with (at_builtin; refine zy (F:=thF) _ rfl _ _ 79 83 rfl w.heap.size Tryz.underlying79 zfB rfl (by decide) _ (sumS ss j) (catS ss j) rfl ho x.a x.n x.c x.l rfl hrx (by omega) hbs ?_)
     intro a7 c7 w7 how _ _ hb7;have HO:=hide how;have HB7:=hide (HB.out.trans hb7);clear how hb7 ho cc;go_wp2
     go_roundw
     case rel=>exact ⟨j+1,a7,c7,by omega,by go_num,by rw [HX.out],by rw [HX.out,HCX.out]; exact HO.out,HB7.out⟩
     case measure=>simp [intOf]; omega
    ·have hjk':¬(j:Int) < (k:Int):=by omega
     have hje:j=k:=by omega
     subst hje;have HO:=hide ho;have HB:=hide hb;clear ho hb;go_wp2;go_ret;exact ⟨ar,cr,rfl,zT (F:=thF) HO.out,HB.out⟩

theorem VOwn.below {w w':World} {base:Nat} {a:Option Addr} {n c:Nat} {o:Option Addr} {p q:Nat} {v:VT} (h:VOwn w base a n c o p q v) (hb:Below w.heap.size w w'):VOwn w' base a n c o p q v :=
 ⟨zD h.rows hb,zD h.own hb,h.i64⟩

theorem VOwn.lt {w:World} {base base':Nat} {a:Option Addr} {n c:Nat} {o:Option Addr} {p q:Nat} {v:VT} (h:VOwn w base a n c o p q v) (hle:base'≤base):VOwn w base' a n c o p q v :=
 ⟨zbz h.rows hle,zbz h.own hle,h.i64⟩

theorem VOwn.set2 {w:World} {base:Nat} {a:Option Addr} {n c:Nat} {o:Option Addr} {p q:Nat} {v:VT} (h:VOwn w base a n c o p q v) {g:Nat} (hg:g < base) (u1 u2:Value):VOwn ((w.setCell ⟨g,0,none⟩ u1).setCell ⟨g,1,none⟩ u2) base a n c o p q v:=by
 have hl:∀b,some g=some b→b < base:=by intro b hb; cases hb; exact hg
 exact ⟨z8 (z8 h.rows (zi (rb:=g) 0 u1) hl) (zi (rb:=g) 1 u2) hl,z8 (z8 h.own (zi (rb:=g) 0 u1) hl) (zi (rb:=g) 1 u2) hl,h.i64⟩

theorem VOwn.len {w:World} {base:Nat} {a:Option Addr} {n c:Nat} {o:Option Addr} {p q:Nat} {v:VT} (h:VOwn w base a n c o p q v):v.rows.length=n∧v.own.length=p:=⟨h.tab.rows.size,h.tab.own.size⟩

theorem zbe {w:World} {base k:Nat} {e:TypeId} {v:Value} {n:Nat} {xs:List Value} (h:w.ownsRow base e k v n xs) {X:Nat} {cs:Array Value} {T:TypeId} (hX:w.heap[X]? = some (.cells cs T)) (hne:(e:Nat)≠T):∀b,v.ownBlock=some b→b≠X:=by
 obtain ⟨-,h | ⟨g,cap,cur,rfl,-,hh,-⟩⟩:=h
 ·rw [h.1]; intro b hb; cases hb
 ·intro b hb e
  have:g=b:=by simpa [Value.ownBlock] using hb
  subst this e;rw [hh] at hX;cases hX;exact hne rfl

structure BrOwn (w:World) (base:Nat) (a:Option Addr) (n c:Nat) (fa:Option Addr) (fn fc:Nat) (ra:Option Addr) (rn rc:Nat) (oa:Option Addr) (on oc:Nat) (B:BR):Prop where
 ports:w.ownsRow base 120 8 (.slice a n c) n (ptF.all B.ports)
 f:w.ownsRow base 116 5 (.slice fa fn fc) fn (fentF.all B.f)
 v:VOwn w base ra rn rc oa on oc B.v

theorem BrOwn.row {w:World} {base:Nat} {a:Option Addr} {n c:Nat} {fa:Option Addr} {fn fc:Nat} {ra:Option Addr} {rn rc:Nat} {oa:Option Addr} {on oc:Nat} {B:BR} (h:BrOwn w base a n c fa fn fc ra rn rc oa on oc B):BrRow w a n c fa fn fc ra rn rc oa on oc B :=
 ⟨zT (F:=ptF) h.ports,zT (F:=fentF) h.f,h.v.tab⟩

theorem BrOwn.below {w w':World} {base:Nat} {a:Option Addr} {n c:Nat} {fa:Option Addr} {fn fc:Nat} {ra:Option Addr} {rn rc:Nat} {oa:Option Addr} {on oc:Nat} {B:BR} (h:BrOwn w base a n c fa fn fc ra rn rc oa on oc B) (hb:Below w.heap.size w w'):BrOwn w' base a n c fa fn fc ra rn rc oa on oc B :=
 ⟨zD h.ports hb,zD h.f hb,h.v.below hb⟩

theorem BrOwn.lt {w:World} {base base':Nat} {a:Option Addr} {n c:Nat} {fa:Option Addr} {fn fc:Nat} {ra:Option Addr} {rn rc:Nat} {oa:Option Addr} {on oc:Nat} {B:BR} (h:BrOwn w base a n c fa fn fc ra rn rc oa on oc B) (hle:base'≤base):BrOwn w base' a n c fa fn fc ra rn rc oa on oc B :=
 ⟨zbz h.ports hle,zbz h.f hle,h.v.lt hle⟩

theorem BrOwn.apart {w w':World} {base:Nat} {a:Option Addr} {n c:Nat} {fa:Option Addr} {fn fc:Nat} {ra:Option Addr} {rn rc:Nat} {oa:Option Addr} {on oc:Nat} {B:BR} (h:BrOwn w base a n c fa fn fc ra rn rc oa on oc B) {row:Option Nat} (hg:w.grownBy w' row) (hlt:∀b,row=some b→b < base):BrOwn w' base a n c fa fn fc ra rn rc oa on oc B :=
 ⟨z8 h.ports hg hlt,z8 h.f hg hlt,⟨z8 h.v.rows hg hlt,z8 h.v.own hg hlt,h.v.i64⟩⟩

theorem BrOwn.boxed {w:World} {base:Nat} {a:Option Addr} {n c:Nat} {fa:Option Addr} {fn fc:Nat} {ra:Option Addr} {rn rc:Nat} {oa:Option Addr} {on oc:Nat} {B:BR} (h:BrOwn w base a n c fa fn fc ra rn rc oa on oc B) {X:Nat} {cs:Array Value} (hX:w.heap[X]? = some (.cells cs 40)) (j:Nat) (u:Value):BrOwn (w.setCell ⟨X,j,none⟩ u) base a n c fa fn fc ra rn rc oa on oc B :=
 ⟨zaJ h.ports (zi (rb:=X) j u) (zbe h.ports hX (by decide)),zaJ h.f (zi (rb:=X) j u) (zbe h.f hX (by decide)),
  ⟨zaJ h.v.rows (zi (rb:=X) j u) (zbe h.v.rows hX (by decide)),zaJ h.v.own (zi (rb:=X) j u) (zbe h.v.own hX (by decide)),h.v.i64⟩⟩

theorem BrOwn.newPorts {w w':World} {base:Nat} {a:Option Addr} {n c:Nat} {fa:Option Addr} {fn fc:Nat} {ra:Option Addr} {rn rc:Nat} {oa:Option Addr} {on oc:Nat} {B:BR} (h:BrOwn w base a n c fa fn fc ra rn rc oa on oc B) (hg:w.grownBy w' (Value.slice a n c).ownBlock) {a':Option Addr} {n' c':Nat} {l:List PT} (hp:w'.ownsRow base 120 8 (.slice a' n' c') n' (ptF.all l)) :
  BrOwn w' base a' n' c' fa fn fc ra rn rc oa on oc { B with ports:=l } :=
 ⟨hp,zad h.f h.ports (by decide) hg,⟨zad h.v.rows h.ports (by decide) hg,zad h.v.own h.ports (by decide) hg,h.v.i64⟩⟩

theorem BrOwn.newF {w w':World} {base:Nat} {a:Option Addr} {n c:Nat} {fa:Option Addr} {fn fc:Nat} {ra:Option Addr} {rn rc:Nat} {oa:Option Addr} {on oc:Nat} {B:BR} (h:BrOwn w base a n c fa fn fc ra rn rc oa on oc B) (hg:w.grownBy w' (Value.slice fa fn fc).ownBlock) {fa':Option Addr} {fn' fc':Nat} {l:List FE} (hp:w'.ownsRow base 116 5 (.slice fa' fn' fc') fn' (fentF.all l)) :
  BrOwn w' base a n c fa' fn' fc' ra rn rc oa on oc { B with f:=l } :=
 ⟨zad h.ports h.f (by decide) hg,hp,⟨zad h.v.rows h.f (by decide) hg,zad h.v.own h.f (by decide) hg,h.v.i64⟩⟩

theorem box11 {w:World} {g:Nat} {cs:Array Value} {T:TypeId} (h:w.heap[g]? = some (.cells cs T)) (j:Nat) (u:Value):(w.setCell ⟨g,j,none⟩ u).heap[g]? = some (.cells (cs.setIfInBounds j u) T):=zr (j:=j) h u

structure Between (B E:Nat) (w w':World):Prop where
 below:Below B w w'
 block:∀i,i < w.heap.size→E≤i→w'.heap[i]? = w.heap[i]?

theorem Between.of_below {B E:Nat} {w w':World} (h:Below w.heap.size w w') (hB:B≤w.heap.size):Between B E w w':=⟨h.mono hB,fun i hi _=>h.block i hi⟩

theorem Between.of_grown {B E:Nat} {w w':World} {row:Option Nat} (h:w.grownBy w' row) (hB:B≤w.heap.size) (hr:∀k,row=some k→B≤k∧k < E):Between B E w w' :=
 ⟨(Below.refl _ _).grown h hB (fun k hk=>(hr k hk).1),fun i hi hE=>h.block i hi (fun e=>by have:=hr i e.symm; omega)⟩

theorem Between.trans {B E:Nat} {w w1 w2:World} (h:Between B E w w1) (k:Between B E w1 w2):Between B E w w2 :=
 ⟨h.below.trans k.below,fun i hi hE=>(k.block i (Nat.lt_of_lt_of_le hi h.below.size) hE).trans (h.block i hi hE)⟩

theorem Between.own {B E:Nat} {w w':World} (h:Between B E w w') {base k:Nat} {e:TypeId} {v:Value} {n:Nat} {xs:List Value} (ho:w.ownsRow base e k v n xs) (hE:E≤base):w'.ownsRow base e k v n xs:=by
 have hlt:=ho.lt;obtain ⟨hl,ho | ⟨g,cap,cur,rfl,hg,hh,h1,h2,h3,h4⟩⟩:=ho
 ·exact ⟨hl,.inl ho⟩
 ·refine ⟨hl,.inr ⟨g,cap,cur,rfl,hg, ?_,h1,h2,h3,h4⟩⟩;rw [h.block g (hlt g rfl).2 (by omega)];exact hh

theorem VOwn.between {w w':World} {base:Nat} {a:Option Addr} {n c:Nat} {o:Option Addr} {p q:Nat} {v:VT} (h:VOwn w base a n c o p q v) {B E:Nat} (hb:Between B E w w') (hE:E≤base):VOwn w' base a n c o p q v :=
 ⟨hb.own h.rows hE,hb.own h.own hE,h.i64⟩

theorem zes (a:Option Addr) (n c:Nat) (o:Option Addr) (p q:Nat) (v:VT) (w:World) (h:VTab w a n c o p q v) (hn:n≤1048576) (hp:p≤1048576) :
  Calls Tryz.prog 42 #[.agg #[.slice a n c,.slice o p q]] w fun e w'=>∃a' c' o' q',e=.returned (.agg #[.slice a' n c',.slice o' p q'])∧VOwn w' w.heap.size a' n c' o' p q' v∧Below w.heap.size w w':=by
 generalize hw1:w.alloc (Obj.cells #[Value.slice a n c,Value.slice o p q] 27)=w1;generalize hw2:w1.alloc (Obj.cells #[Value.slice none 0 0,Value.slice none 0 0] 38)=w2;generalize hw3:w2.alloc (Obj.cells #[Value.slice none 0 0,Value.slice none 0 0] 38)=w3;have b01:=zb hw1;have b12:=zb hw2;have b23:=zb hw3;have b02:=ze b01 b12;have b03:=ze b02 b23;have b13:=ze b12 b23;have k1:=zk hw2;have k2:=zk hw3;have z2:w1.heap.size < w2.heap.size:=by rw [← hw2]; simp
 have z3:w2.heap.size < w3.heap.size:=by rw [← hw3]; simp
 have Z2:=hide z2;have Z3:=hide z3;clear z2 z3;obtain ⟨x0,x1⟩:=zaw hw1 b13;go_enter Tryz.func42,Tryz.ntmps42;go_wp2_with fail
 refine (zdT a n c v.rows _ (h.rows.below b03) hn).mono ?_;rintro e w4 ⟨a4,c4,rfl,hR,-,hb4⟩;have k4:=zd k2 hb4;obtain ⟨⟨g0,g1⟩,f0,f1⟩:=zau k4;generalize hw5:w4.setCell ⟨w2.heap.size,0,none⟩ (.slice a4 n c4)=w5;have b45:Below w2.heap.size w4 w5:=by subst hw5; exact zl (Below.refl _ _) (Nat.le_refl _) _ _
 have b25:Below w2.heap.size w2 w5:=(ze b23 hb4).trans b45;have b15:=ze b12 b25;have b05:=ze b02 b25;have hR5:w5.ownsRow w3.heap.size 113 3 (.slice a4 n c4) n (vrowF.all v.rows):=by
  rw [← hw5];exact z8 hR (zi (rb:=w2.heap.size) 0 _) (by intro b hb; cases hb; exact Z3.out)
 have k5:w5.heap[w2.heap.size]? = some (.cells #[.slice a4 n c4,.slice none 0 0] 38):=by
  have:=zr (j:=0) k4 (.slice a4 n c4)
  rw [hw5] at this;exact this
 have s35:Hid (w3.heap.size≤w5.heap.size):=hide (by have:=hb4.size; have:=b45.size; omega);obtain ⟨y0,y1⟩:=zaw hw1 b15;clear hR x0 x1;go_wp2_with fail
 clear g0 g1 f0 f1;refine (zaj o p q v.own _ (h.own.below b05) (by omega)).mono ?_;rintro e w6 ⟨a6,c6,rfl,hI,-,hb6⟩;have k6:=zd k5 hb6;obtain ⟨⟨g0,g1⟩,f0,f1⟩:=zau k6;generalize hw7:w6.setCell ⟨w2.heap.size,1,none⟩ (.slice a6 p c6)=w7;have b67:Below w2.heap.size w6 w7:=by subst hw7; exact zl (Below.refl _ _) (Nat.le_refl _) _ _
 have b27:Below w2.heap.size w2 w7:=(b25.trans (hb6.mono b25.size)).trans b67;have b07:=ze b02 b27;have hR7:w7.ownsRow w3.heap.size 113 3 (.slice a4 n c4) n (vrowF.all v.rows):=by
  rw [← hw7];exact z8 (zD hR5 hb6) (zi (rb:=w2.heap.size) 1 _) (by intro b hb; cases hb; exact Z3.out)
 have hI7:w7.ownsRow w3.heap.size 3 1 (.slice a6 p c6) p (cI v.own):=by
  rw [← hw7];exact z8 (zbz hI s35.out) (zi (rb:=w2.heap.size) 1 _) (by intro b hb; cases hb; exact Z3.out)
 have k7:w7.heap[w2.heap.size]? = some (.cells #[.slice a4 n c4,.slice a6 p c6] 38):=by
  have:=zr (j:=1) k6 (.slice a6 p c6)
  rw [hw7] at this;exact this
 have k71:=zd k1 b27;clear hI hR5 y0 y1;obtain ⟨⟨u0,u1⟩,-⟩:=zau k7;obtain ⟨⟨t0,t1⟩,e0,e1⟩:=zau k71;have hV:VOwn w7 w3.heap.size a4 n c4 a6 p c6 v:=⟨hR7,hI7,h.own.byte⟩;have HO:=hide ((hV.set2 (g:=w1.heap.size) (Nat.lt_trans Z2.out Z3.out) (.slice a4 n c4) (.slice a6 p c6)).lt (base':=w.heap.size) b03.size);have HB:=hide (zl (zl b07 b01.size 0 (.slice a4 n c4)) b01.size 1 (.slice a6 p c6));clear hV hR7 hI7;go_wp2;exact bodyPost_ret (v:=.agg #[.slice a4 n c4,.slice a6 p c6]) (by simp [results,Tryz.results42,go_sem, *]) rfl ⟨_,_,_,_,rfl,HO.out,HB.out⟩

theorem zd3 (a:Option Addr) (n c:Nat) (o:Option Addr) (p q:Nat) (a2:Option Addr) (n2 c2:Nat) (o2:Option Addr) (p2 q2:Nat) (v:VT) (w:World) (h:VTab w a n c o p q v) (h2:VTab w a2 n2 c2 o2 p2 q2 v) :
  Calls Tryz.prog 47 #[.agg #[.slice a n c,.slice o p q],.agg #[.slice a2 n2 c2,.slice o2 p2 q2]] w fun e w'=>e=.returned (.bool true)∧Below w.heap.size w w':=by
 generalize hw1:w.alloc (Obj.cells #[Value.slice a n c,Value.slice o p q] 38)=w1;generalize hw2:w1.alloc (Obj.cells #[Value.slice a2 n2 c2,Value.slice o2 p2 q2] 38)=w2;have b01:=zb hw1;have b12:=zb hw2;have b02:=ze b01 b12;obtain ⟨x0,x1⟩:=zaw hw1 b12;obtain ⟨x2,x3⟩:=zaw hw2 (Below.refl _ w2);go_enter Tryz.func47,Tryz.ntmps47;go_wp2_with fail
 refine (zdn a n c a2 n2 c2 v.rows _ (h.rows.below b02) (h2.rows.below b02)).mono ?_;rintro e w3 ⟨rfl,hb3⟩;obtain ⟨y0,y1⟩:=zaw hw1 (ze b12 hb3);obtain ⟨y2,y3⟩:=zaw hw2 hb3;have b03:=ze b02 hb3;clear x0 x1 x2 x3;go_wp2_with fail
 refine (zcg o p q o2 p2 q2 v.own _ (h.own.below b03) (h2.own.below b03)).mono ?_;rintro e w4 ⟨rfl,m,rfl⟩;have HB:=hide (zfW b03 m);clear y0 y1 y2 y3;go_wp2;go_ret;exact ⟨rfl,HB.out⟩

theorem zep (L:Int) (hL0:0≤L) (hL1:L≤1048576) (a:Option Addr) (n c:Nat) (o:Option Addr) (p q:Nat) (w:World) (hl:n≤maxLen) (hl2:p≤maxLen) :
  Calls Tryz.prog 37 #[.agg #[.slice a n c,.slice o p q],.int .i64 L] w fun e w'=>e=.returned (.int .i64 (if (n:Int)+(p:Int)≤L then L - n - p else -1))∧Below w.heap.size w w':=by
 generalize hw1:w.alloc (Obj.cells #[Value.slice a n c,Value.slice o p q] 27)=w1;have b01:=zb hw1;obtain ⟨x0,x1⟩:=zaw hw1 (Below.refl _ w1);generalize hV:(if (n:Int)+(p:Int)≤L then L - n - p else -1)=V;have HV:=hide hV;clear hV;go_enter Tryz.func37,Tryz.ntmps37;go_wp2_with fail
 refine (zeo a n c L _ hl (by omega) (by omega)).mono ?_;rintro e w2 ⟨rfl,e2⟩;obtain rfl:=e2.symm;by_cases h1:(n:Int)≤L
 ·rw [if_pos h1];have j1:¬(L - (n:Int) < 0):=by omega
  (go_wp2_with fail);refine (zen o p q (L - n) _ hl2 (by omega) (by omega)).mono ?_;rintro e w2 ⟨rfl,e2⟩;obtain rfl:=e2.symm;by_cases h2:(p:Int)≤L - n
  ·rw [if_pos h2];have j2:¬(L - (n:Int) - (p:Int) < 0):=by omega
   have HE:Hid (V=L - n - p):=hide (by rw [← HV.out,if_pos (by omega)]);go_wp2;go_ret;exact ⟨(by rw [HE.out]; rfl),b01⟩
  ·rw [if_neg h2];have HE:Hid (V = -1):=hide (by rw [← HV.out,if_neg (by omega)]);go_wp2;go_ret;exact ⟨(by rw [HE.out]; rfl),b01⟩
 ·rw [if_neg h1];have HE:Hid (V = -1):=hide (by rw [← HV.out,if_neg (by omega)]);go_wp2;go_ret;exact ⟨(by rw [HE.out]; rfl),b01⟩

def markT (k:Int) (n p:Nat):VT:=⟨zaT k n,zae (k+3*n) p⟩

theorem zda (K:Int) (hK0:0≤K) (hK1:K≤549755813888) (B E:Nat) (a:Option Addr) (n c:Nat) (o:Option Addr) (p q:Nat) (v:VT) (w:World) (h:VOwn w B a n c o p q v) (hB:B≤w.heap.size) (hE1:∀k,(Value.slice a n c).ownBlock=some k→k < E) (hE2:∀k,(Value.slice o p q).ownBlock=some k→k < E) (hn:n≤16777216) (hp:p≤16777216) :
  Calls Tryz.prog 50 #[.agg #[.slice a n c,.slice o p q],.int .i64 K] w fun e w'=>e=.returned (.int .i64 (K+3*n+p))∧VOwn w' B a n c o p q (markT K n p)∧Between B E w w'∧(∀(b2 k2:Nat) (e2:TypeId) (v2:Value) (n2:Nat) (xs2:List Value),w.ownsRow b2 e2 k2 v2 n2 xs2→(e2:Nat)≠113→(e2:Nat)≠3→w'.ownsRow b2 e2 k2 v2 n2 xs2):=by
 have l1:=h.rows.lt;have l2:=h.own.lt;generalize hw1:w.alloc (Obj.cells #[Value.slice a n c,Value.slice o p q] 38)=w1;have b01:=zb hw1;have kb:=zk hw1;obtain ⟨⟨x0,x1⟩,-⟩:=zau kb;have h1:=h.below b01;have bt1:Between B E w w1:=Between.of_below b01 hB;go_enter Tryz.func50,Tryz.ntmps50;go_wp2_with fail
 refine (zcu B a n c v.rows K _ h1.rows hn (by omega) (by omega)).mono ?_;rintro e w2 ⟨rfl,hR,hg⟩;have bt2:=bt1.trans (Between.of_grown hg (Nat.le_trans hB b01.size) (fun k hk=>⟨(l1 k hk).1,hE1 k hk⟩));have hI:=zad h1.own h1.rows (by decide) hg;have kb2:=zA kb hg (fun k hk=>by have:=(l1 k hk).2; omega);obtain ⟨⟨y0,y1⟩,-⟩:=zau kb2;have hg2:=hg;clear x0 x1 hg;go_wp2_with fail
 refine (zaO B o p q v.own (K+3*n) _ hI hp (by omega) (by omega)).mono ?_;rintro e w3 ⟨rfl,hI3,hg⟩;have bt3:=bt2.trans (Between.of_grown hg (Nat.le_trans hB bt2.below.size) (fun k hk=>⟨(l2 k hk).1,hE2 k hk⟩));have hR3:=zad hR hI (by decide) hg;have HO:Hid (VOwn w3 B a n c o p q (markT K n p)):=hide ⟨hR3,hI3,zbB _ _ (by omega) (by omega) hp⟩;have HT:=hide bt3;have HK:Hid ((∀(b2 k2:Nat) (e2:TypeId) (v2:Value) (n2:Nat) (xs2:List Value),w.ownsRow b2 e2 k2 v2 n2 xs2→(e2:Nat)≠113→(e2:Nat)≠3→w3.ownsRow b2 e2 k2 v2 n2 xs2)):=hide (fun b2 k2 e2 v2 n2 xs2 ho hn1 hn2=>zad (zad (zD ho b01) h1.rows hn1 hg2) hI hn2 hg);clear hR hI hR3 hI3 hg hg2 y0 y1 bt2 bt3;go_wp2;go_ret;exact ⟨rfl,HO.out,HT.out,HK.out⟩

theorem zfP (x:TH) (w:World) (hg:zdg w x) :
  Calls Tryz.prog 54 #[.agg #[.slice x.oa x.on x.oc,.func (.func 205) #[] #[.pointer (some ⟨x.wb,0,none⟩),.pointer (some ⟨x.pb,0,none⟩)]]] w fun e w'=>e=.returned (.agg #[.slice x.oa x.on x.oc,.int .i64 x.d.K,.int .i64 x.d.N,.string x.d.S,.slice none 0 0])∧Below w.heap.size w w':=by
 generalize hw1:w.alloc (Obj.cells #[.slice x.oa x.on x.oc,.func (.func 205) #[] #[.pointer (some ⟨x.wb,0,none⟩),.pointer (some ⟨x.pb,0,none⟩)]] 83)=w1;have b1:=zb hw1;have k1:=zk hw1;have HS1:Hid (w1.heap.size=w.heap.size+1):=hide (by rw [← hw1]; simp);generalize hw2:w1.alloc (Obj.cells #[.slice none 0 0,.int .i64 0,.int .i64 0,.string ⟨#[]⟩,.slice none 0 0] 51)=w2;have b12:=zb hw2;have kr0:=zk hw2;have kb:=zd k1 b12;have b2:=ze b1 b12;obtain ⟨⟨c0,c1⟩,-⟩:=zau kb;go_enter Tryz.func54,Tryz.ntmps54;go_upto_region 1 with fail
 clear c0 c1 hw1 hw2 k1 b1 b12;have vv:Below w2.heap.size w2 w2.drew:=zR (Below.refl _ _);refine wp_region_held_drew (S:=(fun W=>(zcc W w.heap.size 0 (.slice x.oa x.on x.oc)∧zcc W w.heap.size 1 (.func (.func 205) #[] #[.pointer (some ⟨x.wb,0,none⟩),.pointer (some ⟨x.pb,0,none⟩)])))) (by kernel_rfl) ((by first | exact (zau kbq).1 | exact (zau (zd kb vv)).1)) (fun hHeld => ?_);refine kK 0 ?_;refine kK 1 ?_;refine kK 2 ?_;refine kK 3 ?_;refine kR 4 fun K hK => ?_
 go_simp;clear hHeld;refine (hg _ (ze b2 vv)).mono ?_;rintro e z1 ⟨rfl,h1⟩;have vv:=ze vv h1;clear h1;go_wp2_with fail
 refine kO hK ((by first | exact (zau kbq).1 | exact (zau (zd kb vv)).1)) fun hHeld => ?_
 clear hK K;refine kK 5 ?_;refine kR 6 fun K hK => ?_
 clear hHeld;have kr:=zd kr0 vv;obtain ⟨⟨p0,p1,p2,p3,p4⟩,f0,f1,f2,f3,f4⟩:=zm kr;go_simp;clear p0 p1 p2 p3 p4 f0 f1 f2 f3 f4;refine zdz (K:=K _) kr _ _ _ _ _ (fun wq kq gq => ?_);have kbq:=zA (zd kb vv) gq (fun k hk=>by cases hk; have:=HS1.out; show w1.heap.size≠w.heap.size; omega);have HQ:Hid (Below w.heap.size w wq):=hide ((ze b2 vv).grown gq (ze b2 vv).size (fun k hk=>by cases hk; have:=HS1.out; show w.heap.size≤w1.heap.size; omega));clear kr gq;refine kO hK ((by first | exact (zau kbq).1 | exact (zau (zd kb vv)).1)) fun hHeld => ?_
 clear hK K;refine wpAnyH_done (by kernel_rfl) ?_ _;obtain ⟨⟨p0,p1,p2,p3,p4⟩,-⟩:=zm kq;clear hHeld kq kbq;go_wp2;refine bodyPost_ret (v:=.agg #[.slice x.oa x.on x.oc,.int .i64 x.d.K,.int .i64 x.d.N,.string x.d.S,.slice none 0 0]) (by simp [results,Tryz.results54,go_sem, *]) rfl ⟨rfl,HQ.out⟩

theorem zeP (ao:Option Addr) (n cap:Nat) (l:List Int) (w:World) (h:GRow intF w ao n cap l) (hn:n≤16777216) :
  Calls Tryz.prog 55 #[.slice ao n cap] w fun r w'=>∃ao' cap',r=.returned (.slice ao' n cap')∧w'.ownsRow w.heap.size 3 1 (.slice ao' n cap') n (intF.all l)∧Below w.heap.size w w':=by
 cases ao with
 | none =>
  have hc0:=h.nil rfl;have hn0:n=0:=by have:=h.le; omega
  subst hc0 hn0;have hl:l=[]:=List.eq_nil_of_length_eq_zero h.size;subst hl;have heq:∀W,(binOp .eql 25 (.slice none 0 0) (.slice none 0 0)).run Tryz.prog W=.ok (.bool true) W:=fun _=>by kernel_rfl
  go_enter Tryz.func55,Tryz.ntmps55;go_wp2;go_ret;exact ⟨none,0,rfl,World.ownsRow_nil _ _ _ _,Below.refl _ _⟩
 | some a =>
  have heq:∀W,(binOp .eql 25 (.slice (some a) n cap) (.slice none 0 0)).run Tryz.prog W=.ok (.bool false) W:=fun _=>by kernel_rfl
  go_enter Tryz.func55,Tryz.ntmps55;go_wp2_with (at_builtin; refine zy (F:=intF) _ rfl _ _ 25 3 rfl w.heap.size Tryz.underlying25 Tryz.infoI64 rfl (by decide) _ 0 [] rfl (zcY intF w _ 3 w.heap.size (zz w _) (Nat.le_refl _)) (some a) n cap l rfl (h.below (zg _ _)) (by omega) (by simp) ?_)
  intro ao' cap' w' how hr hgr hb;have how:w'.ownsRow w.heap.size 3 1 (.slice ao' n cap') n (intF.all l):=by
   (try simp only [Nat.zero_add,List.nil_append] at how);exact how
  have HO:=hide how;have HB:=hide ((zg w _).trans hb);clear how hgr hb hr;go_wp2;go_ret;exact ⟨ao',cap',(by simp),HO.out,HB.out⟩

end Go.Proofs.YtcpdkcdfnpcemabGreat
