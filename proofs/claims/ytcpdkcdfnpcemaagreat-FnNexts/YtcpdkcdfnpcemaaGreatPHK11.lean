/-
  Packed: VtabCopy MibTh ZerosNil MibCat FdbPutS VtabOr VtabSet VtabRowM BrOwn MibBind.
-/
import Derived.Test.YtcpdkcdfnpcemaaGreatPHFdbOkS
import Derived.Test.YtcpdkcdfnpcemaaGreatPHK04
import Derived.Test.YtcpdkcdfnpcemaaGreatPHVtabOkS
import Derived.Lib.AppendZeros
namespace Go.Proofs.YtcpdkcdfnpcemaaGreat
set_option maxRecDepth 100000
set_option maxHeartbeats 16000000
open Go.RowKit

def intF:Flat Int where
 k:=1
 cs:=fun x=>[.int .i64 x]
 len:=fun _=>rfl
 pos:=by decide
 one:=fun _ v hv=>by
  simp only [List.mem_cons,List.not_mem_nil,or_false] at hv;subst hv
  rfl

theorem zE:∀(l:List Int),intF.all l=cI l
 | []=>rfl
 | x::l=>by
  have:=zE l
  rw [Flat.all_cons,this]
  rfl

theorem IRow.flat {w:World} {ao:Option Addr} {n c:Nat} {l:List Int} (h:IRow w ao n c l):GRow intF w ao n c l where
 size:=h.size
 le:=h.le
 top:=h.top
 nil:=h.nil
 cell:=by
  rcases h.cell with h0 | ⟨b,off,ha,hc⟩
  ·exact .inl h0
  ·refine .inr ⟨b,off,ha,fun i x hi j v hv => ?_⟩;have hl:=(List.getElem?_eq_some_iff.1 hi).1;have hs:=h.size
   have:=hc i (by omega)
   rw [List.getD_eq_getElem?_getD,hi] at this
   match j,hv with
   | 0,hv =>
    cases hv
    show w.cell? ⟨b,off+i*1+0,none⟩=_
    rw [Nat.mul_one,Nat.add_zero];exact this
   | j+1,hv=>simp [intF] at hv

theorem zby:(Tryz.prog.info? 119).map (fun i=>(i.zero,i.size,i.bytes))=some (some (.agg #[.int .i64 0,.int .i64 0,.int .i64 0]),vrowF.k,24):=by kernel_rfl

theorem zah {w w':World} {base k:Nat} {e:TypeId} {v:Value} {n:Nat} {xs:List Value} (h:w.ownsRow base e k v n xs) {base2 k2:Nat} {e2:TypeId} {v2:Value} {n2:Nat} {xs2:List Value} (h2:w.ownsRow base2 e2 k2 v2 n2 xs2) (hne:(e:Nat)≠e2) (hg:w.grownBy w' v2.ownBlock):w'.ownsRow base e k v n xs:=by
 refine h.kept hg ?_;obtain ⟨-,h | ⟨g,cap,cur,e1,-,hh,-⟩⟩:=h
 ·rw [h.1]; exact .inl rfl
 ·obtain ⟨-,h2 | ⟨g2,cap2,cur2,e2',-,hh2,-⟩⟩:=h2
  ·rw [h2.1]; exact .inr (by rw [e1]; intro hc; cases hc)
  ·refine .inr (fun hc => ?_);rw [e1,e2'] at hc;have hgg:g=g2:=by simpa [Value.ownBlock] using hc
   subst hgg;rw [hh] at hh2;cases hh2;exact hne rfl

structure VOwn (w:World) (base:Nat) (a:Option Addr) (n c:Nat) (o:Option Addr) (p q:Nat) (v:VT):Prop where
 rows:w.ownsRow base 119 3 (.slice a n c) n (vrowF.all v.rows)
 own:w.ownsRow base 3 1 (.slice o p q) p (cI v.own)
 i64:I64s v.own

theorem VOwn.tab {w:World} {base:Nat} {a:Option Addr} {n c:Nat} {o:Option Addr} {p q:Nat} {v:VT} (h:VOwn w base a n c o p q v):VTab w a n c o p q v:=⟨zab (F:=vrowF) h.rows,zQ h.own h.i64⟩

theorem zal (a:Option Addr) (n c:Nat) (o:Option Addr) (p q:Nat) (v:VT) (w:World) (h:VTab w a n c o p q v) (hn:n≤16777216) (hp:p≤16777216) :
  Calls Tryz.prog 125 #[.agg #[.slice a n c,.slice o p q]] w fun r w'=>∃a' c' o' q',r=.returned (.agg #[.slice a' n c',.slice o' p q'])∧VOwn w' w.heap.size a' n c' o' p q' v∧Below w.heap.size w w':=by
 generalize hw1:w.alloc (Obj.cells #[Value.slice a n c,Value.slice o p q] 29)=w1;generalize hw2:w1.alloc (Obj.cells #[Value.slice none 0 0,Value.slice none 0 0] 29)=w2;have s1:w1.heap.size=w.heap.size+1:=by subst hw1; simp
 have s2:w2.heap.size=w.heap.size+1+1:=by subst hw2; simp [s1]
 have hk1:=zk hw2;have b01:=zb hw1;have vb:Below w1.heap.size w1 w2.drew:=by subst hw2; exact zv (zh _ _)
 have bw:Below w.heap.size w w2:=by subst hw2; exact zd b01 (zh _ _)
 have vv:Below w2.heap.size w2 w2.drew:=zv (Below.refl _ _);have h12:w1.heap.size≤w2.heap.size:=by omega
 have S1:=hide s1;have S2:=hide s2;have H12:=hide h12;have HL:Hid (∀b,some w1.heap.size=some b→b < w2.heap.size):=hide (by intro b hb; cases hb; omega);clear s1 s2 h12;go_enter Tryz.func125,Tryz.ntmps125;go_wp2_with fail
 refine wp_region_held_drew (S:=(fun W=>zcc W w.heap.size 0 (.slice a n c)∧zcc W w.heap.size 1 (.slice o p q))) (by kernel_rfl) (zD hw1 vb) (fun hHeld => ?_)
 repeat' first
 |
  with_reducible refine kLa ?_
  first
  |
   refine kLf 1 ?_;refine kK 1 ?_
  |
   refine kLf 2 ?_;refine kK 2 ?_
  |
   refine kLf 5 ?_;refine kK 5 ?_
  |
   refine kLf 6 ?_;refine kK 6 ?_
  |
   refine kLf 8 ?_;refine kK 8 ?_
  |
   refine kLp [0,4] ?_
  |
   refine kLp [3,4] ?_
  |
   refine kLp [4] ?_
  |
   refine kLp [7] ?_
  |
   refine kLp [9] ?_
  |
   refine kLp [3] ?_
  |
   refine kLp [0] ?_
  |
   refine wpAnyH_done (by kernel_rfl) ?_ _;have HR:=hide hR;have HI:=hide hI;clear hR hI;go_wp2;refine bodyPost_ret (v:=.agg #[.slice aohR n cphR,.slice aohI p cphI]) (by simp [results,Tryz.results125,go_sem, *]) rfl ⟨_,_,_,_,rfl,⟨zae HR.out bw.size,zae (by rw [← zE]; exact HI.out) bw.size,h.own.byte⟩,zd b01 vb⟩
 |
  exact AllReadyH.nil
 |
  refine kLc 0 (fun K hK => ?_) ?_;go_simp
  first
  | refine zaO (K:=K _) (fun wx hk hbx => ?_)
  | refine zaB (K:=K _) (fun wx hk hbx => ?_)
  (try have hI:=zm hI hbx);have hR:=za7 vrowF w2 wx 119 _ hk vv.size;have vv:=zd vv hbx;have vb:=zd vb hbx;clear hk hbx;refine kO hK (zD hw1 vb) fun hHeld => ?_
  clear hK K
 |
  refine kLc 3 (fun K hK => ?_) ?_;refine zak (F:=vrowF) rfl _ _ 26 119 rfl w2.heap.size Tryz.underlying26 zby rfl (by decide) _ 0 [] rfl hR a n c v.rows rfl (h.rows.below (zd bw vv)) (by omega) vv.size ?_;intro aohR cphR wx how hrow hgr hbx;(try have hI:=zah hI hR (by decide) hgr);have hR:=how;have vv:=vv.trans hbx;have vb:=vb.trans (hbx.mono H12.out);clear how hrow hgr hbx;simp only [Nat.zero_add,List.nil_append] at hR ⊢;refine kO hK (zD hw1 vb) fun hHeld => ?_
  clear hK K
 |
  refine kLc 4 (fun K hK => ?_) ?_;go_simp
  first
  | refine zaO (K:=K _) (fun wx hk hbx => ?_)
  | refine zaB (K:=K _) (fun wx hk hbx => ?_)
  (try have hR:=zm hR hbx);have hI:=za7 intF w2 wx 3 _ hk vv.size;have vv:=zd vv hbx;have vb:=zd vb hbx;clear hk hbx;refine kO hK (zD hw1 vb) fun hHeld => ?_
  clear hK K
 |
  refine kLc 7 (fun K hK => ?_) ?_;refine zak (F:=intF) rfl _ _ 27 3 rfl w2.heap.size Tryz.underlying27 Tryz.infoI64 rfl (by decide) _ 0 [] rfl hI o p q v.own rfl ((h.own.below (zd bw vv)).flat) (by omega) vv.size ?_;intro aohI cphI wx how hrow hgr hbx;(try have hR:=zah hR hI (by decide) hgr);have hI:=how;have vv:=vv.trans hbx;have vb:=vb.trans (hbx.mono H12.out);clear how hrow hgr hbx;simp only [Nat.zero_add,List.nil_append] at hI ⊢;refine kO hK (zD hw1 vb) fun hHeld => ?_
  clear hK K
 |
  refine kLc 9 (fun K hK => ?_) ?_;obtain ⟨⟨g0,g1⟩,f0,f1⟩:=zB (ze hk1 vv);go_simp;have hR:=zM (zM hR (zl (rb:=w1.heap.size) 0 (.slice aohR n cphR)) HL.out) (zl (rb:=w1.heap.size) 1 (.slice aohI p cphI)) HL.out;have hI:=zM (zM hI (zl (rb:=w1.heap.size) 0 (.slice aohR n cphR)) HL.out) (zl (rb:=w1.heap.size) 1 (.slice aohI p cphI)) HL.out;have vb:=zi (zi vb (Nat.le_refl _) 0 (.slice aohR n cphR)) (Nat.le_refl _) 1 (.slice aohI p cphI);refine kO hK (zD hw1 vb) fun hHeld => ?_
  clear hK K

section
open Go.RowKit

structure TL where
 a:Option Addr
 n:Nat
 c:Nat
 z:List Int

def tlF:Flat TL where
 k:=1
 cs:=fun x=>[.slice x.a x.n x.c]
 len:=fun _=>rfl
 pos:=by decide
 one:=fun _ v hv=>by
  simp only [List.mem_cons,List.not_mem_nil,or_false] at hv;subst hv
  rfl

structure TH where
 oa:Option Addr
 on:Nat
 oc:Nat
 wb:Nat
 pb:Nat
 d:BD

def thF:Flat TH where
 k:=2
 cs:=fun x=>[.slice x.oa x.on x.oc,.func (.func 275) #[] #[.pointer (some ⟨x.wb,0,none⟩),.pointer (some ⟨x.pb,0,none⟩)]]
 len:=fun _=>rfl
 pos:=by decide
 one:=fun _ v hv=>by
  simp only [List.mem_cons,List.not_mem_nil,or_false] at hv;rcases hv with rfl | rfl <;> rfl

theorem zhw:(Tryz.prog.info? 91).map (fun i=>(i.zero,i.size,i.bytes))=some (some (.agg #[.slice none 0 0,.nilFunc]),thF.k,32):=by kernel_rfl
theorem zhy:(Tryz.prog.info? 27).map (fun i=>(i.zero,i.size,i.bytes))=some (some (.slice none 0 0),tlF.k,24):=by kernel_rfl

structure THs (w:World) (base:Nat) (l:List TH):Prop where
 item:∀x∈l,w.ownsRow base 3 1 (.slice x.oa x.on x.oc) x.on (cI x.d.o)
 i64:∀x∈l,I64s x.d.o
 apart:(l.flatMap (fun x=>blkL x.oa)).Nodup

theorem zhx (w:World) (base:Nat):THs w base []:=⟨(by intro x hx; cases hx),(by intro x hx; cases hx),List.nodup_nil⟩

section
variable {w w' w1:World} {base base':Nat} {l l1 l2:List TH}
theorem THs.below (h:THs w base l) (hb:Below w.heap.size w w'):THs w' base l:=⟨fun x hx=>zaY (h.item x hx) hb,h.i64,h.apart⟩
theorem THs.lt (h:THs w base l) (hb:base'≤base):THs w base' l:=⟨fun x hx=>zaS (h.item x hx) hb,h.i64,h.apart⟩
theorem THs.only {bs:List Nat} (h:THs w base l) (ho:Only bs w w') (hn:∀x∈l,∀b∈blkL x.oa,b∉bs):THs w' base l :=
 ⟨fun x hx=>ho.own (h.item x hx) (fun k hk=>hn x hx k (zT.1 hk)),h.i64,h.apart⟩
theorem THs.blk (h:THs w base l):∀b∈l.flatMap (fun x=>blkL x.oa),base≤b∧b < w.heap.size:=by
 intro b hb;obtain ⟨x,hx,hb⟩:=List.mem_flatMap.1 hb;exact (h.item x hx).lt b (zT.2 hb)
theorem THs.append (h1:THs w base l1) (hb:Below w.heap.size w w') (h2:THs w' base' l2) (hle:w.heap.size≤base') (hbs:base≤base'):THs w' base (l1++l2):=by
 have k1:=h1.below hb;have k2:=h2.lt hbs;refine ⟨?_, ?_, ?_⟩
 ·intro x hx;rcases List.mem_append.1 hx with hx | hx
  ·exact k1.item x hx
  ·exact k2.item x hx
 ·intro x hx;rcases List.mem_append.1 hx with hx | hx
  ·exact k1.i64 x hx
  ·exact k2.i64 x hx
 ·rw [List.flatMap_append];refine List.nodup_append.2 ⟨h1.apart,h2.apart, ?_⟩;intro a ha b hb' e;subst e;have e1:=(h1.blk a ha).2;have e2:=(h2.blk a hb').1;omega
theorem THs.push {ao:Option Addr} {n cap:Nat} {xs:List Value} {rb:Nat} {y:TH} (h:THs w base l) (hb:Below w.heap.size w w1) (hy:w1.ownsRow w.heap.size 3 1 (.slice y.oa y.on y.oc) y.on (cI y.d.o)) (hz:I64s y.d.o) (hbs:base≤w.heap.size)
  (hr:w1.ownsRow rb 91 2 (.slice ao n cap) n xs) (hg:w1.grownBy w' (Value.slice ao n cap).ownBlock):THs w' base (l++[y]):=by
 have hne:(3:Nat)≠91:=by decide
 have hone:THs w1 w.heap.size [y]:=⟨fun x hx=>by rw [List.mem_singleton.1 hx]; exact hy,fun x hx=>by rw [List.mem_singleton.1 hx]; exact hz,by cases he:y.oa <;> simp [blkL,he]⟩;have hall:=h.append hb hone (Nat.le_refl _) hbs;exact hall.only (Only.of_grown hg) (fun x hx b hb1 hb2=>zbD (hall.item x hx) hr hne (zT.2 hb1) (zT.2 hb2))
end

def zev (w:World) (x:TH):Prop :=
 ∀w',Below w.heap.size w w'→Calls Tryz.prog 275 #[.pointer (some ⟨x.wb,0,none⟩),.pointer (some ⟨x.pb,0,none⟩)] w' fun e w''=>e=.returned (.agg #[.int .i64 x.d.K,.int .i64 x.d.N,.string x.d.S,.slice none 0 0])∧Below w'.heap.size w' w''

theorem zev.below {w w1:World} {x:TH} (h:zev w x) (hb:Below w.heap.size w w1):zev w1 x:=fun w' hw=>h w' (zd hb hw)

structure Things (w:World) (base:Nat) (ao:Option Addr) (cap:Nat) (l:List TH):Prop where
 row:GRow thF w ao l.length cap l
 names:THs w base l
 gives:∀x∈l,zev w x
 nil:∀x∈l,x.d.z=[]∧x.d.S.size≤maxLen∧x.on=x.d.o.length

theorem Things.below {w w':World} {base:Nat} {ao:Option Addr} {cap:Nat} {l:List TH} (h:Things w base ao cap l) (hb:Below w.heap.size w w'):Things w' base ao cap l :=
 ⟨h.row.below hb,h.names.below hb,fun x hx=>(h.gives x hx).below hb,h.nil⟩

theorem th_at {w:World} {ao:Option Addr} {len cap:Nat} {l:List TH} (h:GRow thF w ao len cap l) (i:Nat) (hi:i < len):∃(x:TH) (b off:Nat),l[i]? = some x∧ao=some ⟨b,off,none⟩∧w.cell? ⟨b,off+i*2,none⟩=some (.slice x.oa x.on x.oc)∧w.cell? ⟨b,off+i*2+1,none⟩=some (.func (.func 275) #[] #[.pointer (some ⟨x.wb,0,none⟩),.pointer (some ⟨x.pb,0,none⟩)]):=by
 obtain ⟨x,b,off,hx,ha,hc⟩:=h.at i hi;exact ⟨x,b,off,hx,ha,hc 0 _ rfl,hc 1 _ rfl⟩

theorem tl_at {w:World} {ao:Option Addr} {len cap:Nat} {l:List TL} (h:GRow tlF w ao len cap l) (i:Nat) (hi:i < len):∃(x:TL) (b off:Nat),l[i]? = some x∧ao=some ⟨b,off,none⟩∧w.cell? ⟨b,off+i,none⟩=some (.slice x.a x.n x.c):=by
 obtain ⟨x,b,off,hx,ha,hc⟩:=h.at i hi
 have:=hc 0 _ rfl
 exact ⟨x,b,off,hx,ha,by simpa [tlF] using this⟩

def rowTo (g:Nat→BD):Nat→List BD
 | 0=>[]
 | k+1=>rowTo g k++[g k]
def zbs (G:Nat→Nat→BD) (n:Nat):Nat→List BD
 | 0=>[]
 | k+1=>zbs G n k++rowTo (G k) n

theorem zc3 {α:Type} {f:Nat→α→BD} {l:List α} {g:Nat→BD} (h:∀i x,l[i]? = some x→g i=f i x):∀k,k≤l.length→rowTo g k=zao f l k
 | 0,_=>rfl
 | k+1,hk=>by
  have hx:l[k]? = some l[k]:=List.getElem?_eq_getElem (by omega);rw [rowTo,zbL hx,zc3 h k (by omega),h k _ hx]

theorem zdf {G:Nat→Nat→BD} {n:Nat} {g:Int→List BD} (h:∀i,rowTo (G i) n=g ((i:Int)+1)):∀k,zbs G n k=zY g k
 | 0=>rfl
 | k+1=>by rw [zbs,zY,zdf h k,h k]

end

theorem zer {P:Program} (w:World) (t tn ty e:TypeId) (i:TypeInfo) (z:Value) (k kn:IntKind) (ht:P.underlying t=some (.slice e)) (htn:P.underlying tn=some (.int kn)) (hi:P.info? e=some i) (hz:i.zero=some z)
  (n:Nat) (h0:0 < n) (hs:0 < i.size) (h63:((n:Nat):Int)≤9223372036854775807) (h48:n*i.bytes≤140737488355328) :
  (Builtin.append_ #[t,tn] ty #[.slice none 0 0,.int k n]).run P w =
   .ok (.slice (some ⟨w.heap.size,0,none⟩) n (grownCap w n 0 e))
    (w.drew.alloc (.cells (Builtin.zeroCells z.cells n++Builtin.zeroCells z.cells (grownCap w n 0 e - n)) e)):=by
 have hw:IntKind.i64.wrap (n:Int)=n:=by rw [IntKind.wrap_i64]; omega
 have h63':¬(9223372036854775807 < (n:Int)):=by omega
 have h48':¬(281474976710656 < Builtin.nextslicecap n 0*i.bytes):=by
  have:=growslice_fits (need:=n) (old:=0) (bytes:=i.bytes) (by omega) h48
  omega
 have h48i:¬(281474976710656 < (n:Int)*(i.bytes:Int)):=by
  rw [← Int.natCast_mul];omega
 have hneg:¬((n:Int) < 0):=by omega
 have hns:¬(n*i.size=0):=Nat.mul_ne_zero (by omega) (by omega);have hn0:¬n=0:=by omega
 simp [Builtin.append_,run_underlying ht,run_underlying htn,sizeOf,typeInfo,zeroValue,hi,hz,asInt,asIntOf,hw,hneg,hns,h63',h48',h48i,Question.forced,Builtin.firstCells,newRow,grownCap,hn0]

structure SL where
 a:Option Addr
 n:Nat
 c:Nat
 l:List TH

def slF:Flat SL where
 k:=1
 cs:=fun x=>[.slice x.a x.n x.c]
 len:=fun _=>rfl
 pos:=by decide
 one:=fun _ v hv=>by
  simp only [List.mem_cons,List.not_mem_nil,or_false] at hv;subst hv
  rfl

theorem sl_at {w:World} {ao:Option Addr} {len cap:Nat} {l:List SL} (h:GRow slF w ao len cap l) (i:Nat) (hi:i < len):∃(x:SL) (b off:Nat),l[i]? = some x∧ao=some ⟨b,off,none⟩∧w.cell? ⟨b,off+i,none⟩=some (.slice x.a x.n x.c):=by
 obtain ⟨x,b,off,hx,ha,hc⟩:=h.at i hi
 have:=hc 0 _ rfl
 exact ⟨x,b,off,hx,ha,by simpa [slF] using this⟩

def sumS (l:List SL):Nat→Nat
 | 0=>0
 | k+1=>match l[k]? with
  | some x=>sumS l k+x.n
  | none=>sumS l k
def catS (l:List SL):Nat→List TH
 | 0=>[]
 | k+1=>match l[k]? with
  | some x=>catS l k++x.l
  | none=>catS l k
theorem zgd {l:List SL} {k:Nat} {x:SL} (h:l[k]? = some x):sumS l (k+1)=sumS l k+x.n:=by rw [sumS,h]
theorem zhL {l:List SL} {k:Nat} {x:SL} (h:l[k]? = some x):catS l (k+1)=catS l k++x.l:=by rw [catS,h]
theorem zhu (l:List SL):∀{k m:Nat},k≤m→sumS l k≤sumS l m
 | k,0,h=>by rw [Nat.le_zero.1 h]; exact Nat.le_refl _
 | k,m+1,h=>by
  by_cases e:k=m+1
  ·rw [e]; exact Nat.le_refl _
  ·have:=zhu l (show k≤m by omega)
   rw [sumS]
   split <;> omega

theorem zfo (m:Nat) (w:World) (h0:0 < m) (hm:m≤33554432) :
  Calls Tryz.prog 235 #[.slice none 0 0,.int .i64 m] w fun e w'=>∃a' c',e=.returned (.slice a' 0 c')∧w'.ownsRow w.heap.size 91 2 (.slice a' 0 c') 0 (thF.all [])∧Below w.heap.size w w':=by
 obtain ⟨i0,hi0,hz0,hz1,hz2⟩:=za3 zhw;have hk3:thF.k=2:=rfl;rw [hk3] at hz1;obtain ⟨NC,hNC⟩:∃NC,NC=grownCap w m 0 91:=⟨_,rfl⟩;have hge:m≤NC:=by rw [hNC]; exact grownCap_ge w m 0 91
 have hcm:NC≤maxLen:=by rw [hNC]; exact grownCap_le_maxLen w m 0 91 (by unfold maxLen; omega)
 obtain ⟨C0,hC0⟩:∃C0:Array Value,C0=Builtin.zeroCells #[.slice none 0 0,.nilFunc] m++Builtin.zeroCells #[.slice none 0 0,.nilFunc] (NC - m):=⟨_,rfl⟩;have hap:∀ty,(Builtin.append_ #[87,3] ty #[.slice none 0 0,.int .i64 m]).run Tryz.prog w=.ok (.slice (some ⟨w.heap.size,0,none⟩) m NC) (w.drew.alloc (.cells C0 91)):=fun ty=>by
  rw [hC0,hNC];exact zer (P:=Tryz.prog) w 87 3 ty 91 i0 (.agg #[.slice none 0 0,.nilFunc]) .i64 .i64 Tryz.underlying87 Tryz.underlying3 hi0 hz0 m h0 (by omega) (by omega) (by rw [hz2]; omega)
 have hC0s:C0.size=NC*2:=by
  rw [hC0];simp only [Array.size_append,size_zeroCells]
  simp
  omega
 have hown:(w.drew.alloc (.cells C0 91)).ownsRow w.heap.size 91 2 (.slice (some ⟨w.heap.size,0,none⟩) 0 NC) 0 (thF.all []) :=
  ⟨by simp [Flat.all],.inr ⟨w.heap.size,NC,C0,rfl,Nat.le_refl _,zy w.drew _,Nat.zero_le _,hcm,hC0s,by simp [Flat.all]⟩⟩
 have HO:=hide hown;have HB:Hid (Below w.heap.size w (w.drew.alloc (.cells C0 91))):=hide (zd (zv (Below.refl _ _)) (zh w.drew _));have hpos:(0:Int) < (m:Int):=by omega
 have hnn:¬((m:Int) < 0):=by omega
 have hwm:IntKind.i64.wrap (m:Int)=(m:Int):=by rw [IntKind.wrap_i64]; omega
 clear hown hC0 hC0s hge hi0 hz0 hz1 hz2 hNC;go_enter Tryz.func235,Tryz.ntmps235;go_wp2_with (at_builtin; refine Lib.wpList_append_run _ rfl _ _ _ _ rfl _ _ rfl rfl _ _ (hap _) ?_)
 go_wp2;go_ret;exact ⟨_,_,rfl,HO.out,HB.out⟩

theorem zd9 (g m:Nat) (ss:List SL) (w:World) (hg:GRow slF w (some ⟨g,0,none⟩) m m ss) (hr:∀x∈ss,GRow thF w x.a x.n x.c x.l) (hs:sumS ss m≤33554432) (hp:0 < sumS ss m) (hm:m≤1000) :
  Calls Tryz.prog 191 #[.slice (some ⟨g,0,none⟩) m m] w fun e w'=>∃a' c',e=.returned (.slice a' (sumS ss m) c')∧GRow thF w' a' (sumS ss m) c' (catS ss m)∧Below w.heap.size w w':=by
 have HS:=hide hs;have HG:=hide hg;clear hg;go_enter Tryz.func191,Tryz.ntmps191;go_wp2
 go_loop [3,11] (fun s i=>∃k:Nat,k≤m∧i=.int .i64 k∧s=.int .i64 (sumS ss k:Int)) (fun _ i=>m - (intOf i).toNat)
 case atStart=>exact ⟨0,Nat.zero_le _,rfl,rfl⟩
 case round =>
  obtain ⟨k,hk,rfl,rfl⟩:=hrel;by_cases hkm:k < m
  ·obtain ⟨x,gb,off,hx,hga,cc⟩:=sl_at HG.out k hkm;cases hga;rw [Nat.zero_add] at cc;have hkm':(k:Int) < (m:Int):=by omega
   have HX:=hide (zgd hx);have hle:=HS.out;have h2:=zhu ss (show k+1≤m by omega);rw [HX.out] at h2;have e1:IntKind.i64.wrap ((sumS ss k:Int)+(x.n:Int))=(sumS ss k:Int)+(x.n:Int):=by rw [IntKind.wrap_i64]; omega
   have j1:¬((sumS ss k:Int)+(x.n:Int) < 0):=by omega
   clear hx hs;go_wp2
   go_round
   case rel=>exact ⟨k+1,by omega,by go_num,by rw [HX.out]; go_num⟩
   case measure=>simp [intOf]; omega
  ·have hkm':¬(k:Int) < (m:Int):=by omega
   have hke:k=m:=by omega
   subst hke;(go_wp2_with fail);refine (zfo (sumS ss k) _ hp HS.out).mono ?_;rintro e w1 ⟨a',c',rfl,ho,hb⟩;clear hs;go_wp2
   go_loopw [6,27] (fun s i wr=>∃(j:Nat) (ar:Option Addr) (cr:Nat),j≤k∧i=.int .i64 j∧s=.slice ar (sumS ss j) cr∧wr.ownsRow w.heap.size 91 2 (.slice ar (sumS ss j) cr) (sumS ss j) (thF.all (catS ss j))∧Below w.heap.size w wr) (fun _ i _=>k - (intOf i).toNat)
   case atStart=>exact ⟨0,a',c',Nat.zero_le _,rfl,rfl,ho,hb⟩
   case round =>
    obtain ⟨j,ar,cr,hj,rfl,rfl,ho,hb⟩:=hrel;by_cases hjk:j < k
    ·obtain ⟨x,gb,off,hx,hga,cc⟩:=sl_at (HG.out.below hb) j hjk;cases hga;rw [Nat.zero_add] at cc;have hjk':(j:Int) < (k:Int):=by omega
     have HX:=hide (zgd hx);have HCX:=hide (zhL hx);have h2:=zhu ss (show j+1≤k by omega);rw [HX.out] at h2;have hle:=HS.out;have hrx:=(hr x (List.mem_of_getElem? hx)).below hb;have HB:=hide hb;have hbs:=hb.size;clear hx hb;go_wp2_with (at_builtin; refine zx (F:=thF) _ rfl _ _ 87 91 rfl w.heap.size Tryz.underlying87 zhw rfl (by decide) _ (sumS ss j) (catS ss j) rfl ho x.a x.n x.c x.l rfl hrx (by omega) hbs ?_)
     intro a7 c7 w7 how _ _ hb7;have HO:=hide how;have HB7:=hide (HB.out.trans hb7);clear how hb7 ho cc;go_wp2
     go_roundw
     case rel=>exact ⟨j+1,a7,c7,by omega,by go_num,by rw [HX.out],by rw [HX.out,HCX.out]; exact HO.out,HB7.out⟩
     case measure=>simp [intOf]; omega
    ·have hjk':¬(j:Int) < (k:Int):=by omega
     have hje:j=k:=by omega
     subst hje;have HO:=hide ho;have HB:=hide hb;clear ho hb;go_wp2;go_ret;exact ⟨ar,cr,rfl,zab (F:=thF) HO.out,HB.out⟩

theorem zgN {l:List FE} {t m:Int} {k:Nat} {x:FE} (h:∀i y,i < k→l[i]? = some y→both y t m=false) (hx:l[k]? = some x) (hb:both x t m=true):atF l t m=k:=by
 have hk:=(List.getElem?_eq_some_iff.1 hx).1
 have:l.findIdx? (fun e=>both e t m)=some k:=by
  rw [List.findIdx?_eq_some_iff_getElem];refine ⟨hk, ?_,fun j hj => ?_⟩
  ·rw [List.getElem?_eq_getElem hk] at hx;cases hx;exact hb
  ·have:=h j l[j] hj (List.getElem?_eq_getElem (by omega))
   simp [this]
 unfold atF;rw [this]

theorem zhK {l:List FE} {t m:Int} (h:∀i y,i < l.length→l[i]? = some y→both y t m=false):atF l t m = -1:=by
 have:l.findIdx? (fun e=>both e t m)=none:=by
  rw [List.findIdx?_eq_none_iff];intro x hx;obtain ⟨i,hi,rfl⟩:=List.getElem_of_mem hx;exact h i _ hi (List.getElem?_eq_getElem hi)
 unfold atF;rw [this]

theorem zhd {l:List FE} {t m:Int} {k:Nat} {x:FE} (h:∀j y,j < k→l[j]? = some y→both y t m=false) (hx:l[k]? = some x) (hb:both x t m=false):∀j y,j < k+1→l[j]? = some y→both y t m=false:=by
 intro j y hj hy;by_cases e:j=k
 ·subst e;rw [hx] at hy;cases hy;exact hb
 ·exact h j y (by omega) hy

theorem zaK (ao:Option Addr) (n cap:Nat) (l:List FE) (t m:Int) (w:World) (h:GRow fentF w ao n cap l) :
  Calls Tryz.prog 188 #[.slice ao n cap,.int .i64 t,.int .i64 m] w fun r w'=>r=.returned (.int .i64 (atF l t m))∧w'=w:=by
 have hle:=h.le;have htop:=h.top;unfold maxLen at htop;have hsz:=h.size;go_enter Tryz.func188,Tryz.ntmps188;go_wp2
 go_loop [7] (fun i=>∃k:Nat,k≤n∧i=.int .i64 k∧∀j y,j < k→l[j]? = some y→both y t m=false) (fun i=>n - (intOf i).toNat)
 case atStart=>exact ⟨0,Nat.zero_le _,rfl,fun j y hj=>by omega⟩
 case round =>
  obtain ⟨k,hk,rfl,hno⟩:=hrel;by_cases hlt:k < n
  ·obtain ⟨x,b,off,hx,rfl,c0,c1,-⟩:=zaP h k hlt;cases t1:(x.t == t)
   ·have HO:=hide (zhd hno hx (by unfold both; rw [t1]; rfl));clear hno;go_wp2
    go_round
    case rel=>exact ⟨k+1,by omega,by go_num,HO.out⟩
    case measure=>simp [intOf]; omega
   ·cases t2:(x.m == m)
    ·have HO:=hide (zhd hno hx (by unfold both; rw [t1,t2]; rfl));clear hno;go_wp2
     go_round
     case rel=>exact ⟨k+1,by omega,by go_num,HO.out⟩
     case measure=>simp [intOf]; omega
    ·have HF:=hide (zgN hno hx (by unfold both; rw [t1,t2]; rfl));clear hno;go_wp2;go_ret;exact ⟨(by rw [HF.out]; rfl),rfl⟩
  ·have hkn:k=n:=by omega
   have HF:=hide (zhK (l:=l) (t:=t) (m:=m) (fun i y hi hy=>hno i y (by omega) hy));clear hno;subst hkn;go_wp2;go_ret;exact ⟨(by rw [HF.out]; rfl),rfl⟩

theorem zhR:(Tryz.prog.info? 116).map (fun i=>(i.zero,i.size,i.bytes))=some (some (.agg #[.int .i64 0,.int .i64 0,.int .i64 0,.int .i64 0,.bool false]),fentF.k,40):=by kernel_rfl

theorem zax (w:World) {ops:Array Oper} {rest:List Oper} {o:Oper} {a:Act} {Q:Exit→Act→World→Prop} (hgd:o.guard=none)
  (s x:Operand) (ho:o.op=Op.call { callee:=Callee.builtin Builtin.append,args:=#[s,x],argTypes:=#[25,25] }) (base:Nat)
  (v:Value) (n:Nat) (xs:List FE) (hs:a.eval s=v) (hown:w.ownsRow base 116 5 v n (fentF.all xs)) (ao:Option Addr) (m c:Nat) (zs:List FE)
  (hx:a.eval x=.slice ao m c) (hrow:GRow fentF w ao m c zs) (hsm:n+m≤137438953472) (hbase:base≤w.heap.size)
  (h:∀ao' cap' w',w'.ownsRow base 116 5 (.slice ao' (n+m) cap') (n+m) (fentF.all (xs++zs))→GRow fentF w' ao' (n+m) cap' (xs++zs)→w.grownBy w' v.ownBlock→Below base w w'→wpList Tryz.prog ops Q rest (a.put o.dst (.slice ao' (n+m) cap')) w') :
  wpList Tryz.prog ops Q (o::rest) a w :=
 zx (F:=fentF) w hgd s x 25 116 ho base Tryz.underlying25 zhR rfl (by decide) v n xs hs hown ao m c zs hx hrow hsm hbase h

theorem zbn {w w':World} {B i:Nat} {o:Obj} (h:w.heap[i]? = some o) (hb:Below B w w') (hi:i < B):w'.heap[i]? = some o:=by rw [hb.block i hi]; exact h

theorem zaz (ao:Option Addr) (n cap:Nat) (l:List FE) (w:World) (h:GRow fentF w ao n cap l) (hn:n≤16777216) :
  Calls Tryz.prog 124 #[.slice ao n cap] w fun r w'=>∃ao' cap',r=.returned (.slice ao' n cap')∧w'.ownsRow w.heap.size 116 5 (.slice ao' n cap') n (fentF.all l)∧GRow fentF w' ao' n cap' l∧Below w.heap.size w w':=by
 go_enter Tryz.func124,Tryz.ntmps124;go_wp2_with (at_builtin; refine zax _ rfl _ _ rfl w.heap.size _ 0 [] rfl (za7 fentF w _ 116 w.heap.size (zy w _) (Nat.le_refl _)) ao n cap l rfl (h.below (zh _ _)) (by omega) (by simp) ?_)
 intro ao' cap' w' how hr hgr hb;have how:w'.ownsRow w.heap.size 116 5 (.slice ao' n cap') n (fentF.all l):=by simpa using how
 have hr:GRow fentF w' ao' n cap' l:=by simpa using hr
 have HO:=hide how;have HB:=hide ((zh w _).trans hb);clear how hgr hb;go_wp2;go_ret;exact ⟨ao',cap',(by simp),HO.out,hr,HB.out⟩

theorem ze4 {e x:FE} {zs r:List FE} (ha:ahead x e.t e.m=false) (hb:both x e.t e.m=false):(zs++[e])++[x]++putGo e true r=zs++putGo e false (x::r):=by
 rw [show putGo e false (x::r)=e::x::putGo e true r by simp [putGo,ha,hb]]
 simp
theorem zgA {e x:FE} {zs r:List FE} (ha:ahead x e.t e.m=false) (hb:both x e.t e.m=true):(zs++[e])++putGo e true r=zs++putGo e false (x::r):=by
 rw [show putGo e false (x::r)=e::putGo e true r by simp [putGo,ha,hb]]
 simp
theorem zb6 {e x:FE} {d:Bool} {zs r:List FE} (ha:d=true∨ahead x e.t e.m=true) (hb:both x e.t e.m=false):zs++[x]++putGo e d r=zs++putGo e d (x::r):=by
 have:(!d && !ahead x e.t e.m)=false:=by rcases ha with h | h <;> simp [h]
 rw [show putGo e d (x::r)=x::putGo e d r by rw [putGo,this,hb]; rfl]
 simp
theorem zd1 {e x:FE} {d:Bool} {zs r:List FE} (ha:d=true∨ahead x e.t e.m=true) (hb:both x e.t e.m=true):zs++putGo e d r=zs++putGo e d (x::r):=by
 have:(!d && !ahead x e.t e.m)=false:=by rcases ha with h | h <;> simp [h]
 rw [show putGo e d (x::r)=putGo e d r by rw [putGo,this,hb]; rfl]

theorem zbe {l:List FE} {k:Nat} {x:FE} (h:l[k]? = some x):l.drop k=x::l.drop (k+1):=by
 have hk:=(List.getElem?_eq_some_iff.1 h).1;rw [List.drop_eq_getElem_cons hk];rw [List.getElem?_eq_getElem hk] at h;cases h
 rfl

theorem VOwn.below {w w':World} {base:Nat} {a:Option Addr} {n c:Nat} {o:Option Addr} {p q:Nat} {v:VT} (h:VOwn w base a n c o p q v) (hb:Below w.heap.size w w'):VOwn w' base a n c o p q v :=
 ⟨zm h.rows hb,zm h.own hb,h.i64⟩

theorem VOwn.lt {w:World} {base base':Nat} {a:Option Addr} {n c:Nat} {o:Option Addr} {p q:Nat} {v:VT} (h:VOwn w base a n c o p q v) (hle:base'≤base):VOwn w base' a n c o p q v :=
 ⟨zae h.rows hle,zae h.own hle,h.i64⟩

theorem VOwn.set2 {w:World} {base:Nat} {a:Option Addr} {n c:Nat} {o:Option Addr} {p q:Nat} {v:VT} (h:VOwn w base a n c o p q v) {g:Nat} (hg:g < base) (u1 u2:Value):VOwn ((w.setCell ⟨g,0,none⟩ u1).setCell ⟨g,1,none⟩ u2) base a n c o p q v:=by
 have hl:∀b,some g=some b→b < base:=by intro b hb; cases hb; exact hg
 exact ⟨zM (zM h.rows (zl (rb:=g) 0 u1) hl) (zl (rb:=g) 1 u2) hl,zM (zM h.own (zl (rb:=g) 0 u1) hl) (zl (rb:=g) 1 u2) hl,h.i64⟩

theorem zgE (a:Option Addr) (n c:Nat) (o:Option Addr) (p q:Nat) (x:VT) (a2:Option Addr) (n2 c2:Nat) (o2:Option Addr) (p2 q2:Nat) (w:World) (h:VTab w a n c o p q x) (hok:zL x p2=true) :
  Calls Tryz.prog 234 #[.agg #[.slice a n c,.slice o p q],.agg #[.slice a2 n2 c2,.slice o2 p2 q2]] w fun r w'=>r=.returned (.tuple #[.agg #[.slice a n c,.slice o p q],.bool true])∧Below w.heap.size w w':=by
 generalize hw1:w.alloc (Obj.cells #[Value.slice a n c,Value.slice o p q] 29)=w1;generalize hw2:w1.alloc (Obj.cells #[Value.slice a2 n2 c2,Value.slice o2 p2 q2] 29)=w2;generalize hw3:w2.alloc (Obj.cells #[Value.slice none 0 0,Value.slice none 0 0] 29)=w3;have b01:=zb hw1;have b12:=zb hw2;have b23:=zb hw3;have b13:=zd b12 b23;have b03:=zd b01 b13;have k2:=zk hw3;have hb1:=zD hw1 b13;have hb2:=zD hw2 b23;have h3:=h.below b03;go_enter Tryz.func234,Tryz.ntmps234;go_wp2_with (refine (zO a n c o p q x (p2:Int) _ h3).mono ?_; rintro r w4 ⟨rfl,hb4⟩; rw [hok]; have hc1:=zD hw1 (zd b13 hb4); obtain ⟨⟨g0,g1⟩,f0,f1⟩:=zB (ze k2 hb4))
 have hbW:Below w.heap.size w ((w4.setCell ⟨w2.heap.size,0,none⟩ (.slice a n c)).setCell ⟨w2.heap.size,1,none⟩ (.slice o p q)):=zi (zi (zd b03 hb4) (zd b01 b12).size _ _) (zd b01 b12).size _ _;exact bodyPost_ret (v:=.tuple #[.agg #[.slice a n c,.slice o p q],.bool true]) (by simp [results,Tryz.results234,go_sem, *]) rfl ⟨rfl,hbW⟩

theorem zht (a:Option Addr) (n c:Nat) (o:Option Addr) (p q:Nat) (x:VT) (a2:Option Addr) (n2 c2:Nat) (o2:Option Addr) (p2 q2:Nat) (v:VT) (w:World) (h:VTab w a n c o p q x) (h2:VTab w a2 n2 c2 o2 p2 q2 v) (hok:zL x p2=false) (hn:n2≤16777216) (hp:p2≤16777216) :
  Calls Tryz.prog 234 #[.agg #[.slice a n c,.slice o p q],.agg #[.slice a2 n2 c2,.slice o2 p2 q2]] w fun r w'=>∃a' c' o' q',r=.returned (.tuple #[.agg #[.slice a' n2 c',.slice o' p2 q'],.bool false])∧VOwn w' w.heap.size a' n2 c' o' p2 q' v∧Below w.heap.size w w':=by
 generalize hw1:w.alloc (Obj.cells #[Value.slice a n c,Value.slice o p q] 29)=w1;generalize hw2:w1.alloc (Obj.cells #[Value.slice a2 n2 c2,Value.slice o2 p2 q2] 29)=w2;generalize hw3:w2.alloc (Obj.cells #[Value.slice none 0 0,Value.slice none 0 0] 29)=w3;have b01:=zb hw1;have b12:=zb hw2;have b23:=zb hw3;have b13:=zd b12 b23;have b03:=zd b01 b13;have k2:=zk hw3;have z3:w2.heap.size < w3.heap.size:=by rw [← hw3]; simp
 have hb1:=zD hw1 b13;have hb2:=zD hw2 b23;have h3:=h.below b03;have h4:=h2.below b03;go_enter Tryz.func234,Tryz.ntmps234;go_wp2_with (refine (zO a n c o p q x (p2:Int) _ h3).mono ?_; rintro r w4 ⟨rfl,hb4⟩; rw [hok]; have hc2:=zD hw2 (zd b23 hb4))
 go_wp2_with (refine (zal a2 n2 c2 o2 p2 q2 v _ (h4.below hb4) hn hp).mono ?_; rintro r w5 ⟨a',c',o',q',rfl,hO,hb5⟩; obtain ⟨⟨g0,g1⟩,f0,f1⟩:=zB (ze k2 (zd hb4 hb5)))
 have hbW:Below w.heap.size w ((w5.setCell ⟨w2.heap.size,0,none⟩ (.slice a' n2 c')).setCell ⟨w2.heap.size,1,none⟩ (.slice o' p2 q')):=zi (zi (zd b03 (zd hb4 hb5)) (zd b01 b12).size _ _) (zd b01 b12).size _ _;have hO':=(hO.set2 (g:=w2.heap.size) (by have:=hb4.size; omega) (.slice a' n2 c') (.slice o' p2 q')).lt (base':=w.heap.size) (by have:=hb4.size; have:=b03.size; omega);have HO:=hide hO';clear hO hO';exact bodyPost_ret (v:=.tuple #[.agg #[.slice a' n2 c',.slice o' p2 q'],.bool false]) (by simp [results,Tryz.results234,go_sem, *]) rfl ⟨_,_,_,_,rfl,HO.out,hbW⟩

def orV (x v:VT):VT × Bool:=if zL x v.own.length then (x,true) else (v,false)

def zb2 (v:VT) (port id:Int):VT × Bool :=
 if zL v v.own.length && (decide (0≤port) && decide (port≤(v.own.length:Int) - 1)) then orV ⟨v.rows,v.own.set port.toNat id⟩ v else (v,false)

theorem VOwn.len {w:World} {base:Nat} {a:Option Addr} {n c:Nat} {o:Option Addr} {p q:Nat} {v:VT} (h:VOwn w base a n c o p q v):v.rows.length=n∧v.own.length=p:=⟨h.tab.rows.size,h.tab.own.size⟩

theorem VOwn.addr {w:World} {base:Nat} {a:Option Addr} {n c:Nat} {o:Option Addr} {p q:Nat} {v:VT} (h:VOwn w base a n c o p q v) (hp:0 < p):∃g,o=some ⟨g,0,none⟩∧base≤g∧g < w.heap.size :=
 zg1 (F:=intF) (by rw [zE]; exact h.own) hp

theorem VOwn.setOwn {w:World} {base:Nat} {a:Option Addr} {n c g p q:Nat} {v:VT} (h:VOwn w base a n c (some ⟨g,0,none⟩) p q v) {k:Nat} (hk:k < p) {id:Int} (hid : -9223372036854775808≤id∧id≤9223372036854775807) :
  ((∃u,w.cell? ⟨g,k,none⟩=some u)∧w.frozen? ⟨g,k,none⟩=false)∧VOwn (w.setCell ⟨g,k,none⟩ (.int .i64 id)) base a n c (some ⟨g,0,none⟩) p q ⟨v.rows,v.own.set k id⟩:=by
 have hl:=h.len.2;refine ⟨⟨?_,h.own.frozenAt k⟩,zah h.rows h.own (by decide) (zl (rb:=g) k _), ?_, ?_⟩
 ·rw [h.own.cellAt k (by omega)];exact ⟨_,List.getElem?_eq_getElem (by rw [zbk]; omega)⟩
 ·have:=(h.own.stored k (.int .i64 id)).1
  rw [show (cI v.own).set k (.int .i64 id)=cI (v.own.set k id) by simp [cI,List.map_set]] at this;exact this
 ·intro z hz;rcases List.mem_or_eq_of_mem_set hz with hz | rfl
  ·exact h.i64 z hz
  ·exact hid

theorem zcj (base:Nat) (a:Option Addr) (n c:Nat) (o:Option Addr) (p q:Nat) (x:VT) (a2:Option Addr) (n2 c2:Nat) (o2:Option Addr) (p2 q2:Nat) (v:VT) (w:World) (h:VOwn w base a n c o p q x) (h2:VTab w a2 n2 c2 o2 p2 q2 v) (hn:n2≤16777216) (hp:p2≤16777216) (hbase:base≤w.heap.size) :
  Calls Tryz.prog 234 #[.agg #[.slice a n c,.slice o p q],.agg #[.slice a2 n2 c2,.slice o2 p2 q2]] w fun r w'=>∃a' n' c' o' p' q',r=.returned (.tuple #[.agg #[.slice a' n' c',.slice o' p' q'],.bool (orV x v).2])∧VOwn w' base a' n' c' o' p' q' (orV x v).1∧Below w.heap.size w w':=by
 have hl:=h2.own.size;unfold orV;rw [hl];cases hok:zL x p2
 ·refine (zht a n c o p q x a2 n2 c2 o2 p2 q2 v w h.tab h2 hok hn hp).mono ?_;rintro r w' ⟨a',c',o',q',rfl,hO,hb⟩;exact ⟨a',n2,c',o',p2,q',rfl,hO.lt hbase,hb⟩
 ·refine (zgE a n c o p q x a2 n2 c2 o2 p2 q2 w h.tab hok).mono ?_;rintro r w' ⟨rfl,hb⟩;exact ⟨a,n,c,o,p,q,rfl,h.below hb,hb⟩

theorem zcX (a:Option Addr) (n c:Nat) (o:Option Addr) (p q:Nat) (v:VT) (port id:Int) (w:World) (h:VTab w a n c o p q v) (hn:n≤16777216) (hp:p≤16777216) (hid : -9223372036854775808≤id∧id≤9223372036854775807) :
  Calls Tryz.prog 184 #[.agg #[.slice a n c,.slice o p q],.int .i64 port,.int .i64 id] w fun r w'=>∃a' n' c' o' p' q',r=.returned (.tuple #[.agg #[.slice a' n' c',.slice o' p' q'],.bool (zb2 v port id).2])∧VOwn w' w.heap.size a' n' c' o' p' q' (zb2 v port id).1∧Below w.heap.size w w':=by
 generalize hw1:w.alloc (Obj.cells #[Value.slice a n c,Value.slice o p q] 29)=w1;generalize hw2:w1.alloc (Obj.cells #[Value.slice none 0 0,Value.slice none 0 0] 29)=w2;have b01:=zb hw1;have b12:=zb hw2;have b02:=zd b01 b12;have k1:=zk hw2;have z2:w1.heap.size < w2.heap.size:=by rw [← hw2]; simp
 have hb1:=zD hw1 b12;have h2:=h.below b02;have hl:=h.own.size;have hsub:IntKind.i64.wrap ((p:Int) - 1)=(p:Int) - 1:=by rw [IntKind.wrap_i64]; omega
 have Z2:=hide z2;clear z2;unfold zb2;rw [hl];cases hok:zL v p
 ·rw [Bool.false_and,if_neg Bool.false_ne_true];go_enter Tryz.func184,Tryz.ntmps184;go_wp2_with (refine (zO a n c o p q v (p:Int) _ h2).mono ?_; rintro r w3 ⟨rfl,hb3⟩; rw [hok]; have hc1:=zD hw1 (zd b12 hb3))
  go_wp2_with (refine (zal a n c o p q v _ (h2.below hb3) hn hp).mono ?_; rintro r w4 ⟨a',c',o',q',rfl,hO,hb4⟩; obtain ⟨⟨g0,g1⟩,f0,f1⟩:=zB (ze k1 (zd hb3 hb4)))
  have hbW:Below w.heap.size w ((w4.setCell ⟨w1.heap.size,0,none⟩ (.slice a' n c')).setCell ⟨w1.heap.size,1,none⟩ (.slice o' p q')):=zi (zi (zd b02 (zd hb3 hb4)) b01.size _ _) b01.size _ _;have hO':=(hO.set2 (g:=w1.heap.size) (by have:=hb3.size; have:=Z2.out; omega) (.slice a' n c') (.slice o' p q')).lt (base':=w.heap.size) (by have:=hb3.size; have:=b02.size; omega);have HO:=hide hO';clear hO hO';exact bodyPost_ret (v:=.tuple #[.agg #[.slice a' n c',.slice o' p q'],.bool false]) (by simp [results,Tryz.results184,go_sem, *]) rfl ⟨_,_,_,_,_,_,rfl,HO.out,hbW⟩
 ·rw [Bool.true_and];cases hin:(decide (0≤port) && decide (port≤(p:Int) - 1))
  ·rw [if_neg Bool.false_ne_true];have HIN:=hide hin;clear hin;go_enter Tryz.func184,Tryz.ntmps184;go_wp2_with (refine (zO a n c o p q v (p:Int) _ h2).mono ?_; rintro r w3 ⟨rfl,hb3⟩; rw [hok]; have hc1:=zD hw1 (zd b12 hb3))
   go_wp2_with (refine (zg port 0 ((p:Int) - 1) _).mono ?_; rintro r wy ⟨rfl,rfl⟩; rw [HIN.out])
   go_wp2_with (refine (zal a n c o p q v _ (h2.below hb3) hn hp).mono ?_; rintro r w4 ⟨a',c',o',q',rfl,hO,hb4⟩; obtain ⟨⟨g0,g1⟩,f0,f1⟩:=zB (ze k1 (zd hb3 hb4)))
   have hbW:Below w.heap.size w ((w4.setCell ⟨w1.heap.size,0,none⟩ (.slice a' n c')).setCell ⟨w1.heap.size,1,none⟩ (.slice o' p q')):=zi (zi (zd b02 (zd hb3 hb4)) b01.size _ _) b01.size _ _;have hO':=(hO.set2 (g:=w1.heap.size) (by have:=hb3.size; have:=Z2.out; omega) (.slice a' n c') (.slice o' p q')).lt (base':=w.heap.size) (by have:=hb3.size; have:=b02.size; omega);have HO:=hide hO';clear hO hO';exact bodyPost_ret (v:=.tuple #[.agg #[.slice a' n c',.slice o' p q'],.bool false]) (by simp [results,Tryz.results184,go_sem, *]) rfl ⟨_,_,_,_,_,_,rfl,HO.out,hbW⟩
  ·rw [if_pos rfl];obtain ⟨k,rfl⟩:∃k:Nat,port=(k:Int):=⟨port.toNat,by simp at hin; omega⟩;have hk:k < p:=by simp at hin; omega
   rw [Int.toNat_natCast];have HIN:=hide hin;clear hin;have i1:(0:Int)≤(k:Int):=by omega
   have i2:(k:Int) < (p:Int):=by omega
   go_enter Tryz.func184,Tryz.ntmps184;go_wp2_with (refine (zO a n c o p q v (p:Int) _ h2).mono ?_; rintro r w3 ⟨rfl,hb3⟩; rw [hok]; have hc1:=zD hw1 (zd b12 hb3))
   go_wp2_with (refine (zg (k:Int) 0 ((p:Int) - 1) _).mono ?_; rintro r wy ⟨rfl,rfl⟩; rw [HIN.out])
   (go_wp2_with fail);refine (zal a n c o p q v _ (h2.below hb3) hn hp).mono ?_;rintro r w4 ⟨a',c',o',q',rfl,hO,hb4⟩;obtain ⟨g,hg0,hg1,hg2⟩:=hO.addr (by omega);subst hg0;generalize hw5:w4.alloc (Obj.cells #[Value.slice a' n c',Value.slice (some ⟨g,0,none⟩) p q'] 29)=w5;have b45:=zb hw5;have hO5:=hO.below b45;obtain ⟨⟨⟨u,cu⟩,cf⟩,hO6⟩:=hO5.setOwn hk hid;have b25:=zd hb3 (zd hb4 b45);have hgw:w.heap.size≤g∧w1.heap.size < g:=by have:=hb3.size; have:=b01.size; have:=Z2.out; omega
   have b16:Below w1.heap.size w1 (w5.setCell ⟨g,k,none⟩ (.int .i64 id)):=zi (zd b12 b25) (by omega) _ _;have b06:Below w.heap.size w (w5.setCell ⟨g,k,none⟩ (.int .i64 id)):=zi (zd b02 b25) hgw.1 _ _;have b26:Below w2.heap.size w2 (w5.setCell ⟨g,k,none⟩ (.int .i64 id)):=zi b25 (by have:=hb3.size; omega) _ _;have hc5:=zB (by rw [← hw5]; exact zy w4 _:w5.heap[w4.heap.size]? = some (.cells #[.slice a' n c',.slice (some ⟨g,0,none⟩) p q'] 29));have hc6:=zB (zan (b:=g) (j:=k) (u:=.int .i64 id) (by rw [← hw5]; exact zy w4 _:w5.heap[w4.heap.size]? = some (.cells #[.slice a' n c',.slice (some ⟨g,0,none⟩) p q'] 29)) (by omega));have hd6:=zD hw1 b16;have k6:=zan (b:=g) (j:=k) (u:=.int .i64 id) (ze k1 b25) (by omega);have z6:w1.heap.size < w5.heap.size:=by have:=b25.size; have:=Z2.out; omega
   generalize hw6:w5.setCell ⟨g,k,none⟩ (.int .i64 id)=w6 at *;have HO6:=hide hO6;clear hO hO5 hO6;(go_wp2_with fail);refine (zcj w2.heap.size a' n c' (some ⟨g,0,none⟩) p q' _ a n c o p q v _ (HO6.out.lt hb3.size) (h.below b06) hn hp b26.size).mono ?_;rintro r w7 ⟨a7,n7,c7,o7,p7,q7,rfl,hO7,hb7⟩;obtain ⟨⟨g0,g1⟩,f0,f1⟩:=zB (ze k6 hb7);have hbW:Below w.heap.size w ((w7.setCell ⟨w1.heap.size,0,none⟩ (.slice a7 n7 c7)).setCell ⟨w1.heap.size,1,none⟩ (.slice o7 p7 q7)):=zi (zi (zd b06 hb7) b01.size _ _) b01.size _ _;have hO':=(hO7.set2 (g:=w1.heap.size) Z2.out (.slice a7 n7 c7) (.slice o7 p7 q7)).lt (base':=w.heap.size) b02.size;have HO:=hide hO';clear hO7 hO' hw5 hw6;go_wp2;exact bodyPost_ret (v:=.tuple #[.agg #[.slice a7 n7 c7,.slice o7 p7 q7],.bool (orV ⟨v.rows,v.own.set k id⟩ v).2]) (by simp [results,Tryz.results184,go_sem, *]) rfl ⟨_,_,_,_,_,_,rfl,HO.out,hbW⟩

theorem zaq {w:World} {base k:Nat} {e:TypeId} {v:Value} {n:Nat} {xs:List Value} (h:w.ownsRow base e k v n xs) {X:Nat} {cs:Array Value} {T:TypeId} (hX:w.heap[X]? = some (.cells cs T)) (hne:(e:Nat)≠T):∀b,v.ownBlock=some b→b≠X:=by
 obtain ⟨-,h | ⟨g,cap,cur,rfl,-,hh,-⟩⟩:=h
 ·rw [h.1]; intro b hb; cases hb
 ·intro b hb e
  have:g=b:=by simpa [Value.ownBlock] using hb
  subst this e;rw [hh] at hX;cases hX;exact hne rfl

structure RowSt (B:Nat) (w:World) (X:Nat) (ar:Option Addr) (nr cr:Nat) (o:Option Addr) (p q:Nat) (own:List Int) (zs:List VR):Prop where
 box:w.heap[X]? = some (.cells #[.slice ar nr cr,.slice o p q] 29)
 rows:w.ownsRow B 119 3 (.slice ar nr cr) nr (vrowF.all zs)
 own:w.ownsRow B 3 1 (.slice o p q) p (cI own)

theorem RowSt.below {B:Nat} {w w':World} {X:Nat} {ar:Option Addr} {nr cr:Nat} {o:Option Addr} {p q:Nat} {own:List Int} {zs:List VR} (h:RowSt B w X ar nr cr o p q own zs) (hb:Below w.heap.size w w'):RowSt B w' X ar nr cr o p q own zs :=
 ⟨ze h.box hb,zm h.rows hb,zm h.own hb⟩

theorem RowSt.cell {B:Nat} {w:World} {X:Nat} {ar:Option Addr} {nr cr:Nat} {o:Option Addr} {p q:Nat} {own:List Int} {zs:List VR} (h:RowSt B w X ar nr cr o p q own zs):(w.cell? ⟨X,0,none⟩=some (.slice ar nr cr)∧w.cell? ⟨X,1,none⟩=some (.slice o p q))∧w.frozen? ⟨X,0,none⟩=false∧w.frozen? ⟨X,1,none⟩=false:=zB h.box

theorem RowSt.push {B:Nat} {w w':World} {X:Nat} {ar:Option Addr} {nr cr:Nat} {o:Option Addr} {p q:Nat} {own:List Int} {zs zs':List VR} (h:RowSt B w X ar nr cr o p q own zs) {a':Option Addr} {n' c':Nat} (how:w'.ownsRow B 119 3 (.slice a' n' c') n' (vrowF.all zs')) (hg:w.grownBy w' (Value.slice ar nr cr).ownBlock) :
  (w'.cell? ⟨X,0,none⟩=some (.slice ar nr cr)∧w'.frozen? ⟨X,0,none⟩=false)∧RowSt B (w'.setCell ⟨X,0,none⟩ (.slice a' n' c')) X a' n' c' o p q own zs':=by
 have hbx:=zr h.box hg (fun k hk=>zaq h.rows h.box (by decide) k hk);have hown:=zah h.own h.rows (by decide) hg;have hc:=zB hbx;refine ⟨⟨hc.1.1,hc.2.1⟩, ?_,zC how (zl (rb:=X) 0 _) (zaq how hbx (by decide)),zC hown (zl (rb:=X) 0 _) (zaq hown hbx (by decide))⟩;rw [zt hbx]
 rfl

theorem zdy {x r:VR} {t:List VR} {d:Bool} {zs:List VR} (h:(!d && decide (r.i≤x.i))=false) (hne:(x.i != r.i)=true):zs++[x]++zF t r (d || decide (r.i≤x.i))=zs++zF (x::t) r d:=by
 rw [show zF (x::t) r d=(if !d && decide (r.i≤x.i) then [r] else [])++(if x.i != r.i then [x] else [])++zF t r (d || decide (r.i≤x.i)) by simp [zF]];rw [h,hne]
 simp
theorem zdz {x r:VR} {t:List VR} {d:Bool} {zs:List VR} (h:(!d && decide (r.i≤x.i))=false) (hne:(x.i != r.i)=false):zs++zF t r (d || decide (r.i≤x.i))=zs++zF (x::t) r d:=by
 rw [show zF (x::t) r d=(if !d && decide (r.i≤x.i) then [r] else [])++(if x.i != r.i then [x] else [])++zF t r (d || decide (r.i≤x.i)) by simp [zF]];rw [h,hne]
 simp
theorem zfC {x r:VR} {t:List VR} {d:Bool} {zs:List VR} (h:(!d && decide (r.i≤x.i))=true) (hne:(x.i != r.i)=true):(zs++[r])++[x]++zF t r (d || decide (r.i≤x.i))=zs++zF (x::t) r d:=by
 rw [show zF (x::t) r d=(if !d && decide (r.i≤x.i) then [r] else [])++(if x.i != r.i then [x] else [])++zF t r (d || decide (r.i≤x.i)) by simp [zF]];rw [h,hne]
 simp
theorem zfD {x r:VR} {t:List VR} {d:Bool} {zs:List VR} (h:(!d && decide (r.i≤x.i))=true) (hne:(x.i != r.i)=false):(zs++[r])++zF t r (d || decide (r.i≤x.i))=zs++zF (x::t) r d:=by
 rw [show zF (x::t) r d=(if !d && decide (r.i≤x.i) then [r] else [])++(if x.i != r.i then [x] else [])++zF t r (d || decide (r.i≤x.i)) by simp [zF]];rw [h,hne]
 simp

structure BrOwn (w:World) (base:Nat) (a:Option Addr) (n c:Nat) (fa:Option Addr) (fn fc:Nat) (ra:Option Addr) (rn rc:Nat) (oa:Option Addr) (on oc:Nat) (B:BR):Prop where
 ports:w.ownsRow base 113 8 (.slice a n c) n (ptF.all B.ports)
 f:w.ownsRow base 116 5 (.slice fa fn fc) fn (fentF.all B.f)
 v:VOwn w base ra rn rc oa on oc B.v

theorem BrOwn.row {w:World} {base:Nat} {a:Option Addr} {n c:Nat} {fa:Option Addr} {fn fc:Nat} {ra:Option Addr} {rn rc:Nat} {oa:Option Addr} {on oc:Nat} {B:BR} (h:BrOwn w base a n c fa fn fc ra rn rc oa on oc B):BrRow w a n c fa fn fc ra rn rc oa on oc B :=
 ⟨zab (F:=ptF) h.ports,zab (F:=fentF) h.f,h.v.tab⟩

theorem BrOwn.below {w w':World} {base:Nat} {a:Option Addr} {n c:Nat} {fa:Option Addr} {fn fc:Nat} {ra:Option Addr} {rn rc:Nat} {oa:Option Addr} {on oc:Nat} {B:BR} (h:BrOwn w base a n c fa fn fc ra rn rc oa on oc B) (hb:Below w.heap.size w w'):BrOwn w' base a n c fa fn fc ra rn rc oa on oc B :=
 ⟨zm h.ports hb,zm h.f hb,h.v.below hb⟩

theorem BrOwn.lt {w:World} {base base':Nat} {a:Option Addr} {n c:Nat} {fa:Option Addr} {fn fc:Nat} {ra:Option Addr} {rn rc:Nat} {oa:Option Addr} {on oc:Nat} {B:BR} (h:BrOwn w base a n c fa fn fc ra rn rc oa on oc B) (hle:base'≤base):BrOwn w base' a n c fa fn fc ra rn rc oa on oc B :=
 ⟨zae h.ports hle,zae h.f hle,h.v.lt hle⟩

theorem BrOwn.apart {w w':World} {base:Nat} {a:Option Addr} {n c:Nat} {fa:Option Addr} {fn fc:Nat} {ra:Option Addr} {rn rc:Nat} {oa:Option Addr} {on oc:Nat} {B:BR} (h:BrOwn w base a n c fa fn fc ra rn rc oa on oc B) {row:Option Nat} (hg:w.grownBy w' row) (hlt:∀b,row=some b→b < base):BrOwn w' base a n c fa fn fc ra rn rc oa on oc B :=
 ⟨zM h.ports hg hlt,zM h.f hg hlt,⟨zM h.v.rows hg hlt,zM h.v.own hg hlt,h.v.i64⟩⟩

theorem BrOwn.boxed {w:World} {base:Nat} {a:Option Addr} {n c:Nat} {fa:Option Addr} {fn fc:Nat} {ra:Option Addr} {rn rc:Nat} {oa:Option Addr} {on oc:Nat} {B:BR} (h:BrOwn w base a n c fa fn fc ra rn rc oa on oc B) {X:Nat} {cs:Array Value} (hX:w.heap[X]? = some (.cells cs 31)) (j:Nat) (u:Value):BrOwn (w.setCell ⟨X,j,none⟩ u) base a n c fa fn fc ra rn rc oa on oc B :=
 ⟨zC h.ports (zl (rb:=X) j u) (zaq h.ports hX (by decide)),zC h.f (zl (rb:=X) j u) (zaq h.f hX (by decide)),
  ⟨zC h.v.rows (zl (rb:=X) j u) (zaq h.v.rows hX (by decide)),zC h.v.own (zl (rb:=X) j u) (zaq h.v.own hX (by decide)),h.v.i64⟩⟩

theorem BrOwn.newPorts {w w':World} {base:Nat} {a:Option Addr} {n c:Nat} {fa:Option Addr} {fn fc:Nat} {ra:Option Addr} {rn rc:Nat} {oa:Option Addr} {on oc:Nat} {B:BR} (h:BrOwn w base a n c fa fn fc ra rn rc oa on oc B) (hg:w.grownBy w' (Value.slice a n c).ownBlock) {a':Option Addr} {n' c':Nat} {l:List PT} (hp:w'.ownsRow base 113 8 (.slice a' n' c') n' (ptF.all l)) :
  BrOwn w' base a' n' c' fa fn fc ra rn rc oa on oc { B with ports:=l } :=
 ⟨hp,zah h.f h.ports (by decide) hg,⟨zah h.v.rows h.ports (by decide) hg,zah h.v.own h.ports (by decide) hg,h.v.i64⟩⟩

theorem BrOwn.newF {w w':World} {base:Nat} {a:Option Addr} {n c:Nat} {fa:Option Addr} {fn fc:Nat} {ra:Option Addr} {rn rc:Nat} {oa:Option Addr} {on oc:Nat} {B:BR} (h:BrOwn w base a n c fa fn fc ra rn rc oa on oc B) (hg:w.grownBy w' (Value.slice fa fn fc).ownBlock) {fa':Option Addr} {fn' fc':Nat} {l:List FE} (hp:w'.ownsRow base 116 5 (.slice fa' fn' fc') fn' (fentF.all l)) :
  BrOwn w' base a n c fa' fn' fc' ra rn rc oa on oc { B with f:=l } :=
 ⟨zah h.ports h.f (by decide) hg,hp,⟨zah h.v.rows h.f (by decide) hg,zah h.v.own h.f (by decide) hg,h.v.i64⟩⟩

theorem BrOwn.putPorts {w w':World} {base:Nat} {a:Option Addr} {n c:Nat} {fa:Option Addr} {fn fc:Nat} {ra:Option Addr} {rn rc:Nat} {oa:Option Addr} {on oc:Nat} {B:BR} (h:BrOwn w base a n c fa fn fc ra rn rc oa on oc B) (hb:Below w.heap.size w w') {a':Option Addr} {n' c':Nat} {l:List PT} (hp:w'.ownsRow base 113 8 (.slice a' n' c') n' (ptF.all l)):BrOwn w' base a' n' c' fa fn fc ra rn rc oa on oc { B with ports:=l } :=
 ⟨hp,(h.below hb).f,(h.below hb).v⟩

theorem BrOwn.putF {w w':World} {base:Nat} {a:Option Addr} {n c:Nat} {fa:Option Addr} {fn fc:Nat} {ra:Option Addr} {rn rc:Nat} {oa:Option Addr} {on oc:Nat} {B:BR} (h:BrOwn w base a n c fa fn fc ra rn rc oa on oc B) (hb:Below w.heap.size w w') {fa':Option Addr} {fn' fc':Nat} {l:List FE} (hp:w'.ownsRow base 116 5 (.slice fa' fn' fc') fn' (fentF.all l)):BrOwn w' base a n c fa' fn' fc' ra rn rc oa on oc { B with f:=l } :=
 ⟨(h.below hb).ports,hp,(h.below hb).v⟩

theorem BrOwn.putV {w w':World} {base:Nat} {a:Option Addr} {n c:Nat} {fa:Option Addr} {fn fc:Nat} {ra:Option Addr} {rn rc:Nat} {oa:Option Addr} {on oc:Nat} {B:BR} (h:BrOwn w base a n c fa fn fc ra rn rc oa on oc B) (hb:Below w.heap.size w w') {ra':Option Addr} {rn' rc':Nat} {oa':Option Addr} {on' oc':Nat} {v:VT} (hp:VOwn w' base ra' rn' rc' oa' on' oc' v):BrOwn w' base a n c fa fn fc ra' rn' rc' oa' on' oc' { B with v:=v } :=
 ⟨(h.below hb).ports,(h.below hb).f,hp⟩

theorem box11 {w:World} {g:Nat} {cs:Array Value} {T:TypeId} (h:w.heap[g]? = some (.cells cs T)) (j:Nat) (u:Value):(w.setCell ⟨g,j,none⟩ u).heap[g]? = some (.cells (cs.setIfInBounds j u) T):=zt (j:=j) h u

theorem zfT (x:TH) (w:World) (hg:zev w x) :
  Calls Tryz.prog 44 #[.agg #[.slice x.oa x.on x.oc,.func (.func 275) #[] #[.pointer (some ⟨x.wb,0,none⟩),.pointer (some ⟨x.pb,0,none⟩)]]] w fun e w'=>e=.returned (.agg #[.slice x.oa x.on x.oc,.int .i64 x.d.K,.int .i64 x.d.N,.string x.d.S,.slice none 0 0])∧Below w.heap.size w w':=by
 generalize hw1:w.alloc (Obj.cells #[.slice x.oa x.on x.oc,.func (.func 275) #[] #[.pointer (some ⟨x.wb,0,none⟩),.pointer (some ⟨x.pb,0,none⟩)]] 91)=w1;have b1:=zb hw1;have k1:=zk hw1;have HS1:Hid (w1.heap.size=w.heap.size+1):=hide (by rw [← hw1]; simp);generalize hw2:w1.alloc (Obj.cells #[.slice none 0 0,.int .i64 0,.int .i64 0,.string ⟨#[]⟩,.slice none 0 0] 37)=w2;have b12:=zb hw2;have kr0:=zk hw2;have kb:=ze k1 b12;have b2:=zd b1 b12;obtain ⟨⟨c0,c1⟩,-⟩:=zB kb;go_enter Tryz.func44,Tryz.ntmps44;go_upto_region 1 with fail
 clear c0 c1 hw1 hw2 k1 b1 b12;have vv:Below w2.heap.size w2 w2.drew:=zv (Below.refl _ _);refine wp_region_held_drew (S:=(fun W=>(zcc W w.heap.size 0 (.slice x.oa x.on x.oc)∧zcc W w.heap.size 1 (.func (.func 275) #[] #[.pointer (some ⟨x.wb,0,none⟩),.pointer (some ⟨x.pb,0,none⟩)])))) (by kernel_rfl) ((by first | exact (zB kbq).1 | exact (zB (ze kb vv)).1)) (fun hHeld => ?_);refine kK 0 ?_;refine kK 1 ?_;refine kK 2 ?_;refine kK 3 ?_;refine kR 4 fun K hK => ?_
 go_simp;clear hHeld;refine (hg _ (zd b2 vv)).mono ?_;rintro e z1 ⟨rfl,h1⟩;have vv:=zd vv h1;clear h1;go_wp2_with fail
 refine kO hK ((by first | exact (zB kbq).1 | exact (zB (ze kb vv)).1)) fun hHeld => ?_
 clear hK K;refine kK 5 ?_;refine kR 6 fun K hK => ?_
 clear hHeld;have kr:=ze kr0 vv;obtain ⟨⟨p0,p1,p2,p3,p4⟩,f0,f1,f2,f3,f4⟩:=zo kr;go_simp;clear p0 p1 p2 p3 p4 f0 f1 f2 f3 f4;refine zeQ (K:=K _) kr _ _ _ _ _ (fun wq kq gq => ?_);have kbq:=zr (ze kb vv) gq (fun k hk=>by cases hk; have:=HS1.out; show w1.heap.size≠w.heap.size; omega);have HQ:Hid (Below w.heap.size w wq):=hide ((zd b2 vv).grown gq (zd b2 vv).size (fun k hk=>by cases hk; have:=HS1.out; show w.heap.size≤w1.heap.size; omega));clear kr gq;refine kO hK ((by first | exact (zB kbq).1 | exact (zB (ze kb vv)).1)) fun hHeld => ?_
 clear hK K;refine wpAnyH_done (by kernel_rfl) ?_ _;obtain ⟨⟨p0,p1,p2,p3,p4⟩,-⟩:=zo kq;clear hHeld kq kbq;go_wp2;refine bodyPost_ret (v:=.agg #[.slice x.oa x.on x.oc,.int .i64 x.d.K,.int .i64 x.d.N,.string x.d.S,.slice none 0 0]) (by simp [results,Tryz.results44,go_sem, *]) rfl ⟨rfl,HQ.out⟩

end Go.Proofs.YtcpdkcdfnpcemaaGreat
