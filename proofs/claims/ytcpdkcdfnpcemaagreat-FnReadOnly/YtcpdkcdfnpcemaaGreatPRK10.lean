/-
  Packed: MibTh FdbImplL0 MibCat VtabDropS.
-/
import Derived.Test.YtcpdkcdfnpcemaaGreatPRK09
namespace Go.Proofs.YtcpdkcdfnpcemaaGreat
set_option maxRecDepth 100000
set_option maxHeartbeats 16000000
open Go.RowKit

section
open Go.RowKit

structure TL where
 a:Option Addr
 n:Nat
 c:Nat
 z:List Int

def tlF:Flat TL where
 k:=1
 cs:=fun x=>[.slice x.a x.n x.c]
 len:=fun _=>rfl
 pos:=by decide
 one:=fun _ v hv=>by
  simp only [List.mem_cons,List.not_mem_nil,or_false] at hv;subst hv
  rfl

structure TH where
 oa:Option Addr
 on:Nat
 oc:Nat
 wb:Nat
 pb:Nat
 d:BD

def thF:Flat TH where
 k:=2
 cs:=fun x=>[.slice x.oa x.on x.oc,.func (.func 275) #[] #[.pointer (some ⟨x.wb,0,none⟩),.pointer (some ⟨x.pb,0,none⟩)]]
 len:=fun _=>rfl
 pos:=by decide
 one:=fun _ v hv=>by
  simp only [List.mem_cons,List.not_mem_nil,or_false] at hv;rcases hv with rfl | rfl <;> rfl

theorem zhS:(Tryz.prog.info? 91).map (fun i=>(i.zero,i.size,i.bytes))=some (some (.agg #[.slice none 0 0,.nilFunc]),thF.k,32):=by kernel_rfl
theorem zhU:(Tryz.prog.info? 27).map (fun i=>(i.zero,i.size,i.bytes))=some (some (.slice none 0 0),tlF.k,24):=by kernel_rfl

structure THs (w:World) (base:Nat) (l:List TH):Prop where
 item:∀x∈l,w.ownsRow base 3 1 (.slice x.oa x.on x.oc) x.on (cI x.d.o)
 i64:∀x∈l,I64s x.d.o
 apart:(l.flatMap (fun x=>blkL x.oa)).Nodup

theorem zhT (w:World) (base:Nat):THs w base []:=⟨(by intro x hx; cases hx),(by intro x hx; cases hx),List.nodup_nil⟩

section
variable {w w' w1:World} {base base':Nat} {l l1 l2:List TH}
theorem THs.below (h:THs w base l) (hb:Below w.heap.size w w'):THs w' base l:=⟨fun x hx=>zbG (h.item x hx) hb,h.i64,h.apart⟩
theorem THs.lt (h:THs w base l) (hb:base'≤base):THs w base' l:=⟨fun x hx=>zbc (h.item x hx) hb,h.i64,h.apart⟩
theorem THs.only {bs:List Nat} (h:THs w base l) (ho:Only bs w w') (hn:∀x∈l,∀b∈blkL x.oa,b∉bs):THs w' base l :=
 ⟨fun x hx=>ho.own (h.item x hx) (fun k hk=>hn x hx k (zao.1 hk)),h.i64,h.apart⟩
theorem THs.blk (h:THs w base l):∀b∈l.flatMap (fun x=>blkL x.oa),base≤b∧b < w.heap.size:=by
 intro b hb;obtain ⟨x,hx,hb⟩:=List.mem_flatMap.1 hb;exact (h.item x hx).lt b (zao.2 hb)
theorem THs.append (h1:THs w base l1) (hb:Below w.heap.size w w') (h2:THs w' base' l2) (hle:w.heap.size≤base') (hbs:base≤base'):THs w' base (l1++l2):=by
 have k1:=h1.below hb;have k2:=h2.lt hbs;refine ⟨?_, ?_, ?_⟩
 ·intro x hx;rcases List.mem_append.1 hx with hx | hx
  ·exact k1.item x hx
  ·exact k2.item x hx
 ·intro x hx;rcases List.mem_append.1 hx with hx | hx
  ·exact k1.i64 x hx
  ·exact k2.i64 x hx
 ·rw [List.flatMap_append];refine List.nodup_append.2 ⟨h1.apart,h2.apart, ?_⟩;intro a ha b hb' e;subst e;have e1:=(h1.blk a ha).2;have e2:=(h2.blk a hb').1;omega
theorem THs.push {ao:Option Addr} {n cap:Nat} {xs:List Value} {rb:Nat} {y:TH} (h:THs w base l) (hb:Below w.heap.size w w1) (hy:w1.ownsRow w.heap.size 3 1 (.slice y.oa y.on y.oc) y.on (cI y.d.o)) (hz:I64s y.d.o) (hbs:base≤w.heap.size)
  (hr:w1.ownsRow rb 91 2 (.slice ao n cap) n xs) (hg:w1.grownBy w' (Value.slice ao n cap).ownBlock):THs w' base (l++[y]):=by
 have hne:(3:Nat)≠91:=by decide
 have hone:THs w1 w.heap.size [y]:=⟨fun x hx=>by rw [List.mem_singleton.1 hx]; exact hy,fun x hx=>by rw [List.mem_singleton.1 hx]; exact hz,by cases he:y.oa <;> simp [blkL,he]⟩;have hall:=h.append hb hone (Nat.le_refl _) hbs;exact hall.only (Only.of_grown hg) (fun x hx b hb1 hb2=>zbS (hall.item x hx) hr hne (zao.2 hb1) (zao.2 hb2))
end

def zfX (w:World) (x:TH):Prop :=
 ∀w',Below w.heap.size w w'→Calls Tryz.prog 275 #[.pointer (some ⟨x.wb,0,none⟩),.pointer (some ⟨x.pb,0,none⟩)] w' fun e w''=>e=.returned (.agg #[.int .i64 x.d.K,.int .i64 x.d.N,.string x.d.S,.slice none 0 0])∧Below w'.heap.size w' w''

theorem zfX.below {w w1:World} {x:TH} (h:zfX w x) (hb:Below w.heap.size w w1):zfX w1 x:=fun w' hw=>h w' (zd hb hw)

structure Things (w:World) (base:Nat) (ao:Option Addr) (cap:Nat) (l:List TH):Prop where
 row:GRow thF w ao l.length cap l
 names:THs w base l
 gives:∀x∈l,zfX w x
 nil:∀x∈l,x.d.z=[]∧x.d.S.size≤maxLen∧x.on=x.d.o.length

theorem Things.below {w w':World} {base:Nat} {ao:Option Addr} {cap:Nat} {l:List TH} (h:Things w base ao cap l) (hb:Below w.heap.size w w'):Things w' base ao cap l :=
 ⟨h.row.below hb,h.names.below hb,fun x hx=>(h.gives x hx).below hb,h.nil⟩

theorem th_at {w:World} {ao:Option Addr} {len cap:Nat} {l:List TH} (h:GRow thF w ao len cap l) (i:Nat) (hi:i < len):∃(x:TH) (b off:Nat),l[i]? = some x∧ao=some ⟨b,off,none⟩∧w.cell? ⟨b,off+i*2,none⟩=some (.slice x.oa x.on x.oc)∧w.cell? ⟨b,off+i*2+1,none⟩=some (.func (.func 275) #[] #[.pointer (some ⟨x.wb,0,none⟩),.pointer (some ⟨x.pb,0,none⟩)]):=by
 obtain ⟨x,b,off,hx,ha,hc⟩:=h.at i hi;exact ⟨x,b,off,hx,ha,hc 0 _ rfl,hc 1 _ rfl⟩

theorem tl_at {w:World} {ao:Option Addr} {len cap:Nat} {l:List TL} (h:GRow tlF w ao len cap l) (i:Nat) (hi:i < len):∃(x:TL) (b off:Nat),l[i]? = some x∧ao=some ⟨b,off,none⟩∧w.cell? ⟨b,off+i,none⟩=some (.slice x.a x.n x.c):=by
 obtain ⟨x,b,off,hx,ha,hc⟩:=h.at i hi
 have:=hc 0 _ rfl
 exact ⟨x,b,off,hx,ha,by simpa [tlF] using this⟩

def rowTo (g:Nat→BD):Nat→List BD
 | 0=>[]
 | k+1=>rowTo g k++[g k]
def zbM (G:Nat→Nat→BD) (n:Nat):Nat→List BD
 | 0=>[]
 | k+1=>zbM G n k++rowTo (G k) n

theorem zdm {α:Type} {f:Nat→α→BD} {l:List α} {g:Nat→BD} (h:∀i x,l[i]? = some x→g i=f i x):∀k,k≤l.length→rowTo g k=zau f l k
 | 0,_=>rfl
 | k+1,hk=>by
  have hx:l[k]? = some l[k]:=List.getElem?_eq_getElem (by omega);rw [rowTo,zb4 hx,zdm h k (by omega),h k _ hx]

theorem zdz {G:Nat→Nat→BD} {n:Nat} {g:Int→List BD} (h:∀i,rowTo (G i) n=g ((i:Int)+1)):∀k,zbM G n k=zaa g k
 | 0=>rfl
 | k+1=>by rw [zbM,zaa,zdz h k,h k]

end

theorem zg2 (ao:Option Addr) (n cap:Nat) (l:List FE) (w:World) (h:GRow fentF w ao n cap l) (hn:n≤16777216) :
  Calls Tryz.prog 117 #[.slice ao n cap] w fun r w'=>∃ao' cap',r=.returned (.slice ao' n cap')∧w'.ownsRow w.heap.size 116 5 (.slice ao' n cap') n (fentF.all l)∧GRow fentF w' ao' n cap' l∧Below w.heap.size w w':=by
 cases ao with
 | none =>
  have hc0:=h.nil rfl;have hn0:n=0:=by have:=h.le; omega
  subst hc0 hn0;have hl:l=[]:=List.eq_nil_of_length_eq_zero h.size;subst hl;have heq:∀W,(binOp .eql 25 (.slice none 0 0) (.slice none 0 0)).run Tryz.prog W=.ok (.bool true) W:=fun _=>by kernel_rfl
  go_enter Tryz.func117,Tryz.ntmps117;go_wp2;go_ret;exact ⟨none,0,rfl,World.ownsRow_nil _ _ _ _,zdk _ _,Below.refl _ _⟩
 | some a =>
  have heq:∀W,(binOp .eql 25 (.slice (some a) n cap) (.slice none 0 0)).run Tryz.prog W=.ok (.bool false) W:=fun _=>by kernel_rfl
  go_enter Tryz.func117,Tryz.ntmps117;go_wp2_with (at_builtin; refine zay _ rfl _ _ rfl w.heap.size _ 0 [] rfl (zaL fentF w _ 116 w.heap.size (zv w _) (Nat.le_refl _)) (some a) n cap l rfl (h.below (zh _ _)) (by omega) (by simp) ?_)
  intro ao' cap' w' how hr hgr hb;have how:w'.ownsRow w.heap.size 116 5 (.slice ao' n cap') n (fentF.all l):=by simpa using how
  have hr:GRow fentF w' ao' n cap' l:=by simpa using hr
  have HO:=hide how;have HB:=hide ((zh w _).trans hb);clear how hgr hb;go_wp2;go_ret;exact ⟨ao',cap',(by simp),HO.out,hr,HB.out⟩

structure SL where
 a:Option Addr
 n:Nat
 c:Nat
 l:List TH

def slF:Flat SL where
 k:=1
 cs:=fun x=>[.slice x.a x.n x.c]
 len:=fun _=>rfl
 pos:=by decide
 one:=fun _ v hv=>by
  simp only [List.mem_cons,List.not_mem_nil,or_false] at hv;subst hv
  rfl

theorem sl_at {w:World} {ao:Option Addr} {len cap:Nat} {l:List SL} (h:GRow slF w ao len cap l) (i:Nat) (hi:i < len):∃(x:SL) (b off:Nat),l[i]? = some x∧ao=some ⟨b,off,none⟩∧w.cell? ⟨b,off+i,none⟩=some (.slice x.a x.n x.c):=by
 obtain ⟨x,b,off,hx,ha,hc⟩:=h.at i hi
 have:=hc 0 _ rfl
 exact ⟨x,b,off,hx,ha,by simpa [slF] using this⟩

def sumS (l:List SL):Nat→Nat
 | 0=>0
 | k+1=>match l[k]? with
  | some x=>sumS l k+x.n
  | none=>sumS l k
def catS (l:List SL):Nat→List TH
 | 0=>[]
 | k+1=>match l[k]? with
  | some x=>catS l k++x.l
  | none=>catS l k
theorem zge {l:List SL} {k:Nat} {x:SL} (h:l[k]? = some x):sumS l (k+1)=sumS l k+x.n:=by rw [sumS,h]
theorem zh4 {l:List SL} {k:Nat} {x:SL} (h:l[k]? = some x):catS l (k+1)=catS l k++x.l:=by rw [catS,h]
theorem zhR (l:List SL):∀{k m:Nat},k≤m→sumS l k≤sumS l m
 | k,0,h=>by rw [Nat.le_zero.1 h]; exact Nat.le_refl _
 | k,m+1,h=>by
  by_cases e:k=m+1
  ·rw [e]; exact Nat.le_refl _
  ·have:=zhR l (show k≤m by omega)
   rw [sumS]
   split <;> omega

theorem zfB (m:Nat) (w:World) (h0:0 < m) (hm:m≤33554432) :
  Calls Tryz.prog 235 #[.slice none 0 0,.int .i64 m] w fun e w'=>∃a' c',e=.returned (.slice a' 0 c')∧w'.ownsRow w.heap.size 91 2 (.slice a' 0 c') 0 (thF.all [])∧Below w.heap.size w w':=by
 obtain ⟨i0,hi0,hz0,hz1,hz2⟩:=zbB zhS;have hk3:thF.k=2:=rfl;rw [hk3] at hz1;obtain ⟨NC,hNC⟩:∃NC,NC=grownCap w m 0 91:=⟨_,rfl⟩;have hge:m≤NC:=by rw [hNC]; exact grownCap_ge w m 0 91
 have hcm:NC≤maxLen:=by rw [hNC]; exact grownCap_le_maxLen w m 0 91 (by unfold maxLen; omega)
 obtain ⟨C0,hC0⟩:∃C0:Array Value,C0=Builtin.zeroCells #[.slice none 0 0,.nilFunc] m++Builtin.zeroCells #[.slice none 0 0,.nilFunc] (NC - m):=⟨_,rfl⟩;have hap:∀ty,(Builtin.append_ #[87,3] ty #[.slice none 0 0,.int .i64 m]).run Tryz.prog w=.ok (.slice (some ⟨w.heap.size,0,none⟩) m NC) (w.drew.alloc (.cells C0 91)):=fun ty=>by
  rw [hC0,hNC];exact zcT (P:=Tryz.prog) w 87 3 ty 91 i0 (.agg #[.slice none 0 0,.nilFunc]) .i64 .i64 Tryz.underlying87 Tryz.underlying3 hi0 hz0 m h0 (by omega) (by omega) (by rw [hz2]; omega)
 have hC0s:C0.size=NC*2:=by
  rw [hC0];simp only [Array.size_append,size_zeroCells]
  simp
  omega
 have hown:(w.drew.alloc (.cells C0 91)).ownsRow w.heap.size 91 2 (.slice (some ⟨w.heap.size,0,none⟩) 0 NC) 0 (thF.all []) :=
  ⟨by simp [Flat.all],.inr ⟨w.heap.size,NC,C0,rfl,Nat.le_refl _,zv w.drew _,Nat.zero_le _,hcm,hC0s,by simp [Flat.all]⟩⟩
 have HO:=hide hown;have HB:Hid (Below w.heap.size w (w.drew.alloc (.cells C0 91))):=hide (zd (zr (Below.refl _ _)) (zh w.drew _));have hpos:(0:Int) < (m:Int):=by omega
 have hnn:¬((m:Int) < 0):=by omega
 have hwm:IntKind.i64.wrap (m:Int)=(m:Int):=by rw [IntKind.wrap_i64]; omega
 clear hown hC0 hC0s hge hi0 hz0 hz1 hz2 hNC;go_enter Tryz.func235,Tryz.ntmps235;go_wp2_with (at_builtin; refine Lib.wpList_append_run _ rfl _ _ _ _ rfl _ _ rfl rfl _ _ (hap _) ?_)
 go_wp2;go_ret;exact ⟨_,_,rfl,HO.out,HB.out⟩

theorem zen (g m:Nat) (ss:List SL) (w:World) (hg:GRow slF w (some ⟨g,0,none⟩) m m ss) (hr:∀x∈ss,GRow thF w x.a x.n x.c x.l) (hs:sumS ss m≤33554432) (hp:0 < sumS ss m) (hm:m≤1000) :
  Calls Tryz.prog 191 #[.slice (some ⟨g,0,none⟩) m m] w fun e w'=>∃a' c',e=.returned (.slice a' (sumS ss m) c')∧GRow thF w' a' (sumS ss m) c' (catS ss m)∧Below w.heap.size w w':=by
 have HS:=hide hs;have HG:=hide hg;clear hg;go_enter Tryz.func191,Tryz.ntmps191;go_wp2
 go_loop [3,11] (fun s i=>∃k:Nat,k≤m∧i=.int .i64 k∧s=.int .i64 (sumS ss k:Int)) (fun _ i=>m - (intOf i).toNat)
 case atStart=>exact ⟨0,Nat.zero_le _,rfl,rfl⟩
 case round =>
  obtain ⟨k,hk,rfl,rfl⟩:=hrel;by_cases hkm:k < m
  ·obtain ⟨x,gb,off,hx,hga,cc⟩:=sl_at HG.out k hkm;cases hga;rw [Nat.zero_add] at cc;have hkm':(k:Int) < (m:Int):=by omega
   have HX:=hide (zge hx);have hle:=HS.out;have h2:=zhR ss (show k+1≤m by omega);rw [HX.out] at h2;have e1:IntKind.i64.wrap ((sumS ss k:Int)+(x.n:Int))=(sumS ss k:Int)+(x.n:Int):=by rw [IntKind.wrap_i64]; omega
   have j1:¬((sumS ss k:Int)+(x.n:Int) < 0):=by omega
   clear hx hs;go_wp2
   go_round
   case rel=>exact ⟨k+1,by omega,by go_num,by rw [HX.out]; go_num⟩
   case measure=>simp [intOf]; omega
  ·have hkm':¬(k:Int) < (m:Int):=by omega
   have hke:k=m:=by omega
   subst hke;(go_wp2_with fail);refine (zfB (sumS ss k) _ hp HS.out).mono ?_;rintro e w1 ⟨a',c',rfl,ho,hb⟩;clear hs;go_wp2
   go_loopw [6,27] (fun s i wr=>∃(j:Nat) (ar:Option Addr) (cr:Nat),j≤k∧i=.int .i64 j∧s=.slice ar (sumS ss j) cr∧wr.ownsRow w.heap.size 91 2 (.slice ar (sumS ss j) cr) (sumS ss j) (thF.all (catS ss j))∧Below w.heap.size w wr) (fun _ i _=>k - (intOf i).toNat)
   case atStart=>exact ⟨0,a',c',Nat.zero_le _,rfl,rfl,ho,hb⟩
   case round =>
    obtain ⟨j,ar,cr,hj,rfl,rfl,ho,hb⟩:=hrel;by_cases hjk:j < k
    ·obtain ⟨x,gb,off,hx,hga,cc⟩:=sl_at (HG.out.below hb) j hjk;cases hga;rw [Nat.zero_add] at cc;have hjk':(j:Int) < (k:Int):=by omega
     have HX:=hide (zge hx);have HCX:=hide (zh4 hx);have h2:=zhR ss (show j+1≤k by omega);rw [HX.out] at h2;have hle:=HS.out;have hrx:=(hr x (List.mem_of_getElem? hx)).below hb;have HB:=hide hb;have hbs:=hb.size;clear hx hb;go_wp2_with (at_builtin; refine zw (F:=thF) _ rfl _ _ 87 91 rfl w.heap.size Tryz.underlying87 zhS rfl (by decide) _ (sumS ss j) (catS ss j) rfl ho x.a x.n x.c x.l rfl hrx (by omega) hbs ?_)
     intro a7 c7 w7 how _ _ hb7;have HO:=hide how;have HB7:=hide (HB.out.trans hb7);clear how hb7 ho cc;go_wp2
     go_roundw
     case rel=>exact ⟨j+1,a7,c7,by omega,by go_num,by rw [HX.out],by rw [HX.out,HCX.out]; exact HO.out,HB7.out⟩
     case measure=>simp [intOf]; omega
    ·have hjk':¬(j:Int) < (k:Int):=by omega
     have hje:j=k:=by omega
     subst hje;have HO:=hide ho;have HB:=hide hb;clear ho hb;go_wp2;go_ret;exact ⟨ar,cr,rfl,zE (F:=thF) HO.out,HB.out⟩

theorem zd7 (a:Option Addr) (n c:Nat) (o:Option Addr) (p q:Nat) (v:VT) (id:Int) (w:World) (h:VTab w a n c o p q v) (hn:n≤16777216) (hp:p≤16777216) (hno:zO v p=false∨zI v.rows id=none) :
  Calls Tryz.prog 185 #[.agg #[.slice a n c,.slice o p q],.int .i64 id] w fun e w'=>∃a' c' o' q',e=.returned (.tuple #[.agg #[.slice a' n c',.slice o' p q'],.bool false])∧VOwn w' w.heap.size a' n c' o' p q' v∧Below w.heap.size w w':=by
 generalize hw1:w.alloc (Obj.cells #[Value.slice a n c,Value.slice o p q] 29)=w1;generalize hw2:w1.alloc (Obj.cells #[Value.slice none 0 0,Value.slice none 0 0] 29)=w2;have b01:=zb hw1;have b12:=zb hw2;have b02:=zd b01 b12;have k1:=zk hw2;have z2:Hid (w1.heap.size < w2.heap.size):=hide (by rw [← hw2]; simp);have hc2:=zP hw1 b12;have h2:=h.below b02;cases hok:zO v p
 ·generalize hat:rowAt v.rows id=k;have HA:=hide hat;clear hat;go_enter Tryz.func185,Tryz.ntmps185;go_wp2_with (refine (zbe a n c v.rows o p q id _ h2.rows).mono ?_; rintro e w3 ⟨rfl,hb3⟩; rw [HA.out]; have hc3:=zP hw1 (zd b12 hb3))
  go_wp2_with (refine (zS a n c o p q v (p:Int) _ (h2.below hb3)).mono ?_; rintro e w4 ⟨rfl,hb4⟩; rw [hok]; have hc4:=zP hw1 (zd b12 (zd hb3 hb4)))
  (go_wp2_with fail);refine (zav a n c o p q v _ (h2.below (zd hb3 hb4)) hn hp).mono ?_;rintro e w5 ⟨a',c',o',q',rfl,hO,hb5⟩;have b25:=zd hb3 (zd hb4 hb5);obtain ⟨⟨g0,g1⟩,f0,f1⟩:=zU (ze k1 b25);have HB:=hide (zg (zg (zd b02 b25) b01.size 0 (.slice a' n c')) b01.size 1 (.slice o' p q'));have HO:=hide ((hO.set2 (g:=w1.heap.size) (Nat.lt_of_lt_of_le z2.out (zd hb3 hb4).size) (.slice a' n c') (.slice o' p q')).lt (base':=w.heap.size) (Nat.le_trans b02.size (zd hb3 hb4).size));clear hO;go_wp2;exact bodyPost_ret (v:=.tuple #[.agg #[.slice a' n c',.slice o' p q'],.bool false]) (by simp [results,Tryz.results185,go_sem, *]) rfl ⟨_,_,_,_,rfl,HO.out,HB.out⟩
 ·have hr:zI v.rows id=none:=by
   rcases hno with h | h
   ·rw [hok] at h; cases h
   ·exact h
  have HA:Hid (rowAt v.rows id = -1):=hide (by unfold rowAt; rw [hr]);clear hr hno;go_enter Tryz.func185,Tryz.ntmps185;go_wp2_with (refine (zbe a n c v.rows o p q id _ h2.rows).mono ?_; rintro e w3 ⟨rfl,hb3⟩; rw [HA.out]; have hc3:=zP hw1 (zd b12 hb3))
  go_wp2_with (refine (zS a n c o p q v (p:Int) _ (h2.below hb3)).mono ?_; rintro e w4 ⟨rfl,hb4⟩; rw [hok]; have hc4:=zP hw1 (zd b12 (zd hb3 hb4)))
  (go_wp2_with fail);refine (zav a n c o p q v _ (h2.below (zd hb3 hb4)) hn hp).mono ?_;rintro e w5 ⟨a',c',o',q',rfl,hO,hb5⟩;have b25:=zd hb3 (zd hb4 hb5);obtain ⟨⟨g0,g1⟩,f0,f1⟩:=zU (ze k1 b25);have HB:=hide (zg (zg (zd b02 b25) b01.size 0 (.slice a' n c')) b01.size 1 (.slice o' p q'));have HO:=hide ((hO.set2 (g:=w1.heap.size) (Nat.lt_of_lt_of_le z2.out (zd hb3 hb4).size) (.slice a' n c') (.slice o' p q')).lt (base':=w.heap.size) (Nat.le_trans b02.size (zd hb3 hb4).size));clear hO;go_wp2;exact bodyPost_ret (v:=.tuple #[.agg #[.slice a' n c',.slice o' p q'],.bool false]) (by simp [results,Tryz.results185,go_sem, *]) rfl ⟨_,_,_,_,rfl,HO.out,HB.out⟩

theorem zdc (a:Option Addr) (n c:Nat) (o:Option Addr) (p q:Nat) (v:VT) (id:Int) (w:World) (h:VTab w a n c o p q v) (hn:n≤16777216) (hp:p≤16777216) :
  Calls Tryz.prog 185 #[.agg #[.slice a n c,.slice o p q],.int .i64 id] w fun e w'=>∃a' n' c' o' p' q',e=.returned (.tuple #[.agg #[.slice a' n' c',.slice o' p' q'],.bool (zbA v id).2])∧VOwn w' w.heap.size a' n' c' o' p' q' (zbA v id).1∧Below w.heap.size w w':=by
 have hl:=h.own.size;by_cases hno:zO v p=false∨zI v.rows id=none
 ·have hd:zbA v id=(v,false):=by
   unfold zbA;rw [hl];rcases hno with h | h
   ·rw [h];cases zI v.rows id <;> rfl
   ·rw [h]
  rw [hd];refine (zd7 a n c o p q v id w h hn hp hno).mono ?_;rintro e w' ⟨a',c',o',q',rfl,hO,hb⟩;exact ⟨a',n,c',o',p,q',rfl,hO,hb⟩
 ·have hok:zO v p=true:=by
   cases h1:zO v p
   ·exact absurd (Or.inl h1) hno
   ·rfl
  cases hr:zI v.rows id with
  | none=>exact absurd (Or.inr hr) hno
  | some k =>
   have hd:zbA v id=orV ⟨v.rows.take k++v.rows.drop (k+1),v.own⟩ v:=by
    unfold zbA;rw [hl,hr,hok]
    rfl
   rw [hd];have hkn:k < n:=by
    have:=(List.findIdx?_eq_some_iff_getElem.1 hr).1
    have:=h.rows.size
    omega
   obtain ⟨x,b,off,-,rfl,-⟩:=zaI h.rows k hkn;exact zdT b off n c o p q v id k w h hn hp hr hok

end Go.Proofs.YtcpdkcdfnpcemaaGreat
