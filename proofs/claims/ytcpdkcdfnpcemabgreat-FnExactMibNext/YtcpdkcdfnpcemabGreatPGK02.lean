/-
  Packed: IHelp VrowMem BrMem BrLaws MibMath BindMem OwnGen BindOwn BindApp VecEql PtOkS FdbSpec VtabAt Made.
-/
import Derived.Test.YtcpdkcdfnpcemabGreatPGK01
import Derived.Deep.RegionHeld3
namespace Go.Proofs.YtcpdkcdfnpcemabGreat
set_option maxRecDepth 100000
set_option maxHeartbeats 16000000
open Go.RowKit

theorem zd1 (a1:Option Addr) (l1 c1:Nat) (z1:List Int) (a2:Option Addr) (l2 c2:Nat) (z2:List Int) (w:World) (h1:IRow w a1 l1 c1 z1) (h2:IRow w a2 l2 c2 z2) :
  Calls Tryz.prog 14 #[.slice a1 l1 c1,.slice a2 l2 c2] w fun e w'=>e=.returned (.bool (decide (z1=z2)))∧∃n,w'=w.drewN n:=by
 have m1:=h1.top; have m2:=h2.top; have s1:=h1.size; have s2:=h2.size; have e1:=h1.le; have e2:=h2.le
 unfold maxLen at m1 m2;by_cases hl:l1=l2
 ·subst hl;by_cases h0:l1=0
  ·subst h0;have hz:z1=z2:=by rw [List.eq_nil_of_length_eq_zero s1,List.eq_nil_of_length_eq_zero s2]
   go_enter Tryz.func14,Tryz.ntmps14;go_wp2
   go_loop [5] (fun i=>i=.int .i64 0) (fun _=>0)
   case atStart=>rfl
   case round =>
    subst hrel;go_wp2;go_ret;exact ⟨by simp,0,rfl⟩
  ·rcases h1.cell with h | ⟨b1,o1,rfl,g1⟩
   ·exact absurd h h0
   rcases h2.cell with h | ⟨b2,o2,rfl,g2⟩
   ·exact absurd h h0
   clear h1 h2;have G1:Hid (∀i,i < l1→w.cell? ⟨b1,o1+i,none⟩=some (.int .i64 (z1.getD i 0))):=g1;have G2:Hid (∀i,i < l1→w.cell? ⟨b2,o2+i,none⟩=some (.int .i64 (z2.getD i 0))):=g2;clear g1 g2;go_enter Tryz.func14,Tryz.ntmps14;go_wp2
   go_loopw [5] (fun i wr=>∃k:Nat,k≤l1∧i=.int .i64 k∧z1.take k=z2.take k∧∃n,wr=w.drewN n) (fun i _=>l1 - (intOf i).toNat)
   case atStart=>exact ⟨0,Nat.zero_le _,rfl,rfl,0,rfl⟩
   case round =>
    obtain ⟨k,hk,rfl,ht,n,rfl⟩:=hrel;have HT:Hid (z1.take k=z2.take k):=ht;clear ht;by_cases hlt:k < l1
    ·have c1:=G1.out k hlt;have c2:=G2.out k hlt;generalize hx:z1.getD k 0=x at c1;generalize hy:z2.getD k 0=y at c2;have HX:Hid (z1.getD k 0=x):=hx;have HY:Hid (z2.getD k 0=y):=hy;clear hx hy;by_cases hq:x=y
     ·subst hq;go_wp2
      go_quiet (fail)
      go_wp2
      go_roundw
      case rel=>exact ⟨k+1,by omega,by go_num,by rw [zG _ _ (by omega),zG _ _ (by omega),HT.out,HX.out,HY.out],_,rfl⟩
      case measure=>simp [intOf]; omega
     ·have hne:(x != y)=true:=by simp [hq]
      go_wp2
      go_quiet (fail)
      go_wp2;go_ret;exact ⟨zp (decide_eq_false (ne_at k (by rw [HX.out,HY.out]; exact hq))).symm,_,World.drewN_drewN _ _ _⟩
    ·go_wp2;go_ret;have hk':k=l1:=by omega
     exact ⟨zp (decide_eq_true (zbx (by omega) (by rw [s1,← hk']; exact HT.out))).symm,_,rfl⟩
 ·have hne:((l1:Int) != (l2:Int))=true:=by simp; omega
  have hz:¬z1=z2:=by intro e; rw [e] at s1; omega
  go_enter Tryz.func14,Tryz.ntmps14;go_wp2;go_ret;exact ⟨zp (decide_eq_false hz).symm,0,rfl⟩

def halfI (zs:List Int) (n k:Nat):List Value:=cI (zs.take k)++List.replicate (n - k) (.int .i64 0)

theorem zdq (zs:List Int) (n k:Nat) (h:zs.length=n) (hk:k≤n):(halfI zs n k).length=n:=by
 simp [halfI,zbf]; omega

theorem zfi (zs:List Int) (n k:Nat) (h:zs.length=n) (hk:k < n):(halfI zs n k).set k (.int .i64 (zs.getD k 0))=halfI zs n (k+1):=by
 have hl:(cI (zs.take k)).length=k:=by simp [zbf]; omega
 unfold halfI;rw [List.set_append_right _ _ (by omega),hl,Nat.sub_self,zG _ _ (by omega),zbC];obtain ⟨m,hm⟩:∃m,n - k=m+1:=⟨n - k - 1,by omega⟩;have hm':n - (k+1)=m:=by omega
 rw [hm,hm',List.replicate_succ,List.set_cons_zero]
 simp [cI]

theorem zfh (zs:List Int) (n:Nat) (h:zs.length=n):halfI zs n n=cI zs:=by
 simp [halfI,← h]

theorem zeT (zs:List Int) (n:Nat):halfI zs n 0=List.replicate n (.int .i64 0):=by
 simp [halfI,cI]

theorem ze9 (a1:Option Addr) (l1 c1:Nat) (z1:List Int) (w:World) (h1:IRow w a1 l1 c1 z1) (hs:l1≤16777216) :
  Calls Tryz.prog 10 #[.slice a1 l1 c1] w fun e w'=>e=.returned (.slice (some ⟨w.heap.size,0,none⟩) l1 l1) ∧
   w'.ownsRow w.heap.size 3 1 (.slice (some ⟨w.heap.size,0,none⟩) l1 l1) l1 (cI z1)∧Below w.heap.size w w':=by
 obtain ⟨i0,hi,hz0,hz1,hz2⟩:=info_parts Tryz.infoI64;have s1:=h1.size;have hcell:=h1.cell;clear h1;go_enter Tryz.func10,Tryz.ntmps10;go_wp2_with (at_make; refine wpList_make_full _ rfl _ _ 25 rfl w.heap.size 3 i0 (.int .i64 0) 1 Tryz.underlying25 hi hz0 hz1 .i64 .i64 _ _ l1 rfl rfl rfl rfl ?c1 ?c2 ?c3 ?_)
 case c1=>rw [hz2]; omega
 case c2=>unfold maxLen; omega
 case c3=>exact Nat.le_refl _
 intro w1 hown hgrow;have hb1:Below w.heap.size w w1:=(Below.refl _ _).grown hgrow (Nat.le_refl _) (by intro k hk; cases hk);have hown1:w1.ownsRow w.heap.size 3 1 (.slice (some ⟨w.heap.size,0,none⟩) l1 l1) l1 (halfI z1 l1 0):=by
  rw [zeT,← toList_madeCells_one]; simpa [Value.cells] using hown
 clear hown hgrow hi hz0 hz1 hz2;go_wp2
 go_loopw [4] (fun i wr=>∃k:Nat,k≤l1∧i=.int .i64 k∧wr.ownsRow w.heap.size 3 1 (.slice (some ⟨w.heap.size,0,none⟩) l1 l1) l1 (halfI z1 l1 k)∧Below w.heap.size w wr) (fun i _=>l1 - (intOf i).toNat)
 case atStart=>exact ⟨0,Nat.zero_le _,rfl,hown1,hb1⟩
 case round =>
  obtain ⟨k,hk,rfl,hown,hb⟩:=hrel;by_cases hlt:k < l1
  ·rcases hcell with h0 | ⟨b,off,rfl,hc⟩
   ·omega
   have cx:wr.cell? ⟨b,off+k,none⟩=some (.int .i64 (z1.getD k 0)):=by rw [hb.cell (zj (hc k hlt))]; exact hc k hlt
   have cf:=hown.frozenAt k;have cc:∃u,wr.cell? ⟨w.heap.size,k,none⟩=some u:=by
    rw [hown.cellAt k (by omega)];exact ⟨_,List.getElem?_eq_getElem (by rw [zdq _ _ _ s1 (by omega)]; exact hlt)⟩
   obtain ⟨u,cu⟩:=cc;have R:=hown.stored k (.int .i64 (z1.getD k 0));rw [zfi _ _ _ s1 hlt] at R;have hb':=hb.setCell (p:=⟨w.heap.size,k,none⟩) (Nat.le_refl _) (.int .i64 (z1.getD k 0));have HR:=R.1;generalize hx:z1.getD k 0=x at cx HR hb';have HX:Hid (z1.getD k 0=x):=hx;clear hx hc hown R hb hb1 hown1;go_wp2
   go_roundw
   case rel=>exact ⟨k+1,by omega,by go_num,HR,hb'⟩
   case measure=>simp [intOf]; omega
  ·have hk':k=l1:=by omega
   subst hk';rw [zfh _ _ s1] at hown;go_wp2;go_ret;exact ⟨rfl,hown,hb⟩

def zae (k:Int) (n:Nat):List Int:=(List.range n).map fun i:Nat=>(k+i)

theorem zbL (k:Int) (n:Nat):(zae k n).length=n:=by simp [zae]
theorem zeW (k:Int) (n i:Nat) (h:i < n):(zae k n).getD i 0=(k+i):=by
 simp [zae,List.getD_eq_getElem?_getD,List.getElem?_map,List.getElem?_range h]
theorem zeg (k:Int) (n:Nat):zae k (n+1)=zae k n++[(k+n)]:=by
 simp [zae,List.range_succ]
theorem zbB (k:Int) (n:Nat) (h0:0≤k) (h1:k≤1099511627776) (hn:n≤16777216):I64s (zae k n):=by
 intro z hz;simp only [zae,List.mem_map,List.mem_range] at hz;obtain ⟨i,hi,rfl⟩:=hz;omega

def za6 (k:Int) (zs:List Int) (j:Nat):List Int:=zae k j++zs.drop j

theorem zef (k:Int) (zs:List Int) (j:Nat) (h:j < zs.length):(cI (za6 k zs j)).set j (.int .i64 ((k+j)))=cI (za6 k zs (j+1)):=by
 have hl:(cI (zae k j)).length=j:=by rw [zbf,zbL]
 unfold za6;rw [zbC,List.set_append_right _ _ (by omega),hl,Nat.sub_self,zeg,zbC,zbC];rw [List.drop_eq_getElem_cons h];simp only [cI,List.map_cons,List.set_cons_zero,List.map_nil,List.append_assoc,List.cons_append,List.nil_append]

theorem zcI (k:Int) (zs:List Int) (j:Nat) (h:j≤zs.length):(za6 k zs j).length=zs.length:=by
 simp [za6,zbL]; omega

theorem zfl (base g n cap:Nat) (zs:List Int) (k:Int) (w:World) (hown:w.ownsRow base 3 1 (.slice (some ⟨g,0,none⟩) n cap) n (cI zs)) (hn:n≤16777216) (hk0:0≤k) (hk1:k≤1099511627776) :
  Calls Tryz.prog 16 #[.slice (some ⟨g,0,none⟩) n cap,.int .i64 k] w fun e w'=>e=.returned (.int .i64 (k+n)) ∧
   w'.ownsRow base 3 1 (.slice (some ⟨g,0,none⟩) n cap) n (cI (zae k n))∧w.grownBy w' (some g):=by
 have hl:zs.length=n:=by have:=hown.1; simpa [cI] using this
 go_enter Tryz.func16,Tryz.ntmps16;go_wp2
 go_loopw [1,5] (fun m i wr=>∃j:Nat,j≤n∧i=.int .i64 j∧m=.int .i64 (k+j)∧wr.ownsRow base 3 1 (.slice (some ⟨g,0,none⟩) n cap) n (cI (za6 k zs j))∧w.grownBy wr (some g)) (fun _ i _=>n - (intOf i).toNat)
 case atStart=>exact ⟨0,Nat.zero_le _,rfl,by simp,by simpa [za6,zae] using hown,World.grownBy.refl _ _⟩
 case round =>
  obtain ⟨j,hj,rfl,rfl,how,hg⟩:=hrel;by_cases hlt:j < n
  ·have cf:=how.frozenAt j;have cc:∃u,wr.cell? ⟨g,j,none⟩=some u:=by
    rw [how.cellAt j (by omega)];exact ⟨_,List.getElem?_eq_getElem (by rw [zbf,zcI _ _ _ (by omega)]; omega)⟩
   obtain ⟨u,cu⟩:=cc;have R:=(how.stored j (.int .i64 ((k+j)))).1;rw [zef _ _ _ (by omega)] at R;have hg':=zbG hg j (.int .i64 ((k+j)));clear how hg hown;go_wp2
   go_roundw
   case rel=>exact ⟨j+1,by omega,by go_num,by go_num,R,hg'⟩
   case measure=>simp [intOf]; omega
  ·have hj':j=n:=by omega
   subst hj';have hd:za6 k zs j=zae k j:=by simp [za6,← hl]
   rw [hd] at how;clear hd;go_wp2;go_ret;exact ⟨rfl,how,hg⟩

theorem zfm (k:Int) (w:World) :
  Calls Tryz.prog 16 #[.slice none 0 0,.int .i64 k] w fun e w'=>e=.returned (.int .i64 k)∧w'=w:=by
 go_enter Tryz.func16,Tryz.ntmps16;go_wp2
 go_loop [1,5] (fun m i=>m=.int .i64 k∧i=.int .i64 0) (fun _ _=>0)
 case atStart=>exact ⟨rfl,rfl⟩
 case round =>
  obtain ⟨rfl,rfl⟩:=hrel;go_wp2;go_ret;exact ⟨rfl,rfl⟩

theorem zdr (ao:Option Addr) (n cap:Nat) (k:Int) (w:World) (h1:IRow w ao n cap (zae k n)) (hn:n≤16777216) (hk0:0≤k) (hk1:k≤1099511627776) :
  Calls Tryz.prog 51 #[.slice ao n cap,.int .i64 k] w fun e w'=>e=.returned (.int .i64 (k+n))∧w'=w:=by
 have hcell:=h1.cell;clear h1;go_enter Tryz.func51,Tryz.ntmps51;go_wp2
 go_loop [1,5] (fun m i=>∃j:Nat,j≤n∧i=.int .i64 j∧m=.int .i64 (k+j)) (fun _ i=>n - (intOf i).toNat)
 case atStart=>exact ⟨0,Nat.zero_le _,rfl,by simp⟩
 case round =>
  obtain ⟨j,hj,rfl,rfl⟩:=hrel;by_cases hlt:j < n
  ·rcases hcell with h0 | ⟨b,off,rfl,hc⟩
   ·omega
   have cx:=hc j hlt;rw [zeW _ _ _ hlt] at cx;clear hc;go_wp2
   go_round
   case rel=>exact ⟨j+1,by omega,by go_num,by go_num⟩
   case measure=>simp [intOf]; omega
  ·have hj':j=n:=by omega
   subst hj';go_wp2;go_ret;exact ⟨rfl,rfl⟩

theorem zcg (a1:Option Addr) (l1 c1:Nat) (a2:Option Addr) (l2 c2:Nat) (zs:List Int) (w:World) (h1:IRow w a1 l1 c1 zs) (h2:IRow w a2 l2 c2 zs) :
  Calls Tryz.prog 14 #[.slice a1 l1 c1,.slice a2 l2 c2] w fun e w'=>e=.returned (.bool true)∧∃n,w'=w.drewN n:=by
 refine (zd1 a1 l1 c1 zs a2 l2 c2 zs w h1 h2).mono ?_;rintro e w' ⟨rfl,n,rfl⟩;exact ⟨by simp,n,rfl⟩

theorem zO {w:World} {base:Nat} {ao:Option Addr} {n cap:Nat} {zs:List Int} (h:w.ownsRow base 3 1 (.slice ao n cap) n (cI zs)) (hz:I64s zs):IRow w ao n cap zs:=by
 obtain ⟨ao',cap',e,hr⟩:=zd9 h hz;cases e;exact hr

theorem zaO (base:Nat) (ao:Option Addr) (n cap:Nat) (zs:List Int) (k:Int) (w:World) (hown:w.ownsRow base 3 1 (.slice ao n cap) n (cI zs)) (hn:n≤16777216) (hk0:0≤k) (hk1:k≤1099511627776) :
  Calls Tryz.prog 16 #[.slice ao n cap,.int .i64 k] w fun e w'=>e=.returned (.int .i64 (k+n)) ∧
   w'.ownsRow base 3 1 (.slice ao n cap) n (cI (zae k n))∧w.grownBy w' (Value.slice ao n cap).ownBlock:=by
 rcases hown.2 with ⟨h,h0⟩ | ⟨g,cap',cur,h,hg,h3⟩
 ·cases h;refine (zfm k w).mono ?_;rintro e w' ⟨rfl,rfl⟩;exact ⟨by simp,by simpa [zae,cI] using World.ownsRow_nil _ _ _ _,World.grownBy.refl _ _⟩
 ·cases h;refine (zfl base g n cap zs k w hown hn hk0 hk1).mono ?_;rintro e w' ⟨rfl,ho,hgr⟩;exact ⟨rfl,ho,hgr⟩

theorem zaj (a1:Option Addr) (l1 c1:Nat) (z1:List Int) (w:World) (h1:IRow w a1 l1 c1 z1) (hs:l1≤16777216) :
  Calls Tryz.prog 10 #[.slice a1 l1 c1] w fun e w'=>∃ao cap,e=.returned (.slice ao l1 cap) ∧
   w'.ownsRow w.heap.size 3 1 (.slice ao l1 cap) l1 (cI z1)∧IRow w' ao l1 cap z1∧Below w.heap.size w w':=by
 refine (ze9 a1 l1 c1 z1 w h1 hs).mono ?_;rintro e w' ⟨rfl,ho,hb⟩;exact ⟨_,_,rfl,ho,zO ho h1.byte,hb⟩

def vrowF:Flat VR where
 k:=3
 cs:=fun e=>[.int .i64 e.i,.int .i64 e.m,.int .i64 e.b]
 len:=fun _=>rfl
 pos:=by decide
 one:=fun _ v hv=>by
  simp only [List.mem_cons,List.not_mem_nil,or_false] at hv;rcases hv with rfl | rfl | rfl <;> rfl

theorem zak {w:World} {ao:Option Addr} {len cap:Nat} {l:List VR} (h:GRow vrowF w ao len cap l) (i:Nat) (hi:i < len):∃(x:VR) (b off:Nat),l[i]? = some x∧ao=some ⟨b,off,none⟩ ∧
  w.cell? ⟨b,off+i*3,none⟩=some (.int .i64 x.i)∧w.cell? ⟨b,off+i*3+1,none⟩=some (.int .i64 x.m)∧w.cell? ⟨b,off+i*3+2,none⟩=some (.int .i64 x.b):=by
 obtain ⟨x,b,off,hx,ha,hc⟩:=h.at i hi;exact ⟨x,b,off,hx,ha,hc 0 _ rfl,hc 1 _ rfl,hc 2 _ rfl⟩

structure VTab (w:World) (a:Option Addr) (n c:Nat) (o:Option Addr) (p q:Nat) (v:VT):Prop where
 rows:GRow vrowF w a n c v.rows
 own:IRow w o p q v.own

theorem VTab.below {w w':World} {a:Option Addr} {n c:Nat} {o:Option Addr} {p q:Nat} {v:VT} (h:VTab w a n c o p q v) (hb:Below w.heap.size w w'):VTab w' a n c o p q v :=
 ⟨h.rows.below hb,h.own.below hb⟩

structure BR where
 id:Int
 name:ByteArray
 ports:List PT
 f:List FE
 v:VT
 ticks:Int
 parse:Int
 word:Int
 drops:Int
 vers:Int

def in1m (x:Int):Bool:=decide (0≤x) && decide (x≤1000000)
def zN (a b c d e:Int):Bool:=in1m a && (in1m b && (in1m c && (in1m d && in1m e)))
def zx (b:BR):Bool :=
 b.ports.all ptOk && (in3 b.id 1 99 && (decide ((b.name.size:Int)≤10) && (in3 (b.ports.length:Int) 1 6 && (fdbOk b.f && (zS b.v (b.ports.length:Int) && zN b.ticks b.parse b.word b.drops b.vers)))))

structure BrRow (w:World) (a:Option Addr) (n c:Nat) (fa:Option Addr) (fn fc:Nat) (ra:Option Addr) (rn rc:Nat) (oa:Option Addr) (on oc:Nat) (b:BR):Prop where
 ports:GRow ptF w a n c b.ports
 f:GRow fentF w fa fn fc b.f
 v:VTab w ra rn rc oa on oc b.v

theorem BrRow.below {w w':World} {a:Option Addr} {n c:Nat} {fa:Option Addr} {fn fc:Nat} {ra:Option Addr} {rn rc:Nat} {oa:Option Addr} {on oc:Nat} {b:BR} (h:BrRow w a n c fa fn fc ra rn rc oa on oc b) (hb:Below w.heap.size w w'):BrRow w' a n c fa fn fc ra rn rc oa on oc b :=
 ⟨h.ports.below hb,h.f.below hb,h.v.below hb⟩

theorem zay {b:BR} (h:zx b=true):b.ports.all ptOk=true∧in3 b.id 1 99=true∧(b.name.size:Int)≤10∧in3 (b.ports.length:Int) 1 6=true∧fdbOk b.f=true∧zS b.v (b.ports.length:Int)=true∧in1m b.ticks=true∧in1m b.parse=true∧in1m b.word=true∧in1m b.drops=true∧in1m b.vers=true:=by
 unfold zx zN at h;simp only [Bool.and_eq_true,decide_eq_true_eq] at h;obtain ⟨h1,h2,h3,h4,h5,h6,h7,h8,h9,h10,h11⟩:=h;exact ⟨h1,h2,h3,h4,h5,h6,h7,h8,h9,h10,h11⟩

def nmI (l:List Int):List Int:=1::3::1::l
def numD (l:List Int) (n:Int):BD:=⟨nmI l,2,n,⟨#[]⟩,[]⟩
def nameD (s:ByteArray):BD:=⟨nmI [1,1],4,0,s,[]⟩

def portW (B:BR) (c:Int) (p:Nat) (x:PT):Int:=if c=1 then (if x.up=true then 1 else 0) else if c=2 then x.k else if c=3 then z9 B.id B.ports (p:Int) else (B.v.own[p]?).getD 0
def rowW (r:VR) (c:Int):Int:=if c=1 then 1 else if c=2 then r.m else r.b

def zV {α:Type} (f:Nat→α→BD) (l:List α):Nat→List BD
 | 0=>[]
 | k+1=>match l[k]? with
  | some x=>zV f l k++[f k x]
  | none=>zV f l k
def zI (g:Int→List BD):Nat→List BD
 | 0=>[]
 | k+1=>zI g k++g ((k:Int)+1)

theorem za5 {α:Type} {f:Nat→α→BD} {l:List α} {k:Nat} {x:α} (h:l[k]? = some x):zV f l (k+1)=zV f l k++[f k x]:=by
 rw [zV,h]
theorem zX {α:Type} (f:Nat→α→BD) (l:List α):∀k,(zV f l k).length≤k
 | 0=>Nat.le_refl _
 | k+1=>by
  have:=zX f l k
  rw [zV]
  split
  ·rw [List.length_append]; simp; omega
  ·omega

def portB (B:BR) (c:Int) (p:Nat) (x:PT):BD:=numD [2,c,(p:Int)+1] (portW B c p x)
def rowB (c:Int) (_:Nat) (r:VR):BD:=numD [3,c,r.i] (rowW r c)
def entB (_:Nat) (e:FE):BD:=numD [4,1,e.t,e.m] (e.p+1)

def zW (B:BR):List BD:=[nameD B.name,numD [1,2] B.ticks,numD [1,3] B.parse,numD [1,4] B.word,numD [1,5] B.drops]
def zL (B:BR) (c:Int):List BD:=zV (portB B c) B.ports B.ports.length
def zaf (B:BR) (c:Int):List BD:=zV (rowB c) B.v.rows B.v.rows.length
def zcv (B:BR):List BD:=zV entB B.f B.f.length
def zbk (B:BR):List BD:=zW B++zI (zL B) 4++zI (zaf B) 3++zcv B
def zw (B:BR):List BD:=if zx B=true then zbk B else []

section
open Go.RowKit

structure BI where
 oa:Option Addr
 on:Nat
 oc:Nat
 o:List Int
 K:Int
 N:Int
 S:ByteArray
 za:Option Addr
 zn:Nat
 zc:Nat
 z:List Int

def BI.d (x:BI):BD:=⟨x.o,x.K,x.N,x.S,x.z⟩

structure BI.In (w:World) (x:BI):Prop where
 o:IRow w x.oa x.on x.oc x.o
 z:IRow w x.za x.zn x.zc x.z
 s:x.S.size≤maxLen

def BI.At (w:World) (b p:Nat) (x:BI):Prop :=
 w.cell? ⟨b,p,none⟩=some (.slice x.oa x.on x.oc)∧w.cell? ⟨b,p+1,none⟩=some (.int .i64 x.K)∧w.cell? ⟨b,p+2,none⟩=some (.int .i64 x.N)∧w.cell? ⟨b,p+3,none⟩=some (.string x.S)∧w.cell? ⟨b,p+4,none⟩=some (.slice x.za x.zn x.zc)

structure BRow (w:World) (ao:Option Addr) (len cap:Nat) (l:List BI):Prop where
 size:l.length=len
 le:len≤cap
 top:cap≤maxLen
 nil:ao=none→cap=0
 item:∀x∈l,x.In w
 cell:len=0∨∃b off,ao=some ⟨b,off,none⟩∧∀(i:Nat) (x:BI),l[i]? = some x→x.At w b (off+i*5)

theorem BI.In.below {w w':World} {x:BI} (h:x.In w) (hb:Below w.heap.size w w'):x.In w':=⟨h.o.below hb,h.z.below hb,h.s⟩

theorem BI.At.below {w w':World} {b p:Nat} {x:BI} (h:x.At w b p) (hb:Below w.heap.size w w'):x.At w' b p:=by
 obtain ⟨h0,h1,h2,h3,h4⟩:=h;exact ⟨(hb.cell (zj h0)).trans h0,(hb.cell (zj h1)).trans h1,(hb.cell (zj h2)).trans h2,(hb.cell (zj h3)).trans h3,(hb.cell (zj h4)).trans h4⟩

theorem BRow.below {w w':World} {ao:Option Addr} {len cap:Nat} {l:List BI} (h:BRow w ao len cap l) (hb:Below w.heap.size w w'):BRow w' ao len cap l where
 size:=h.size
 le:=h.le
 top:=h.top
 nil:=h.nil
 item:=fun x hx=>(h.item x hx).below hb
 cell:=by
  rcases h.cell with h0 | ⟨b,off,ha,hc⟩
  ·exact .inl h0
  ·exact .inr ⟨b,off,ha,fun i x hi=>(hc i x hi).below hb⟩

theorem BRow.at {w:World} {ao:Option Addr} {len cap:Nat} {l:List BI} (h:BRow w ao len cap l) (i:Nat) (hi:i < len):∃x b off,l[i]? = some x∧ao=some ⟨b,off,none⟩∧x.At w b (off+i*5)∧x.In w:=by
 have hl:=h.size;rcases h.cell with h0 | ⟨b,off,ha,hc⟩
 ·omega
 ·have hx:l[i]? = some l[i]:=List.getElem?_eq_getElem (by omega);exact ⟨_,b,off,hx,ha,hc i _ hx,h.item _ (List.getElem_mem _)⟩

section
variable {H:Type} {enc:TypeId × Value→H} {P:Program} {w:World}

end

end

def blkL (ao:Option Addr):List Nat:=match ao with | some a=>[a.block] | none=>[]

theorem zP {ao:Option Addr} {n c b:Nat}:(Value.slice ao n c).ownBlock=some b↔b∈blkL ao:=by
 cases ao <;> simp [Value.ownBlock,blkL,eq_comm]

structure Only (bs:List Nat) (w w':World):Prop where
 os:w'.os=w.os
 tape:w'.tape=w.tape
 output:w'.output=w.output
 size:w.heap.size≤w'.heap.size
 block:∀k,k < w.heap.size→k∉bs→w'.heap[k]? = w.heap[k]?

theorem Only.refl (bs:List Nat) (w:World):Only bs w w:=⟨rfl,rfl,rfl,Nat.le_refl _,fun _ _ _=>rfl⟩
theorem Only.trans {bs:List Nat} {a b c:World} (h:Only bs a b) (k:Only bs b c):Only bs a c :=
 ⟨k.os.trans h.os,k.tape.trans h.tape,k.output.trans h.output,Nat.le_trans h.size k.size,fun i hi hn=>(k.block i (Nat.lt_of_lt_of_le hi h.size) hn).trans (h.block i hi hn)⟩
theorem Only.wider {bs cs:List Nat} {a b:World} (h:Only bs a b) (hs:∀x∈bs,x∈cs):Only cs a b :=
 ⟨h.os,h.tape,h.output,h.size,fun k hk hn=>h.block k hk (fun hb=>hn (hs k hb))⟩
theorem Only.of_below {bs:List Nat} {a b:World} (h:Below a.heap.size a b):Only bs a b:=⟨h.os,h.tape,h.output,h.size,fun k hk _=>h.block k hk⟩
theorem Only.of_grown {ao:Option Addr} {n c:Nat} {a b:World} (h:a.grownBy b (Value.slice ao n c).ownBlock):Only (blkL ao) a b :=
 ⟨h.os,h.tape,h.output,h.size,fun k hk hn=>h.block k hk (fun e=>hn (zP.1 e.symm))⟩
theorem Only.set (w:World) (g j:Nat) (u:Value):Only [g] w (w.setCell ⟨g,j,none⟩ u) :=
 ⟨rfl,rfl,rfl,by simp,fun k _ hn=>Below.heap_setCell _ _ _ _ (by intro e; exact hn (by simp [e]))⟩
theorem Only.below {bs:List Nat} {w w':World} (h:Only bs w w') {B:Nat} (hB:B≤w.heap.size) (hs:∀b∈bs,B≤b):Below B w w' :=
 ⟨h.os,h.tape,h.output,h.size,fun k hk=>h.block k (by omega) (fun hb=>by have:=hs k hb; omega)⟩
theorem Only.kept {bs:List Nat} {w w':World} (h:Only bs w w') {i:Nat} {o:Obj} (hi:w.heap[i]? = some o) (hn:i∉bs):w'.heap[i]? = some o:=by
 rw [h.block i (Array.getElem?_eq_some_iff.1 hi).1 hn]; exact hi
theorem Only.own {bs:List Nat} {w w':World} {base:Nat} {e:TypeId} {size:Nat} {v:Value} {n:Nat} {xs:List Value} (h:Only bs w w') (ho:w.ownsRow base e size v n xs) (hn:∀k,v.ownBlock=some k→k∉bs):w'.ownsRow base e size v n xs:=by
 obtain ⟨hl,h0 | ⟨g,cap,cur,rfl,hg,hh,r⟩⟩:=ho
 ·exact ⟨hl,.inl h0⟩
 ·exact ⟨hl,.inr ⟨g,cap,cur,rfl,hg,h.kept hh (hn g rfl),r⟩⟩

theorem zE {w w':World} {base:Nat} {e:TypeId} {size:Nat} {v:Value} {n:Nat} {xs:List Value} (h:w.ownsRow base e size v n xs) (hb:Below w.heap.size w w'):w'.ownsRow base e size v n xs :=
 (Only.of_below (bs:=[]) hb).own h (by intro k _ hk; cases hk)
theorem zgy {w:World} {base:Nat} {e:TypeId} {size:Nat} {v:Value} {n:Nat} {xs:List Value} (h:w.ownsRow base e size v n xs) {base':Nat} (hle:base'≤base):w.ownsRow base' e size v n xs:=by
 obtain ⟨hl,h | ⟨g,cap,cur,rfl,hg,r⟩⟩:=h
 ·exact ⟨hl,.inl h⟩
 ·exact ⟨hl,.inr ⟨g,cap,cur,rfl,by omega,r⟩⟩

theorem zaX {w:World} {base base':Nat} {e e':TypeId} {s s':Nat} {v v':Value} {n n':Nat} {xs xs':List Value} (h:w.ownsRow base e s v n xs) (h':w.ownsRow base' e' s' v' n' xs') (hne:e≠e') {k:Nat} (hk:v.ownBlock=some k):v'.ownBlock≠some k:=by
 intro hk';rcases h.2 with ⟨rfl,_⟩ | ⟨g,cap,cur,rfl,_,hh,_⟩
 ·cases hk
 ·rcases h'.2 with ⟨rfl,_⟩ | ⟨g',cap',cur',rfl,_,hh',_⟩
  ·cases hk'
  ·simp only [Value.ownBlock,Option.some.injEq] at hk hk';subst hk hk';rw [hh] at hh';cases hh';exact hne rfl

def BI.cs (x:BI):List Value:=[.slice x.oa x.on x.oc,.int .i64 x.K,.int .i64 x.N,.string x.S,.slice x.za x.zn x.zc]
def cBs (l:List BI):List Value:=l.flatMap BI.cs

theorem zcm (x:BI):x.cs.length=5:=rfl
theorem zcf (x:BI) (l:List BI):cBs (x::l)=x.cs++cBs l:=by simp [cBs]
theorem zbm (a b:List BI):cBs (a++b)=cBs a++cBs b:=by simp [cBs]
theorem zaI (l:List BI):(cBs l).length=l.length*5:=by
 induction l with
 | nil=>rfl
 | cons x l ih=>rw [zcf,List.length_append,ih,zcm,List.length_cons]; omega

theorem zgI (pre:List BI) (x:BI) (post:List BI) (j:Nat) (hj:j < 5):(cBs (pre++x::post))[pre.length*5+j]? = x.cs[j]? := by
 rw [zbm,zcf,List.getElem?_append_right (by rw [zaI]; omega),zaI,Nat.add_sub_cancel_left,List.getElem?_append_left (by rw [zcm]; exact hj)]

theorem zgu (pre:List BI) (x x':BI) (post:List BI) (j:Nat) (u:Value) (hj:j < 5) (h:x.cs.set j u=x'.cs):(cBs (pre++x::post)).set (pre.length*5+j) u=cBs (pre++x'::post):=by
 rw [zbm,zcf,List.set_append_right _ _ (by rw [zaI]; omega),zaI,Nat.add_sub_cancel_left,List.set_append_left _ _ (by rw [zcm]; exact hj),h,zbm,zcf]

def BI.blks (x:BI):List Nat:=blkL x.oa++blkL x.za

structure BOwn (w:World) (base:Nat) (x:BI):Prop where
 o:w.ownsRow base 3 1 (.slice x.oa x.on x.oc) x.on (cI x.o)
 z:w.ownsRow base 3 1 (.slice x.za x.zn x.zc) x.zn (cI x.z)
 ob:I64s x.o
 zb:I64s x.z
 s:x.S.size≤maxLen

theorem BOwn.in {w:World} {base:Nat} {x:BI} (h:BOwn w base x):x.In w:=⟨zO h.o h.ob,zO h.z h.zb,h.s⟩
theorem BOwn.below {w w':World} {base:Nat} {x:BI} (h:BOwn w base x) (hb:Below w.heap.size w w'):BOwn w' base x:=⟨zY h.o hb,zY h.z hb,h.ob,h.zb,h.s⟩
theorem BOwn.lt {w:World} {base base':Nat} {x:BI} (h:BOwn w base x) (hb:base'≤base):BOwn w base' x:=⟨zbN h.o hb,zbN h.z hb,h.ob,h.zb,h.s⟩
theorem BOwn.only {bs:List Nat} {w w':World} {base:Nat} {x:BI} (h:BOwn w base x) (ho:Only bs w w') (hn:∀b∈x.blks,b∉bs):BOwn w' base x :=
 ⟨ho.own h.o (fun k hk=>hn k (List.mem_append_left _ (zP.1 hk))),ho.own h.z (fun k hk=>hn k (List.mem_append_right _ (zP.1 hk))),h.ob,h.zb,h.s⟩
theorem BOwn.blk {w:World} {base:Nat} {x:BI} (h:BOwn w base x):∀b∈x.blks,base≤b∧b < w.heap.size:=by
 intro b hb;rcases List.mem_append.1 hb with hb | hb
 ·exact h.o.lt b (zP.2 hb)
 ·exact h.z.lt b (zP.2 hb)

structure BOwns (w:World) (base:Nat) (ao:Option Addr) (n cap:Nat) (l:List BI):Prop where
 row:w.ownsRow base 51 5 (.slice ao n cap) n (cBs l)
 item:∀x∈l,BOwn w base x
 apart:(l.flatMap BI.blks).Nodup

def allBi (ao:Option Addr) (l:List BI):List Nat:=blkL ao++l.flatMap BI.blks

theorem BOwns.size {w:World} {base:Nat} {ao:Option Addr} {n cap:Nat} {l:List BI} (h:BOwns w base ao n cap l):l.length=n:=by
 have:=h.row.1; rw [zaI] at this; omega

theorem BOwns.below {w w':World} {base:Nat} {ao:Option Addr} {n cap:Nat} {l:List BI} (h:BOwns w base ao n cap l) (hb:Below w.heap.size w w'):BOwns w' base ao n cap l :=
 ⟨zE h.row hb,fun x hx=>(h.item x hx).below hb,h.apart⟩
theorem BOwns.lt {w:World} {base base':Nat} {ao:Option Addr} {n cap:Nat} {l:List BI} (h:BOwns w base ao n cap l) (hb:base'≤base):BOwns w base' ao n cap l :=
 ⟨zgy h.row hb,fun x hx=>(h.item x hx).lt hb,h.apart⟩
theorem BOwns.only {bs:List Nat} {w w':World} {base:Nat} {ao:Option Addr} {n cap:Nat} {l:List BI} (h:BOwns w base ao n cap l) (ho:Only bs w w') (hn:∀b∈allBi ao l,b∉bs):BOwns w' base ao n cap l :=
 ⟨ho.own h.row (fun k hk=>hn k (List.mem_append_left _ (zP.1 hk))),fun x hx=>(h.item x hx).only ho (fun b hb=>hn b (List.mem_append_right _ (List.mem_flatMap.2 ⟨x,hx,hb⟩))),h.apart⟩
theorem BOwns.blk {w:World} {base:Nat} {ao:Option Addr} {n cap:Nat} {l:List BI} (h:BOwns w base ao n cap l):∀b∈allBi ao l,base≤b∧b < w.heap.size:=by
 intro b hb;rcases List.mem_append.1 hb with hb | hb
 ·exact h.row.lt b (zP.2 hb)
 ·obtain ⟨x,hx,hb⟩:=List.mem_flatMap.1 hb;exact (h.item x hx).blk b hb

theorem BOwns.brow {w:World} {base:Nat} {ao:Option Addr} {n cap:Nat} {l:List BI} (h:BOwns w base ao n cap l):BRow w ao n cap l:=by
 have hl:=h.size;have hin:=fun x hx=>(h.item x hx).in
 rcases h.row.2 with ⟨e,h0⟩ | ⟨g,cap',cur,e,_,_,h1,h2,_⟩
 ·cases e;exact ⟨hl,Nat.le_refl _,Nat.zero_le _,fun _=>rfl,hin,.inl rfl⟩
 ·cases e;refine ⟨hl,h1,h2,(by intro h; cases h),hin,.inr ⟨g,0,rfl,fun i x hi => ?_⟩⟩;obtain ⟨hil,hx⟩:=List.getElem?_eq_some_iff.1 hi;have el:l=l.take i++x::l.drop (i+1):=by rw [← hx,← List.drop_eq_getElem_cons hil,List.take_append_drop]
  have at_:∀j,j < 5→w.cell? ⟨g,i*5+j,none⟩=x.cs[j]? := by
   intro j hj;rw [h.row.cellAt _ (by omega)]
   have:=zgI (l.take i) x (l.drop (i+1)) j hj
   rw [← el,List.length_take,Nat.min_eq_left (by omega)] at this;exact this
  have a0:=at_ 0 (by omega); have a1:=at_ 1 (by omega); have a2:=at_ 2 (by omega); have a3:=at_ 3 (by omega); have a4:=at_ 4 (by omega)
  unfold BI.At;rw [Nat.zero_add];exact ⟨a0,a1,a2,a3,a4⟩

theorem BOwns.type_apart {w:World} {base:Nat} {ao:Option Addr} {n cap:Nat} {l:List BI} (h:BOwns w base ao n cap l) {x:BI} (hx:x∈l):∀b∈x.blks,b∉blkL ao:=by
 intro b hb hc;have hne:(3:Nat)≠51:=by decide
 rcases List.mem_append.1 hb with hb | hb
 ·exact zaX (h.item x hx).o h.row hne (zP.2 hb) (zP.2 hc)
 ·exact zaX (h.item x hx).z h.row hne (zP.2 hb) (zP.2 hc)

theorem ze4 {pre post:List BI} {x:BI} (h:((pre++x::post).flatMap BI.blks).Nodup):x.blks.Nodup∧∀y,y∈pre∨y∈post→∀b∈y.blks,b∉x.blks:=by
 rw [List.flatMap_append,List.flatMap_cons] at h;obtain ⟨h1,h2,h3⟩:=List.nodup_append.1 h;obtain ⟨h4,h5,h6⟩:=List.nodup_append.1 h2;refine ⟨h4,fun y hy b hb hx => ?_⟩;rcases hy with hy | hy
 ·exact h3 b (List.mem_flatMap.2 ⟨y,hy,hb⟩) b (List.mem_append_left _ hx) rfl
 ·exact h6 b hx b (List.mem_flatMap.2 ⟨y,hy,hb⟩) rfl

theorem BOwns.turn {bs:List Nat} {w w':World} {base:Nat} {ao:Option Addr} {n cap:Nat} {pre post:List BI} {x x':BI} (h:BOwns w base ao n cap (pre++x::post)) (hb:x'.blks=x.blks) (ho:Only bs w w') (hs:∀b∈bs,b∈x.blks∨b∈blkL ao)
  (hr:w'.ownsRow base 51 5 (.slice ao n cap) n (cBs (pre++x'::post))) (hx:BOwn w' base x'):BOwns w' base ao n cap (pre++x'::post) where
 row:=hr
 item:=by
  intro y hy;have hm:=(ze4 h.apart).2;have keep:(y∈pre∨y∈post)→y∈pre++x::post→BOwn w' base y:=fun hy hy'=>(h.item y hy').only ho (fun b hb hbs=>by
   rcases hs b hbs with h1 | h1
   ·exact hm y hy b hb h1
   ·exact h.type_apart hy' b hb h1)
  rcases List.mem_append.1 hy with hy | hy
  ·exact keep (.inl hy) (List.mem_append_left _ hy)
  ·rcases List.mem_cons.1 hy with rfl | hy
   ·exact hx
   ·exact keep (.inr hy) (List.mem_append_right _ (List.mem_cons_of_mem _ hy))
 apart:=by
  have:=h.apart
  rw [List.flatMap_append,List.flatMap_cons] at this ⊢;rw [hb]; exact this

theorem BOwns.at {w:World} {base:Nat} {ao:Option Addr} {n cap:Nat} {pre post:List BI} {x:BI} (h:BOwns w base ao n cap (pre++x::post)):∃g,ao=some ⟨g,0,none⟩∧x.At w g (pre.length*5)∧x.In w∧∀j,w.frozen? ⟨g,j,none⟩=false:=by
 have hl:=h.size;have B:=h.brow;rcases h.row.2 with ⟨e,h0⟩ | ⟨g,cap',cur,e,_,_,h1,h2,_⟩
 ·simp at hl; omega
 ·cases e;rcases B.cell with h0 | ⟨b,off,ha,hc⟩
  ·simp at hl; omega
  ·cases ha
   have:=hc pre.length x (by simp)
   rw [Nat.zero_add] at this;exact ⟨g,rfl,this,B.item x (by simp),fun j=>h.row.frozenAt j⟩

theorem BOwns.store {w:World} {base:Nat} {g n cap:Nat} {pre post:List BI} {x x':BI} {j:Nat} {u:Value} (h:BOwns w base (some ⟨g,0,none⟩) n cap (pre++x::post)) (hj:j < 5) (hc:x.cs.set j u=x'.cs) (hb:x'.blks=x.blks) (hx:BOwn w base x→BOwn w base x') :
  BOwns (w.setCell ⟨g,pre.length*5+j,none⟩ u) base (some ⟨g,0,none⟩) n cap (pre++x'::post):=by
 have hm:x∈pre++x::post:=by simp
 have R:=(h.row.stored (pre.length*5+j) u).1;rw [zgu pre x x' post j u hj hc] at R;have O:=Only.set w g (pre.length*5+j) u;refine h.turn hb O (fun b hb=>.inr (by simpa [blkL] using hb)) R ?_;exact (hx (h.item x hm)).only O (fun b hb' hb2=>h.type_apart hm b (hb▸hb') (by simpa [blkL] using hb2))

theorem BOwns.push {w w':World} {base:Nat} {ao ao':Option Addr} {n cap cap':Nat} {l:List BI} {x:BI} (h:BOwns w base ao n cap l) (hx:BOwn w base x) (hnd:x.blks.Nodup) (hap:∀y∈l,∀b∈y.blks,b∉x.blks) (hg:w.grownBy w' (Value.slice ao n cap).ownBlock)
  (hr:w'.ownsRow base 51 5 (.slice ao' (n+1) cap') (n+1) (cBs l++x.cs)):BOwns w' base ao' (n+1) cap' (l++[x]) where
 row:=by rw [zbm]; simpa [cBs] using hr
 item:=by
  have O:=Only.of_grown hg;intro y hy;rcases List.mem_append.1 hy with hy | hy
  ·exact (h.item y hy).only O (h.type_apart hy)
  ·rw [List.mem_singleton] at hy;subst hy;have hne:(3:Nat)≠51:=by decide
   refine hx.only O fun b hb hc => ?_
   rcases List.mem_append.1 hb with hb | hb
   ·exact zaX hx.o h.row hne (zP.2 hb) (zP.2 hc)
   ·exact zaX hx.z h.row hne (zP.2 hb) (zP.2 hc)
 apart:=by
  rw [List.flatMap_append,List.nodup_append];refine ⟨h.apart,by simpa using hnd, ?_⟩;intro b hb c hc e;subst e;obtain ⟨y,hy,hb⟩:=List.mem_flatMap.1 hb;exact hap y hy b hb (by simpa using hc)

theorem Tryz.infoBind':(Tryz.prog.info? 51).map (fun i=>(i.zero,i.size,i.bytes))=some (some (.agg #[.slice none 0 0,.int .i64 0,.int .i64 0,.string ⟨#[]⟩,.slice none 0 0]),5,80):=by kernel_rfl

theorem ze5 (w:World) (y:BI):∀(j:Nat) (u:Value),y.cs[j]? = some u→(w.alloc (.cells #[.slice y.oa y.on y.oc,.int .i64 y.K,.int .i64 y.N,.string y.S,.slice y.za y.zn y.zc] 51)).cell? ((⟨w.heap.size,0,none⟩:Addr).add j)=some u:=by
 intro j u hu;obtain ⟨⟨c0,c1,c2,c3,c4⟩,-⟩:=zm (zz w (.cells #[.slice y.oa y.on y.oc,.int .i64 y.K,.int .i64 y.N,.string y.S,.slice y.za y.zn y.zc] 51));rw [zcb,Nat.zero_add]
 match j,hu with
 | 0,hu=>rw [c0]; exact hu
 | 1,hu=>rw [c1]; exact hu
 | 2,hu=>rw [c2]; exact hu
 | 3,hu=>rw [c3]; exact hu
 | 4,hu=>rw [c4]; exact hu
 | k+5,hu=>simp [BI.cs] at hu

theorem zeQ (y:BI):∀u∈y.cs,u.oneCell'=true:=by
 intro u hu;simp only [BI.cs,List.mem_cons,List.not_mem_nil,or_false] at hu;rcases hu with rfl | rfl | rfl | rfl | rfl <;> rfl

theorem zfq {w:World} {base:Nat} {e:TypeId} {s:Nat} {v:Value} {n:Nat} {xs:List Value} (h:w.ownsRow base e s v n xs):∃ao cap,v=.slice ao n cap:=by
 rcases h.2 with ⟨rfl,rfl⟩ | ⟨g,cap,cur,rfl,_⟩
 ·exact ⟨_,_,rfl⟩
 ·exact ⟨_,_,rfl⟩

theorem zgs {w w':World} {base:Nat} {ao:Option Addr} {n cap:Nat} {l:List BI} (h:BOwns w base ao n cap l) (hg:w.grownBy w' (Value.slice ao n cap).ownBlock) (hb:base≤w.heap.size):Below base w w' :=
 (Only.of_grown hg).below hb (fun b hb=>(h.row.lt b (zP.2 hb)).1)

theorem zet (R C H B P R' C' H' B' P':Int) (w:World):(binOp .eql 118 (.agg #[.int .i64 R,.int .i64 C,.int .i64 H,.int .i64 B,.int .i64 P]) (.agg #[.int .i64 R',.int .i64 C',.int .i64 H',.int .i64 B',.int .i64 P'])).run Tryz.prog w=.ok (.bool ((R == R') && ((C == C') && ((H == H') && ((B == B') && (P == P')))))) w:=by
 have u3:=Tryz.underlying3;have a3:=Tryz.isAgg3;have z3:=Tryz.sizeOf3;have hS:Tryz.prog.underlying 118=some (.struct (Tryz.prog.fieldsOf 118)):=by kernel_rfl
 have hp:Tryz.prog.stoodInHeld 118=false:=by kernel_rfl
 rw [run_eql_struct,show (10000:Nat)=9999+1 from rfl,run_equalIn_agg w 9999 118 _ _ hS hp];simp only [Program.fieldsOf,Tryz.underlying118];go_simp;by_cases h1:R=R' <;> by_cases h2:C=C' <;> by_cases h3:H=H' <;> by_cases h4:B=B' <;> by_cases h5:P=P' <;> simp [h1,h2,h3,h4,h5]

theorem zdk {w:World} {g:Nat} {T:TypeId} {c0 c1 c2 c3 c4 c5 c6 c7:Value} (h:w.heap[g]? = some (.cells #[c0,c1,c2,c3,c4,c5,c6,c7] T)) :
  w.cell? ⟨g,0,none⟩=some c0∧w.cell? ⟨g,1,none⟩=some c1∧w.cell? ⟨g,2,none⟩=some c2∧w.cell? ⟨g,3,none⟩=some c3∧w.cell? ⟨g,4,none⟩=some c4∧w.cell? ⟨g,5,none⟩=some c5∧w.cell? ⟨g,6,none⟩=some c6∧w.cell? ⟨g,7,none⟩=some c7:=by
 simp [World.cell?,h]

theorem zb3 (x:PT) (w:World) :
  Calls Tryz.prog 90 #[.agg #[.bool x.up,.int .i64 x.k,.bool x.has,.int .i64 x.v.r,.int .i64 x.v.c,.int .i64 x.v.h,.int .i64 x.v.b,.int .i64 x.v.p]] w fun e w'=>e=.returned (.bool (ptOk x))∧Below w.heap.size w w':=by
 have he:∀W,(binOp .eql 118 (.agg #[.int .i64 x.v.r,.int .i64 x.v.c,.int .i64 x.v.h,.int .i64 x.v.b,.int .i64 x.v.p]) (.agg #[.int .i64 0,.int .i64 0,.int .i64 0,.int .i64 0,.int .i64 0])).run Tryz.prog W=.ok (.bool (zcE x.v)) W:=fun W=>by rw [zet]; rfl
 have hgd:Tryz.prog.eqGuardType Tryz.prog.depth 118=false:=by kernel_rfl
 obtain ⟨up,k,has,⟨r,c,h,b,p⟩⟩:=x
 simp only at he ⊢
 generalize hw1:w.alloc (.cells #[.bool up,.int .i64 k,.bool has,.int .i64 r,.int .i64 c,.int .i64 h,.int .i64 b,.int .i64 p] 120)=w1;have q0:=zb hw1;obtain ⟨c0,c1,c2,c3,c4,c5,c6,c7⟩:=zdk (by rw [← hw1]; exact zz w _:w1.heap[w.heap.size]? = _);cases t1:(decide (1≤k) && decide (k≤1000))
 ·have T1:=hide t1;rw [show ptOk ⟨up,k,has,⟨r,c,h,b,p⟩⟩=false by unfold ptOk; rw [t1]; rfl];clear t1;go_enter Tryz.func90,Tryz.ntmps90;(go_wp2_with fail);refine (zf k 1 1000 _).mono ?_;rintro e w2 ⟨rfl,rfl⟩;rw [T1.out];go_wp2;go_ret;exact ⟨rfl,q0⟩
 cases has
 ·rw [show ptOk ⟨up,k,false,⟨r,c,h,b,p⟩⟩=zcE ⟨r,c,h,b,p⟩ by unfold ptOk; rw [t1]; cases up <;> rfl];have T1:=hide t1;generalize zcE ⟨r,c,h,b,p⟩=Q at *;clear t1;cases up <;>
  ·go_enter Tryz.func90,Tryz.ntmps90;(go_wp2_with fail);refine (zf k 1 1000 _).mono ?_;rintro e w2 ⟨rfl,rfl⟩;rw [T1.out];go_wp2;go_ret;exact ⟨rfl,q0⟩
 cases up
 ·rw [show ptOk ⟨false,k,true,⟨r,c,h,b,p⟩⟩=false by unfold ptOk; rw [t1]; rfl];have T1:=hide t1;clear t1;go_enter Tryz.func90,Tryz.ntmps90;(go_wp2_with fail);refine (zf k 1 1000 _).mono ?_;rintro e w2 ⟨rfl,rfl⟩;rw [T1.out];go_wp2;go_ret;exact ⟨rfl,q0⟩
 ·rw [show ptOk ⟨true,k,true,⟨r,c,h,b,p⟩⟩=okVc r c h b p by unfold ptOk; rw [t1]; rfl];have T1:=hide t1;clear t1;go_enter Tryz.func90,Tryz.ntmps90;(go_wp2_with fail);refine (zf k 1 1000 _).mono ?_;rintro e w2 ⟨rfl,rfl⟩;rw [T1.out];(go_wp2_with fail);refine (zac r c h b p _).mono ?_;rintro e w3 ⟨rfl,hb3⟩;have HB:=hide (ze q0 hb3);clear hb3;go_wp2;go_ret;exact ⟨rfl,HB.out⟩

theorem za9 (e:FE) (w:World) :
  Calls Tryz.prog 135 #[.agg #[.int .i64 e.t,.int .i64 e.m,.int .i64 e.p,.int .i64 e.a,.bool e.s]] w fun r w'=>r=.returned (.bool (entOk e))∧Below w.heap.size w w':=by
 generalize hP:entOk e=Q;unfold entOk at hP;cases t1:(decide (1≤e.t) && decide (e.t≤99))
 ·have h:Q=false:=by rw [← hP,t1]; rfl
  subst h;have T1:=hide t1;clear hP t1;go_enter Tryz.func135,Tryz.ntmps135;(go_wp2_with fail);refine (zf e.t 1 99 _).mono ?_;rintro r w1 ⟨rfl,rfl⟩;rw [T1.out];go_wp2;go_ret;exact ⟨rfl,zg _ _⟩
 cases t2:(decide (1≤e.m) && decide (e.m≤9999))
 ·have h:Q=false:=by rw [← hP,t1,t2]; rfl
  subst h;have T1:=hide t1;have T2:=hide t2;clear hP t1 t2;go_enter Tryz.func135,Tryz.ntmps135;(go_wp2_with fail);refine (zf e.t 1 99 _).mono ?_;rintro r w1 ⟨rfl,rfl⟩;rw [T1.out];(go_wp2_with fail);refine (zf e.m 1 9999 _).mono ?_;rintro r w2 ⟨rfl,rfl⟩;rw [T2.out];go_wp2;go_ret;exact ⟨rfl,zg _ _⟩
 cases t3:(decide (0≤e.p) && decide (e.p≤7))
 ·have h:Q=false:=by rw [← hP,t1,t2,t3]; rfl
  subst h;have T1:=hide t1;have T2:=hide t2;have T3:=hide t3;clear hP t1 t2 t3;go_enter Tryz.func135,Tryz.ntmps135;(go_wp2_with fail);refine (zf e.t 1 99 _).mono ?_;rintro r w1 ⟨rfl,rfl⟩;rw [T1.out];(go_wp2_with fail);refine (zf e.m 1 9999 _).mono ?_;rintro r w2 ⟨rfl,rfl⟩;rw [T2.out];(go_wp2_with fail);refine (zf e.p 0 7 _).mono ?_;rintro r w3 ⟨rfl,rfl⟩;rw [T3.out];go_wp2;go_ret;exact ⟨rfl,zg _ _⟩
 cases t4:(decide (0≤e.a) && decide (e.a≤4))
 ·have h:Q=false:=by rw [← hP,t1,t2,t3,t4]; rfl
  subst h;have T1:=hide t1;have T2:=hide t2;have T3:=hide t3;have T4:=hide t4;clear hP t1 t2 t3 t4;go_enter Tryz.func135,Tryz.ntmps135;(go_wp2_with fail);refine (zf e.t 1 99 _).mono ?_;rintro r w1 ⟨rfl,rfl⟩;rw [T1.out];(go_wp2_with fail);refine (zf e.m 1 9999 _).mono ?_;rintro r w2 ⟨rfl,rfl⟩;rw [T2.out];(go_wp2_with fail);refine (zf e.p 0 7 _).mono ?_;rintro r w3 ⟨rfl,rfl⟩;rw [T3.out];(go_wp2_with fail);refine (zf e.a 0 4 _).mono ?_;rintro r w4 ⟨rfl,rfl⟩;rw [T4.out];go_wp2;go_ret;exact ⟨rfl,zg _ _⟩
 rw [t1,t2,t3,t4,Bool.true_and,Bool.true_and,Bool.true_and,Bool.true_and] at hP;have T1:=hide t1;have T2:=hide t2;have T3:=hide t3;have T4:=hide t4;clear t1 t2 t3 t4;cases hs:e.s
 ·rw [hs] at hP;have h:Q=true:=by rw [← hP]; rfl
  subst h;clear hP;go_enter Tryz.func135,Tryz.ntmps135;(go_wp2_with fail);refine (zf e.t 1 99 _).mono ?_;rintro r w1 ⟨rfl,rfl⟩;rw [T1.out];(go_wp2_with fail);refine (zf e.m 1 9999 _).mono ?_;rintro r w2 ⟨rfl,rfl⟩;rw [T2.out];(go_wp2_with fail);refine (zf e.p 0 7 _).mono ?_;rintro r w3 ⟨rfl,rfl⟩;rw [T3.out];(go_wp2_with fail);refine (zf e.a 0 4 _).mono ?_;rintro r w4 ⟨rfl,rfl⟩;rw [T4.out];go_wp2;go_ret;exact ⟨rfl,zg _ _⟩
 ·rw [hs,Bool.not_true,Bool.false_or] at hP;have HP:=hide hP;clear hP;go_enter Tryz.func135,Tryz.ntmps135;(go_wp2_with fail);refine (zf e.t 1 99 _).mono ?_;rintro r w1 ⟨rfl,rfl⟩;rw [T1.out];(go_wp2_with fail);refine (zf e.m 1 9999 _).mono ?_;rintro r w2 ⟨rfl,rfl⟩;rw [T2.out];(go_wp2_with fail);refine (zf e.p 0 7 _).mono ?_;rintro r w3 ⟨rfl,rfl⟩;rw [T3.out];(go_wp2_with fail);refine (zf e.a 0 4 _).mono ?_;rintro r w4 ⟨rfl,rfl⟩;rw [T4.out];go_wp2;go_ret;exact ⟨zp HP.out,zg _ _⟩

theorem zbP (e:FE) (t m:Int) (w:World) :
  Calls Tryz.prog 136 #[.agg #[.int .i64 e.t,.int .i64 e.m,.int .i64 e.p,.int .i64 e.a,.bool e.s],.int .i64 t,.int .i64 m] w fun r w'=>r=.returned (.bool (ahead e t m))∧Below w.heap.size w w':=by
 unfold ahead;cases t1:(e.t != t)
 ·rw [if_neg Bool.false_ne_true];go_enter Tryz.func136,Tryz.ntmps136;go_wp2;go_ret;exact ⟨rfl,zg _ _⟩
 ·rw [if_pos rfl];go_enter Tryz.func136,Tryz.ntmps136;go_wp2;go_ret;exact ⟨rfl,zg _ _⟩

def okTo (l:List FE) (k:Nat):Prop:=∀i x,i < k→l[i]? = some x→entOk x=true∧∀y,0 < i→l[i - 1]? = some y→ahead y x.t x.m=true

theorem zbY:∀(l:List FE),rises l=true↔okTo l l.length
 | []=>by simp [rises,okTo]
 | [e]=>by
  simp only [rises,okTo,List.length_singleton]
  constructor
  ·intro h i x hi hx;have h0:i=0:=by omega
   subst h0
   simp at hx
   subst hx;exact ⟨h,fun y hy=>by omega⟩
  ·intro h;exact (h 0 e (by omega) rfl).1
 | e::f::r=>by
  have ih:=zbY (f::r);unfold rises;simp only [Bool.and_eq_true,ih]
  constructor
  ·rintro ⟨h1,h2,h3⟩ i x hi hx
   match i,hx with
   | 0,hx =>
    simp at hx
    subst hx;exact ⟨h1,fun y hy=>by omega⟩
   | 1,hx =>
    simp at hx
    subst hx;refine ⟨(h3 0 f (by simp) rfl).1,fun y _ hy => ?_⟩
    simp at hy
    subst hy;exact h2
   | i+2,hx =>
    obtain ⟨a1,a2⟩:=h3 (i+1) x (by simp at hi ⊢; omega) (by simpa using hx);exact ⟨a1,fun y _ hy=>a2 y (by omega) (by simpa using hy)⟩
  ·intro h;refine ⟨(h 0 e (by simp) rfl).1,(h 1 f (by simp) rfl).2 e (by omega) rfl,fun i x hi hx => ?_⟩;obtain ⟨a1,a2⟩:=h (i+1) x (by simp at hi ⊢; omega) (by simpa using hx);refine ⟨a1,fun y hy hz=>a2 y (by omega) ?_⟩;obtain ⟨j,rfl⟩:∃j,i=j+1:=⟨i - 1,by omega⟩
   simpa using hz

theorem zbM {l:List FE} {k:Nat} {x:FE} (h:okTo l k) (hx:l[k]? = some x) (h1:entOk x=true) (h2:∀y,0 < k→l[k - 1]? = some y→ahead y x.t x.m=true):okTo l (k+1):=by
 intro i z hi hz;by_cases e:i=k
 ·subst e;rw [hx] at hz;cases hz;exact ⟨h1,h2⟩
 ·exact h i z (by omega) hz

theorem zbE {l:List FE} (h:¬okTo l l.length):fdbOk l=false:=by
 unfold fdbOk
 have:rises l=false:=by
  cases hr:rises l
  ·rfl
  ·exact absurd ((zbY l).1 hr) h
 rw [this]
 rfl

theorem zdo {l:List FE} (h:okTo l l.length):fdbOk l=decide ((l.length:Int)≤12):=by
 unfold fdbOk;rw [(zbY l).2 h]
 rfl

theorem zbR (a:Option Addr) (n c:Nat) (l:List VR) (o:Option Addr) (p q:Nat) (id:Int) (w:World) (h:GRow vrowF w a n c l) :
  Calls Tryz.prog 111 #[.agg #[.slice a n c,.slice o p q],.int .i64 id] w fun r w'=>r=.returned (.int .i64 (rowAt l id))∧Below w.heap.size w w':=by
 have hle:=h.le;have htop:=h.top;unfold maxLen at htop;have hsz:=h.size;have hW:Below w.heap.size w (w.alloc (Obj.cells #[Value.slice a n c,Value.slice o p q] 38)):=zg _ _;have h:=h.below hW;go_enter Tryz.func111,Tryz.ntmps111;go_wp2
 go_loop [5] (fun i=>∃k:Nat,k≤n∧i=.int .i64 k∧∀(j:Nat) (y:VR),j < k→l[j]? = some y→(y.i == id)=false) (fun i=>n - (intOf i).toNat)
 case atStart=>exact ⟨0,Nat.zero_le _,rfl,fun j y hj=>by omega⟩
 case round =>
  obtain ⟨k,hk,rfl,hno⟩:=hrel;by_cases hlt:k < n
  ·obtain ⟨x,b,off,hx,rfl,c0,-,-⟩:=zak h k hlt;cases t1:(x.i == id)
   ·have HO:=hide (zeI hno hx t1);clear hno;go_wp2
    go_round
    case rel=>exact ⟨k+1,by omega,by go_num,HO.out⟩
    case measure=>simp [intOf]; omega
   ·have HF:=hide (zcy hno hx t1);clear hno;go_wp2;go_ret;exact ⟨(by rw [HF.out]; rfl),hW⟩
  ·have hkn:k=n:=by omega
   have HF:=hide (zcS (l:=l) (id:=id) (fun i y hy=>hno i y (by have:=(List.getElem?_eq_some_iff.1 hy).1; omega) hy));clear hno;subst hkn;go_wp2;go_ret;exact ⟨(by rw [HF.out]; rfl),hW⟩

theorem zbo {K:World→Prop} {W:World} {o:Obj} (h:∀wx,wx.heap[W.heap.size]? = some o→Below W.heap.size W wx→K wx):K (W.alloc o):=h _ (zz W o) (zg W o)

theorem za0 {K:World→Prop} {W:World} {o:Obj} (h:∀wx,wx.heap[W.heap.size]? = some o→Below W.drew.heap.size W.drew wx→K wx):K (W.alloc o).drew:=h _ (zz W o) (zg W.drew o)

end Go.Proofs.YtcpdkcdfnpcemabGreat
