/-
  Packed: IBase IHelp VrowMem BrMem BrLie NetMem NetFlat.
-/
import Derived.Test.YtpaneiaflfegoaaGreatPTKW
import Derived.Test.YtpaneiaflfegoaaGreatPTK01
import Derived.Deep.RegionHeld3
namespace Go.Proofs.YtpaneiaflfegoaaGreat
set_option maxRecDepth 100000
set_option maxHeartbeats 16000000
open Go.RowKit

def cI (zs:List Int):List Value:=zs.map (Value.int .i64)

def I64s (zs:List Int):Prop:=∀z∈zs,-9223372036854775808≤z∧z≤9223372036854775807

theorem zc4 (zs:List Int):(cI zs).length=zs.length:=by simp [cI]
theorem zc3 (a b:List Int):cI (a++b)=cI a++cI b:=by simp [cI]
theorem zl2 (zs:List Int) (j:Nat) (h:j < zs.length):(cI zs)[j]?=some (.int .i64 (zs.getD j 0)):=by
 simp [cI,List.getElem?_map,List.getElem?_eq_getElem h]

structure IRow (w:World) (ao:Option Addr) (len cap:Nat) (zs:List Int):Prop where
 size:zs.length=len
 le:len≤cap
 top:cap≤maxLen
 nil:ao=none→cap=0
 byte:I64s zs
 cell:len=0∨∃b off,ao=some ⟨b,off,none⟩∧∀i,i < len→w.cell? ⟨b,off+i,none⟩=some (.int .i64 (zs.getD i 0))

theorem IRow.below {w w':World} {ao:Option Addr} {len cap:Nat} {zs:List Int} (h:IRow w ao len cap zs) (hb:Below w.heap.size w w'):IRow w' ao len cap zs where
 size:=h.size
 le:=h.le
 top:=h.top
 nil:=h.nil
 byte:=h.byte
 cell:=by
  rcases h.cell with h0 | ⟨b,off,ha,hc⟩
  ·exact .inl h0
  ·exact .inr ⟨b,off,ha,fun i hi=>by rw [hb.cell (zF (hc i hi))]; exact hc i hi⟩

theorem zhv {w:World} {base:Nat} {v:Value} {n:Nat} {zs:List Int} (h:w.ownsRow base 3 1 v n (cI zs)) (hz:I64s zs) :
  ∃ao cap,v=.slice ao n cap∧IRow w ao n cap zs:=by
 have hl:zs.length=n:=by have:=h.1; simpa [cI] using this
 rcases h.2 with ⟨rfl,rfl⟩ | ⟨g,cap,cur,rfl,hg,hh,h1,h2,h3,h4⟩
 ·exact ⟨none,0,rfl,hl,Nat.le_refl _,Nat.zero_le _,fun _=>rfl,hz,.inl rfl⟩
 ·refine ⟨_,cap,rfl,hl,h1,h2,(by intro h; cases h),hz,.inr ⟨g,0,rfl,fun i hi => ?_⟩⟩
  have:=h.cellAt i (by omega)
  rw [Nat.zero_add,this,zl2 zs i (by omega)]

theorem Tryz.infoI64:(Tryz.prog.info? 3).map (fun i=>(i.zero,i.size,i.bytes))=some (some (.int .i64 0),1,8):=by kernel_rfl

theorem zk5 (w:World):IRow w none 0 0 []:=⟨rfl,Nat.le_refl _,Nat.zero_le _,fun _=>rfl,(by intro z hz; cases hz),.inl rfl⟩

theorem zjR {w:World} {x:Addr} {len cap:Nat} {zs:List Int} (hl:len≤cap) (hm:cap≤maxLen) (hz:zs.length=cap) (hcell:∀i,i < zs.length→w.cell? (x.add i)=some (.int .i64 (zs.getD i 0))) (hwz:∀n∈zs,(Lit.int .i64 n).wf=true):IRow w (some x) len cap (zs.take len) where
 size:=by simp; omega
 le:=hl
 top:=hm
 nil:=by intro h; cases h
 byte:=by
  intro z h
  have:=hwz z (List.mem_of_mem_take h)
  simp [Lit.wf,IntKind.min,IntKind.max,IntKind.bits,IntKind.signed] at this
  omega
 cell:=by
  by_cases h0:len=0
  ·exact .inl h0
  ·have hc0:=hcell 0 (by omega);obtain ⟨b,off,spot⟩:=x;have hspot:spot=none:=by simpa [Addr.add] using World.cell?_spot hc0
   subst hspot;refine .inr ⟨b,off,rfl,fun i hi => ?_⟩
   have:=hcell i (by omega)
   have e:(⟨b,off,none⟩:Addr).add i=⟨b,off+i,none⟩:=by by_cases h:i=0 <;> simp [Addr.add,h]
   rw [e] at this;rw [this]
   simp [List.getD_eq_getElem?_getD,hi]

theorem zlC (a1:Option Addr) (l1 c1:Nat) (z1:List Int) (a2:Option Addr) (l2 c2:Nat) (z2:List Int) (w:World) (h1:IRow w a1 l1 c1 z1) (h2:IRow w a2 l2 c2 z2) :
  Calls Tryz.prog 166 #[.slice a1 l1 c1,.slice a2 l2 c2] w fun e w'=>e=.returned (.bool (decide (z1=z2)))∧∃n,w'=w.drewN n:=by
 have m1:=h1.top; have m2:=h2.top; have s1:=h1.size; have s2:=h2.size; have e1:=h1.le; have e2:=h2.le
 unfold maxLen at m1 m2;by_cases hl:l1=l2
 ·subst hl;by_cases h0:l1=0
  ·subst h0;have hz:z1=z2:=by rw [List.eq_nil_of_length_eq_zero s1,List.eq_nil_of_length_eq_zero s2]
   go_enter Tryz.func166,Tryz.ntmps166;go_wp2
   go_loop [5] (fun i=>i=.int .i64 0) (fun _=>0)
   case atStart=>rfl
   case round =>
    subst hrel;go_wp2;go_ret;exact ⟨by simp,0,rfl⟩
  ·rcases h1.cell with h | ⟨b1,o1,rfl,g1⟩
   ·exact absurd h h0
   rcases h2.cell with h | ⟨b2,o2,rfl,g2⟩
   ·exact absurd h h0
   clear h1 h2;have G1:Hid (∀i,i < l1→w.cell? ⟨b1,o1+i,none⟩=some (.int .i64 (z1.getD i 0))):=g1;have G2:Hid (∀i,i < l1→w.cell? ⟨b2,o2+i,none⟩=some (.int .i64 (z2.getD i 0))):=g2;clear g1 g2;go_enter Tryz.func166,Tryz.ntmps166;go_wp2
   go_loopw [5] (fun i wr=>∃k:Nat,k≤l1∧i=.int .i64 k∧z1.take k=z2.take k∧∃n,wr=w.drewN n) (fun i _=>l1 - (intOf i).toNat)
   case atStart=>exact ⟨0,Nat.zero_le _,rfl,rfl,0,rfl⟩
   case round =>
    obtain ⟨k,hk,rfl,ht,n,rfl⟩:=hrel;have HT:Hid (z1.take k=z2.take k):=ht;clear ht;by_cases hlt:k < l1
    ·have c1:=G1.out k hlt;have c2:=G2.out k hlt;generalize hx:z1.getD k 0=x at c1;generalize hy:z2.getD k 0=y at c2;have HX:Hid (z1.getD k 0=x):=hx;have HY:Hid (z2.getD k 0=y):=hy;clear hx hy;by_cases hq:x=y
     ·subst hq;go_wp2
      go_quiet (fail)
      go_wp2
      go_roundw
      case rel=>exact ⟨k+1,by omega,by go_num,by rw [zb5 _ _ (by omega),zb5 _ _ (by omega),HT.out,HX.out,HY.out],_,rfl⟩
      case measure=>simp [intOf]; omega
     ·have hne:(x != y)=true:=by simp [hq]
      go_wp2
      go_quiet (fail)
      go_wp2;go_ret;exact ⟨zK (decide_eq_false (ne_at k (by rw [HX.out,HY.out]; exact hq))).symm,_,World.drewN_drewN _ _ _⟩
    ·go_wp2;go_ret;have hk':k=l1:=by omega
     exact ⟨zK (decide_eq_true (zhk (by omega) (by rw [s1,← hk']; exact HT.out))).symm,_,rfl⟩
 ·have hne:((l1:Int) != (l2:Int))=true:=by simp; omega
  have hz:¬z1=z2:=by intro e; rw [e] at s1; omega
  go_enter Tryz.func166,Tryz.ntmps166;go_wp2;go_ret;exact ⟨zK (decide_eq_false hz).symm,0,rfl⟩

def halfI (zs:List Int) (n k:Nat):List Value:=cI (zs.take k)++List.replicate (n - k) (.int .i64 0)

theorem zgl (zs:List Int) (n k:Nat) (h:zs.length=n) (hk:k≤n):(halfI zs n k).length=n:=by
 simp [halfI,zc4]; omega

theorem zjL (zs:List Int) (n k:Nat) (h:zs.length=n) (hk:k < n):(halfI zs n k).set k (.int .i64 (zs.getD k 0))=halfI zs n (k+1):=by
 have hl:(cI (zs.take k)).length=k:=by simp [zc4]; omega
 unfold halfI;rw [List.set_append_right _ _ (by omega),hl,Nat.sub_self,zb5 _ _ (by omega),zc3];obtain ⟨m,hm⟩:∃m,n - k=m+1:=⟨n - k - 1,by omega⟩;have hm':n - (k+1)=m:=by omega
 rw [hm,hm',List.replicate_succ,List.set_cons_zero]
 simp [cI]

theorem zjK (zs:List Int) (n:Nat) (h:zs.length=n):halfI zs n n=cI zs:=by
 simp [halfI,← h]

theorem zi4 (zs:List Int) (n:Nat):halfI zs n 0=List.replicate n (.int .i64 0):=by
 simp [halfI,cI]

theorem zjt (a1:Option Addr) (l1 c1:Nat) (z1:List Int) (w:World) (h1:IRow w a1 l1 c1 z1) (hs:l1≤16777216) :
  Calls Tryz.prog 145 #[.slice a1 l1 c1] w fun e w'=>e=.returned (.slice (some ⟨w.heap.size,0,none⟩) l1 l1) ∧
   w'.ownsRow w.heap.size 3 1 (.slice (some ⟨w.heap.size,0,none⟩) l1 l1) l1 (cI z1)∧Below w.heap.size w w':=by
 obtain ⟨i0,hi,hz0,hz1,hz2⟩:=info_parts Tryz.infoI64;have s1:=h1.size;have hcell:=h1.cell;clear h1;go_enter Tryz.func145,Tryz.ntmps145;go_wp2_with (at_make; refine wpList_make_full _ rfl _ _ 60 rfl w.heap.size 3 i0 (.int .i64 0) 1 Tryz.underlying60 hi hz0 hz1 .i64 .i64 _ _ l1 rfl rfl rfl rfl ?c1 ?c2 ?c3 ?_)
 case c1=>rw [hz2]; omega
 case c2=>unfold maxLen; omega
 case c3=>exact Nat.le_refl _
 intro w1 hown hgrow;have hb1:Below w.heap.size w w1:=(Below.refl _ _).grown hgrow (Nat.le_refl _) (by intro k hk; cases hk);have hown1:w1.ownsRow w.heap.size 3 1 (.slice (some ⟨w.heap.size,0,none⟩) l1 l1) l1 (halfI z1 l1 0):=by
  rw [zi4,← toList_madeCells_one]; simpa [Value.cells] using hown
 clear hown hgrow hi hz0 hz1 hz2;go_wp2
 go_loopw [4] (fun i wr=>∃k:Nat,k≤l1∧i=.int .i64 k∧wr.ownsRow w.heap.size 3 1 (.slice (some ⟨w.heap.size,0,none⟩) l1 l1) l1 (halfI z1 l1 k)∧Below w.heap.size w wr) (fun i _=>l1 - (intOf i).toNat)
 case atStart=>exact ⟨0,Nat.zero_le _,rfl,hown1,hb1⟩
 case round =>
  obtain ⟨k,hk,rfl,hown,hb⟩:=hrel;by_cases hlt:k < l1
  ·rcases hcell with h0 | ⟨b,off,rfl,hc⟩
   ·omega
   have cx:wr.cell? ⟨b,off+k,none⟩=some (.int .i64 (z1.getD k 0)):=by rw [hb.cell (zF (hc k hlt))]; exact hc k hlt
   have cf:=hown.frozenAt k;have cc:∃u,wr.cell? ⟨w.heap.size,k,none⟩=some u:=by
    rw [hown.cellAt k (by omega)];exact ⟨_,List.getElem?_eq_getElem (by rw [zgl _ _ _ s1 (by omega)]; exact hlt)⟩
   obtain ⟨u,cu⟩:=cc;have R:=hown.stored k (.int .i64 (z1.getD k 0));rw [zjL _ _ _ s1 hlt] at R;have hb':=hb.setCell (p:=⟨w.heap.size,k,none⟩) (Nat.le_refl _) (.int .i64 (z1.getD k 0));have HR:=R.1;generalize hx:z1.getD k 0=x at cx HR hb';have HX:Hid (z1.getD k 0=x):=hx;clear hx hc hown R hb hb1 hown1;go_wp2
   go_roundw
   case rel=>exact ⟨k+1,by omega,by go_num,HR,hb'⟩
   case measure=>simp [intOf]; omega
  ·have hk':k=l1:=by omega
   subst hk';rw [zjK _ _ s1] at hown;go_wp2;go_ret;exact ⟨rfl,hown,hb⟩

def zaM (k:Int) (n:Nat):List Int:=(List.range n).map fun i:Nat=>(k+i)

theorem zdi (k:Int) (n:Nat):(zaM k n).length=n:=by simp [zaM]
theorem zi9 (k:Int) (n i:Nat) (h:i < n):(zaM k n).getD i 0=(k+i):=by
 simp [zaM,List.getD_eq_getElem?_getD,List.getElem?_map,List.getElem?_range h]
theorem zhJ (k:Int) (n:Nat):zaM k (n+1)=zaM k n++[(k+n)]:=by
 simp [zaM,List.range_succ]
theorem zhI (k:Int) (n:Nat) (h0:0≤k) (h1:k≤1099511627776) (hn:n≤16777216):I64s (zaM k n):=by
 intro z hz;simp only [zaM,List.mem_map,List.mem_range] at hz;obtain ⟨i,hi,rfl⟩:=hz;omega

def zck (k:Int) (zs:List Int) (j:Nat):List Int:=zaM k j++zs.drop j

theorem zhH (k:Int) (zs:List Int) (j:Nat) (h:j < zs.length):(cI (zck k zs j)).set j (.int .i64 ((k+j)))=cI (zck k zs (j+1)):=by
 have hl:(cI (zaM k j)).length=j:=by rw [zc4,zdi]
 unfold zck;rw [zc3,List.set_append_right _ _ (by omega),hl,Nat.sub_self,zhJ,zc3,zc3];rw [List.drop_eq_getElem_cons h];simp only [cI,List.map_cons,List.set_cons_zero,List.map_nil,List.append_assoc,List.cons_append,List.nil_append]

theorem zeP (k:Int) (zs:List Int) (j:Nat) (h:j≤zs.length):(zck k zs j).length=zs.length:=by
 simp [zck,zdi]; omega

theorem zjY (base g n cap:Nat) (zs:List Int) (k:Int) (w:World) (hown:w.ownsRow base 3 1 (.slice (some ⟨g,0,none⟩) n cap) n (cI zs)) (hn:n≤16777216) (hk0:0≤k) (hk1:k≤1099511627776) :
  Calls Tryz.prog 86 #[.slice (some ⟨g,0,none⟩) n cap,.int .i64 k] w fun e w'=>e=.returned (.int .i64 (k+n)) ∧
   w'.ownsRow base 3 1 (.slice (some ⟨g,0,none⟩) n cap) n (cI (zaM k n))∧w.grownBy w' (some g):=by
 have hl:zs.length=n:=by have:=hown.1; simpa [cI] using this
 go_enter Tryz.func86,Tryz.ntmps86;go_wp2
 go_loopw [1,5] (fun m i wr=>∃j:Nat,j≤n∧i=.int .i64 j∧m=.int .i64 (k+j)∧wr.ownsRow base 3 1 (.slice (some ⟨g,0,none⟩) n cap) n (cI (zck k zs j))∧w.grownBy wr (some g)) (fun _ i _=>n - (intOf i).toNat)
 case atStart=>exact ⟨0,Nat.zero_le _,rfl,by simp,by simpa [zck,zaM] using hown,World.grownBy.refl _ _⟩
 case round =>
  obtain ⟨j,hj,rfl,rfl,how,hg⟩:=hrel;by_cases hlt:j < n
  ·have cf:=how.frozenAt j;have cc:∃u,wr.cell? ⟨g,j,none⟩=some u:=by
    rw [how.cellAt j (by omega)];exact ⟨_,List.getElem?_eq_getElem (by rw [zc4,zeP _ _ _ (by omega)]; omega)⟩
   obtain ⟨u,cu⟩:=cc;have R:=(how.stored j (.int .i64 ((k+j)))).1;rw [zhH _ _ _ (by omega)] at R;have hg':=zda hg j (.int .i64 ((k+j)));clear how hg hown;go_wp2
   go_roundw
   case rel=>exact ⟨j+1,by omega,by go_num,by go_num,R,hg'⟩
   case measure=>simp [intOf]; omega
  ·have hj':j=n:=by omega
   subst hj';have hd:zck k zs j=zaM k j:=by simp [zck,← hl]
   rw [hd] at how;clear hd;go_wp2;go_ret;exact ⟨rfl,how,hg⟩

theorem zjZ (k:Int) (w:World) :
  Calls Tryz.prog 86 #[.slice none 0 0,.int .i64 k] w fun e w'=>e=.returned (.int .i64 k)∧w'=w:=by
 go_enter Tryz.func86,Tryz.ntmps86;go_wp2
 go_loop [1,5] (fun m i=>m=.int .i64 k∧i=.int .i64 0) (fun _ _=>0)
 case atStart=>exact ⟨rfl,rfl⟩
 case round =>
  obtain ⟨rfl,rfl⟩:=hrel;go_wp2;go_ret;exact ⟨rfl,rfl⟩

theorem zjP (ao:Option Addr) (n cap:Nat) (k:Int) (w:World) (h1:IRow w ao n cap (zaM k n)) (hn:n≤16777216) (hk0:0≤k) (hk1:k≤1099511627776) :
  Calls Tryz.prog 90 #[.slice ao n cap,.int .i64 k] w fun e w'=>e=.returned (.int .i64 (k+n))∧w'=w:=by
 have hcell:=h1.cell;clear h1;go_enter Tryz.func90,Tryz.ntmps90;go_wp2
 go_loop [1,5] (fun m i=>∃j:Nat,j≤n∧i=.int .i64 j∧m=.int .i64 (k+j)) (fun _ i=>n - (intOf i).toNat)
 case atStart=>exact ⟨0,Nat.zero_le _,rfl,by simp⟩
 case round =>
  obtain ⟨j,hj,rfl,rfl⟩:=hrel;by_cases hlt:j < n
  ·rcases hcell with h0 | ⟨b,off,rfl,hc⟩
   ·omega
   have cx:=hc j hlt;rw [zi9 _ _ _ hlt] at cx;clear hc;go_wp2
   go_round
   case rel=>exact ⟨j+1,by omega,by go_num,by go_num⟩
   case measure=>simp [intOf]; omega
  ·have hj':j=n:=by omega
   subst hj';go_wp2;go_ret;exact ⟨rfl,rfl⟩

theorem zkT (a1:Option Addr) (l1 c1:Nat) (a2:Option Addr) (l2 c2:Nat) (zs:List Int) (w:World) (h1:IRow w a1 l1 c1 zs) (h2:IRow w a2 l2 c2 zs) :
  Calls Tryz.prog 166 #[.slice a1 l1 c1,.slice a2 l2 c2] w fun e w'=>e=.returned (.bool true)∧∃n,w'=w.drewN n:=by
 refine (zlC a1 l1 c1 zs a2 l2 c2 zs w h1 h2).mono ?_;rintro e w' ⟨rfl,n,rfl⟩;exact ⟨by simp,n,rfl⟩

theorem ziq {w:World} {base:Nat} {ao:Option Addr} {n cap:Nat} {zs:List Int} (h:w.ownsRow base 3 1 (.slice ao n cap) n (cI zs)) (hz:I64s zs):IRow w ao n cap zs:=by
 obtain ⟨ao',cap',e,hr⟩:=zhv h hz;cases e;exact hr

theorem zhz (base:Nat) (ao:Option Addr) (n cap:Nat) (zs:List Int) (k:Int) (w:World) (hown:w.ownsRow base 3 1 (.slice ao n cap) n (cI zs)) (hn:n≤16777216) (hk0:0≤k) (hk1:k≤1099511627776) :
  Calls Tryz.prog 86 #[.slice ao n cap,.int .i64 k] w fun e w'=>e=.returned (.int .i64 (k+n)) ∧
   w'.ownsRow base 3 1 (.slice ao n cap) n (cI (zaM k n))∧w.grownBy w' (Value.slice ao n cap).ownBlock:=by
 rcases hown.2 with ⟨h,h0⟩ | ⟨g,cap',cur,h,hg,h3⟩
 ·cases h;refine (zjZ k w).mono ?_;rintro e w' ⟨rfl,rfl⟩;exact ⟨by simp,by simpa [zaM,cI] using World.ownsRow_nil _ _ _ _,World.grownBy.refl _ _⟩
 ·cases h;refine (zjY base g n cap zs k w hown hn hk0 hk1).mono ?_;rintro e w' ⟨rfl,ho,hgr⟩;exact ⟨rfl,ho,hgr⟩

theorem ziW (a1:Option Addr) (l1 c1:Nat) (z1:List Int) (w:World) (h1:IRow w a1 l1 c1 z1) (hs:l1≤16777216) :
  Calls Tryz.prog 145 #[.slice a1 l1 c1] w fun e w'=>∃ao cap,e=.returned (.slice ao l1 cap) ∧
   w'.ownsRow w.heap.size 3 1 (.slice ao l1 cap) l1 (cI z1)∧IRow w' ao l1 cap z1∧Below w.heap.size w w':=by
 refine (zjt a1 l1 c1 z1 w h1 hs).mono ?_;rintro e w' ⟨rfl,ho,hb⟩;exact ⟨_,_,rfl,ho,ziq ho h1.byte,hb⟩

def vrowF:Flat VR where
 k:=3
 cs:=fun e=>[.int .i64 e.i,.int .i64 e.m,.int .i64 e.b]
 len:=fun _=>rfl
 pos:=by decide
 one:=fun _ v hv=>by
  simp only [List.mem_cons,List.not_mem_nil,or_false] at hv;rcases hv with rfl | rfl | rfl <;> rfl

theorem zbC {w:World} {ao:Option Addr} {len cap:Nat} {l:List VR} (h:GRow vrowF w ao len cap l) (i:Nat) (hi:i < len):∃(x:VR) (b off:Nat),l[i]?=some x∧ao=some ⟨b,off,none⟩ ∧
  w.cell? ⟨b,off+i*3,none⟩=some (.int .i64 x.i)∧w.cell? ⟨b,off+i*3+1,none⟩=some (.int .i64 x.m)∧w.cell? ⟨b,off+i*3+2,none⟩=some (.int .i64 x.b):=by
 obtain ⟨x,b,off,hx,ha,hc⟩:=h.at i hi;exact ⟨x,b,off,hx,ha,hc 0 _ rfl,hc 1 _ rfl,hc 2 _ rfl⟩

structure VTab (w:World) (a:Option Addr) (n c:Nat) (o:Option Addr) (p q:Nat) (v:VT):Prop where
 rows:GRow vrowF w a n c v.rows
 own:IRow w o p q v.own

theorem VTab.below {w w':World} {a:Option Addr} {n c:Nat} {o:Option Addr} {p q:Nat} {v:VT} (h:VTab w a n c o p q v) (hb:Below w.heap.size w w'):VTab w' a n c o p q v :=
 ⟨h.rows.below hb,h.own.below hb⟩

structure BR where
 id:Int
 name:ByteArray
 ports:List PT
 f:List FE
 v:VT
 ticks:Int
 parse:Int
 word:Int
 drops:Int
 vers:Int

def in1m (x:Int):Bool:=decide (0≤x) && decide (x≤1000000)
def zal (a b c d e:Int):Bool:=in1m a && (in1m b && (in1m c && (in1m d && in1m e)))
def zG (b:BR):Bool :=
 b.ports.all ptOk && (in3 b.id 1 99 && (decide ((b.name.size:Int)≤10) && (in3 (b.ports.length:Int) 1 6 && (fdbOk b.f && (zar b.v (b.ports.length:Int) && zal b.ticks b.parse b.word b.drops b.vers)))))

structure BrRow (w:World) (a:Option Addr) (n c:Nat) (fa:Option Addr) (fn fc:Nat) (ra:Option Addr) (rn rc:Nat) (oa:Option Addr) (on oc:Nat) (b:BR):Prop where
 ports:GRow ptF w a n c b.ports
 f:GRow fentF w fa fn fc b.f
 v:VTab w ra rn rc oa on oc b.v

theorem BrRow.below {w w':World} {a:Option Addr} {n c:Nat} {fa:Option Addr} {fn fc:Nat} {ra:Option Addr} {rn rc:Nat} {oa:Option Addr} {on oc:Nat} {b:BR} (h:BrRow w a n c fa fn fc ra rn rc oa on oc b) (hb:Below w.heap.size w w'):BrRow w' a n c fa fn fc ra rn rc oa on oc b :=
 ⟨h.ports.below hb,h.f.below hb,h.v.below hb⟩

structure BV where
 a:Option Addr
 n:Nat
 c:Nat
 fa:Option Addr
 fn:Nat
 fc:Nat
 ra:Option Addr
 rn:Nat
 rc:Nat
 oa:Option Addr
 on:Nat
 oc:Nat
 B:BR

def BV.Reads (w:World) (x:BV):Prop:=BrRow w x.a x.n x.c x.fa x.fn x.fc x.ra x.rn x.rc x.oa x.on x.oc x.B

def brF:Flat BV where
 k:=11
 cs:=fun x=>[.int .i64 x.B.id,.string x.B.name,.slice x.a x.n x.c,.slice x.fa x.fn x.fc,.slice x.ra x.rn x.rc,.slice x.oa x.on x.oc,.int .i64 x.B.ticks,.int .i64 x.B.parse,.int .i64 x.B.word,.int .i64 x.B.drops,.int .i64 x.B.vers]
 len:=fun _=>rfl
 pos:=by decide
 one:=fun _ v hv=>by
  simp only [List.mem_cons,List.not_mem_nil,or_false] at hv;rcases hv with rfl | rfl | rfl | rfl | rfl | rfl | rfl | rfl | rfl | rfl | rfl <;> rfl

theorem br_at {w:World} {ao:Option Addr} {len cap:Nat} {l:List BV} (h:GRow brF w ao len cap l) (i:Nat) (hi:i < len):∃(x:BV) (b off:Nat),l[i]?=some x∧ao=some ⟨b,off,none⟩∧w.cell? ⟨b,off+i*11,none⟩=some (.int .i64 x.B.id)∧w.cell? ⟨b,off+i*11+1,none⟩=some (.string x.B.name)∧w.cell? ⟨b,off+i*11+2,none⟩=some (.slice x.a x.n x.c)∧w.cell? ⟨b,off+i*11+3,none⟩=some (.slice x.fa x.fn x.fc)∧w.cell? ⟨b,off+i*11+4,none⟩=some (.slice x.ra x.rn x.rc)∧w.cell? ⟨b,off+i*11+5,none⟩=some (.slice x.oa x.on x.oc)∧w.cell? ⟨b,off+i*11+6,none⟩=some (.int .i64 x.B.ticks)∧w.cell? ⟨b,off+i*11+7,none⟩=some (.int .i64 x.B.parse)∧w.cell? ⟨b,off+i*11+8,none⟩=some (.int .i64 x.B.word)∧w.cell? ⟨b,off+i*11+9,none⟩=some (.int .i64 x.B.drops)∧w.cell? ⟨b,off+i*11+10,none⟩=some (.int .i64 x.B.vers):=by
 obtain ⟨x,b,off,hx,ha,hc⟩:=h.at i hi;exact ⟨x,b,off,hx,ha,hc 0 _ rfl,hc 1 _ rfl,hc 2 _ rfl,hc 3 _ rfl,hc 4 _ rfl,hc 5 _ rfl,hc 6 _ rfl,hc 7 _ rfl,hc 8 _ rfl,hc 9 _ rfl,hc 10 _ rfl⟩

theorem zdG:(Tryz.prog.info? 64).map (fun i=>(i.zero,i.size,i.bytes))=some (some (.agg #[.int .i64 0,.string ⟨#[]⟩,.slice none 0 0,.slice none 0 0,.slice none 0 0,.slice none 0 0,.int .i64 0,.int .i64 0,.int .i64 0,.int .i64 0,.int .i64 0]),brF.k,160):=by kernel_rfl

theorem BV.Reads.below {w w':World} {x:BV} (h:x.Reads w) (hb:Below w.heap.size w w'):x.Reads w':=BrRow.below h hb

structure LK where
 a:Int
 p:Int
 b:Int
 q:Int
 deriving DecidableEq

structure SY where
 l:Int
 back:Bool
 v:VD

def linkF:Flat LK where
 k:=4
 cs:=fun x=>[.int .i64 x.a,.int .i64 x.p,.int .i64 x.b,.int .i64 x.q]
 len:=fun _=>rfl
 pos:=by decide
 one:=fun _ v hv=>by
  simp only [List.mem_cons,List.not_mem_nil,or_false] at hv;rcases hv with rfl | rfl | rfl | rfl <;> rfl

def sayF:Flat SY where
 k:=7
 cs:=fun x=>[.int .i64 x.l,.bool x.back,.int .i64 x.v.r,.int .i64 x.v.c,.int .i64 x.v.h,.int .i64 x.v.b,.int .i64 x.v.p]
 len:=fun _=>rfl
 pos:=by decide
 one:=fun _ v hv=>by
  simp only [List.mem_cons,List.not_mem_nil,or_false] at hv;rcases hv with rfl | rfl | rfl | rfl | rfl | rfl | rfl <;> rfl

theorem zaw {w:World} {ao:Option Addr} {len cap:Nat} {l:List LK} (h:GRow linkF w ao len cap l) (i:Nat) (hi:i < len):∃(x:LK) (b off:Nat),l[i]?=some x∧ao=some ⟨b,off,none⟩∧w.cell? ⟨b,off+i*4,none⟩=some (.int .i64 x.a)∧w.cell? ⟨b,off+i*4+1,none⟩=some (.int .i64 x.p)∧w.cell? ⟨b,off+i*4+2,none⟩=some (.int .i64 x.b)∧w.cell? ⟨b,off+i*4+3,none⟩=some (.int .i64 x.q):=by
 obtain ⟨x,b,off,hx,ha,hc⟩:=h.at i hi;exact ⟨x,b,off,hx,ha,hc 0 _ rfl,hc 1 _ rfl,hc 2 _ rfl,hc 3 _ rfl⟩

theorem zdM {w:World} {ao:Option Addr} {len cap:Nat} {l:List SY} (h:GRow sayF w ao len cap l) (i:Nat) (hi:i < len):∃(x:SY) (b off:Nat),l[i]?=some x∧ao=some ⟨b,off,none⟩∧w.cell? ⟨b,off+i*7,none⟩=some (.int .i64 x.l)∧w.cell? ⟨b,off+i*7+1,none⟩=some (.bool x.back)∧w.cell? ⟨b,off+i*7+2,none⟩=some (.int .i64 x.v.r)∧w.cell? ⟨b,off+i*7+3,none⟩=some (.int .i64 x.v.c)∧w.cell? ⟨b,off+i*7+4,none⟩=some (.int .i64 x.v.h)∧w.cell? ⟨b,off+i*7+5,none⟩=some (.int .i64 x.v.b)∧w.cell? ⟨b,off+i*7+6,none⟩=some (.int .i64 x.v.p):=by
 obtain ⟨x,b,off,hx,ha,hc⟩:=h.at i hi;exact ⟨x,b,off,hx,ha,hc 0 _ rfl,hc 1 _ rfl,hc 2 _ rfl,hc 3 _ rfl,hc 4 _ rfl,hc 5 _ rfl,hc 6 _ rfl⟩

theorem zbc:(Tryz.prog.info? 98).map (fun i=>(i.zero,i.size,i.bytes))=some (some (.agg #[.int .i64 0,.int .i64 0,.int .i64 0,.int .i64 0]),linkF.k,32):=by kernel_rfl

theorem zT:(Tryz.prog.info? 105).map (fun i=>(i.zero,i.size,i.bytes))=some (some (.agg #[.int .i64 0,.bool false,.int .i64 0,.int .i64 0,.int .i64 0,.int .i64 0,.int .i64 0]),sayF.k,56):=by kernel_rfl

structure NV where
 ba:Option Addr
 bn:Nat
 bc:Nat
 bs:List BV
 la:Option Addr
 ln:Nat
 lc:Nat
 ls:List LK
 sa:Option Addr
 sn:Nat
 sc:Nat
 ss:List SY

structure zae (w:World) (N:NV):Prop where
 b:GRow brF w N.ba N.bn N.bc N.bs
 item:∀x∈N.bs,x.Reads w
 l:GRow linkF w N.la N.ln N.lc N.ls
 s:GRow sayF w N.sa N.sn N.sc N.ss

theorem zae.below {w w':World} {N:NV} (h:zae w N) (hb:Below w.heap.size w w'):zae w' N :=
 ⟨h.b.below hb,fun x hx=>(h.item x hx).below hb,h.l.below hb,h.s.below hb⟩

def NV.brs (N:NV):List BR:=N.bs.map BV.B

theorem zh3 (x:LK) (w:World) :
  Calls Tryz.prog 60 #[.agg #[.int .i64 x.a,.int .i64 x.p,.int .i64 x.b,.int .i64 x.q]] w fun r w'=>r=.returned (.agg #[.int .i64 x.a,.int .i64 x.p,.int .i64 x.b,.int .i64 x.q])∧Below w.heap.size w w':=by
 go_enter Tryz.func60,Tryz.ntmps60;go_wp2;exact bodyPost_ret (v:=.agg #[.int .i64 x.a,.int .i64 x.p,.int .i64 x.b,.int .i64 x.q]) (by simp [results,Tryz.results60,go_sem, *]) rfl ⟨rfl,zac _ _ _ _⟩

theorem zhg (x:LK) (w:World) :
  Calls Tryz.prog 80 #[.agg #[.int .i64 x.a,.int .i64 x.p,.int .i64 x.b,.int .i64 x.q],.agg #[.int .i64 x.a,.int .i64 x.p,.int .i64 x.b,.int .i64 x.q]] w fun r w'=>r=.returned (.bool true)∧Below w.heap.size w w':=by
 go_enter Tryz.func80,Tryz.ntmps80;go_wp2;go_ret;exact ⟨rfl,zL _ _ _⟩

theorem zdA {w w':World} {b off n cap:Nat} {l:List LK} (h:GRow linkF w (some ⟨b,off,none⟩) n cap l) (hb:Below w.heap.size w w') {i:Nat} {x:LK} (hx:l[i]?=some x) :
  w'.cell? ⟨b,off+i*4,none⟩=some (.int .i64 x.a)∧w'.cell? ⟨b,off+i*4+1,none⟩=some (.int .i64 x.p)∧w'.cell? ⟨b,off+i*4+2,none⟩=some (.int .i64 x.b)∧w'.cell? ⟨b,off+i*4+3,none⟩=some (.int .i64 x.q):=by
 have hi:i < n:=by
  have:=(List.getElem?_eq_some_iff.1 hx).1
  have:=h.size
  omega
 obtain ⟨y,b',off',hy,e,c⟩:=zaw (h.below hb) i hi;cases e;rw [hx] at hy;cases hy;exact c

theorem zis {w:World} {base g n cap:Nat} {pre post:List LK} {x y:LK} (h:w.ownsRow base 98 4 (.slice (some ⟨g,0,none⟩) n cap) n (linkF.all (pre++x::post))) :
  ((((w.setCell ⟨g,pre.length*4,none⟩ (.int .i64 y.a)).setCell ⟨g,pre.length*4+1,none⟩ (.int .i64 y.p)).setCell ⟨g,pre.length*4+2,none⟩ (.int .i64 y.b)).setCell ⟨g,pre.length*4+3,none⟩ (.int .i64 y.q)).ownsRow base 98 4 (.slice (some ⟨g,0,none⟩) n cap) n (linkF.all (pre++y::post)):=by
 have R0:=zt (F:=linkF) (x':=⟨y.a,x.p,x.b,x.q⟩) h 0 (.int .i64 y.a) (by decide) rfl;have R1:=zt (F:=linkF) (x':=⟨y.a,y.p,x.b,x.q⟩) R0 1 (.int .i64 y.p) (by decide) rfl;have R2:=zt (F:=linkF) (x':=⟨y.a,y.p,y.b,x.q⟩) R1 2 (.int .i64 y.b) (by decide) rfl;exact zt (F:=linkF) (x':=y) R2 3 (.int .i64 y.q) (by decide) rfl

theorem zgu {w:World} {g j:Nat} {y:LK}:w.grownBy ((((w.setCell ⟨g,j,none⟩ (.int .i64 y.a)).setCell ⟨g,j+1,none⟩ (.int .i64 y.p)).setCell ⟨g,j+2,none⟩ (.int .i64 y.b)).setCell ⟨g,j+3,none⟩ (.int .i64 y.q)) (some g) :=
 zz (zz (zz (zg _ _) (zg _ _)) (zg _ _)) (zg _ _)

theorem ze9 {w:World} {base g n cap:Nat} {T:TypeId} {l:List LK} (h:w.ownsRow base T 4 (.slice (some ⟨g,0,none⟩) n cap) n (linkF.all l)) {i:Nat} {x:LK} (hx:l[i]?=some x) :
  (w.cell? ⟨g,i*4,none⟩=some (.int .i64 x.a)∧w.cell? ⟨g,i*4+1,none⟩=some (.int .i64 x.p)∧w.cell? ⟨g,i*4+2,none⟩=some (.int .i64 x.b)∧w.cell? ⟨g,i*4+3,none⟩=some (.int .i64 x.q)) ∧
  (w.frozen? ⟨g,i*4,none⟩=false∧w.frozen? ⟨g,i*4+1,none⟩=false∧w.frozen? ⟨g,i*4+2,none⟩=false∧w.frozen? ⟨g,i*4+3,none⟩=false):=by
 have c0:=zH (F:=linkF) h hx (j:=0) (v:=.int .i64 x.a) rfl;have c1:=zH (F:=linkF) h hx (j:=1) (v:=.int .i64 x.p) rfl;have c2:=zH (F:=linkF) h hx (j:=2) (v:=.int .i64 x.b) rfl;have c3:=zH (F:=linkF) h hx (j:=3) (v:=.int .i64 x.q) rfl;exact ⟨⟨c0.1,c1.1,c2.1,c3.1⟩,c0.2,c1.2,c2.2,c3.2⟩

def LK.zero:LK:=⟨0,0,0,0⟩

theorem zjV:(Tryz.prog.info? 98).map (fun i=>(i.zero,i.size,i.bytes))=some (some (.agg #[.int .i64 0,.int .i64 0,.int .i64 0,.int .i64 0]),4,32):=by kernel_rfl

theorem zg0 (ao:Option Addr) (n c:Nat) (l:List LK) (w:World) (hl:GRow linkF w ao n c l) (hs:n≤1048576) :
  Calls Tryz.prog 30 #[.slice ao n c] w fun r w'=>∃ao' cap,r=.returned (.slice ao' n cap)∧w'.ownsRow w.heap.size 98 4 (.slice ao' n cap) n (linkF.all l)∧Below w.heap.size w w':=by
 obtain ⟨i0,hi,hz0,hz1,hz2⟩:=zaK zjV;have s1:=hl.size;go_enter Tryz.func30,Tryz.ntmps30;go_wp2_with (at_make; refine wpList_make_full _ rfl _ _ 31 rfl w.heap.size 98 i0 (.agg #[.int .i64 0,.int .i64 0,.int .i64 0,.int .i64 0]) 4 Tryz.underlying31 hi hz0 hz1 .i64 .i64 _ _ n rfl rfl rfl rfl ?c1 ?c2 ?c3 ?_)
 case c1=>rw [hz2]; omega
 case c2=>unfold maxLen; omega
 case c3=>exact Nat.le_refl _
 intro w1 hown hgrow;have hb1:Below w.heap.size w w1:=(Below.refl _ _).grown hgrow (Nat.le_refl _) (by intro k hk; cases hk);have hown1:w1.ownsRow w.heap.size 98 4 (.slice (some ⟨w.heap.size,0,none⟩) n n) n (linkF.all (l.take 0++List.replicate (n - 0) LK.zero)):=by
  rw [List.take_zero,List.nil_append,Nat.sub_zero,← zbQ]; exact hown
 clear hown hgrow hi hz0 hz1 hz2;go_wp2
 go_loopw [4] (fun i wr=>∃k:Nat,k≤n∧i=.int .i64 k∧wr.ownsRow w.heap.size 98 4 (.slice (some ⟨w.heap.size,0,none⟩) n n) n (linkF.all (l.take k++List.replicate (n - k) LK.zero))∧Below w.heap.size w wr) (fun i _=>n - (intOf i).toNat)
 case atStart=>exact ⟨0,Nat.zero_le _,rfl,hown1,hb1⟩
 case round =>
  obtain ⟨k,hk,rfl,ho,hb⟩:=hrel;clear hown1 hb1;by_cases hlt:k < n
  ·obtain ⟨x,b,off,hx,rfl,a0,a1,a2,a3⟩:=zaw (hl.below hb) k hlt;have hrep:List.replicate (n - k) LK.zero=LK.zero::List.replicate (n - (k+1)) LK.zero:=by rw [← List.replicate_succ]; congr 1; omega
   have hlk:(l.take k).length=k:=by rw [List.length_take]; omega
   rw [hrep] at ho;have htk:l.take (k+1)=l.take k++[x]:=by rw [List.take_add_one,hx]; rfl
   have HTK:=hide htk;have HB:=hide hb;have HO:=hide ho;have HX:=hide hx;clear hb ho htk hx;(go_wp2_with fail);refine (zh3 x _).mono ?_;rintro r w2 ⟨rfl,hb2⟩;have ho2:=zi HO.out hb2;have hz:(l.take k++LK.zero::List.replicate (n - (k+1)) LK.zero)[k]?=some LK.zero:=by rw [List.getElem?_append_right (by omega),hlk,Nat.sub_self]; rfl
   obtain ⟨⟨t0,t1,t2,t3⟩,f0,f1,f2,f3⟩:=ze9 ho2 hz;have o3:=zis (y:=x) ho2;rw [hlk] at o3;have HO3:=hide o3;have hb3:=zc HB.out hb2;have HB3:=hide (hb3.grown (zgu (w:=w2) (g:=w.heap.size) (j:=k*4) (y:=x)) hb3.size (by intro j e; cases e; exact Nat.le_refl _));clear ho2 hb2 hb3 o3 hz a0 a1 a2 a3;go_wp2
   go_roundw
   case rel=>exact ⟨k+1,by omega,by go_num,by rw [HTK.out,List.append_assoc]; exact HO3.out,HB3.out⟩
   case measure=>simp [intOf]; omega
  ·have hkn:k=n:=by omega
   subst hkn;rw [Nat.sub_self,List.take_of_length_le (by omega),List.replicate_zero,List.append_nil] at ho;have HO:=hide ho;have HB:=hide hb;clear ho hb;go_wp2;go_ret;exact ⟨_,_,rfl,HO.out,HB.out⟩

theorem zhY (ao:Option Addr) (n c:Nat) (left:Int) (w:World) (hl:n≤maxLen) (h0:0≤left) (h1:left≤1048576) :
  Calls Tryz.prog 20 #[.slice ao n c,.int .i64 left] w fun r w'=>r=.returned (.int .i64 (if (n:Int)≤left then left - n else -1))∧w'=w:=by
 unfold maxLen at hl;go_enter Tryz.func20,Tryz.ntmps20;go_wp2
 all_goals go_ret
 all_goals exact ⟨rfl,rfl⟩

theorem zgg (ao:Option Addr) (n c:Nat) (ao':Option Addr) (n' c':Nat) (l:List LK) (w:World) (hl:GRow linkF w ao n c l) (hl':GRow linkF w ao' n' c' l) :
  Calls Tryz.prog 37 #[.slice ao n c,.slice ao' n' c'] w fun r w'=>r=.returned (.bool true)∧Below w.heap.size w w':=by
 have hs:=hl.size;have hs':=hl'.size;have htop:=Nat.le_trans hl.le hl.top;unfold maxLen at htop;have hnn:n'=n:=by omega
 subst hnn;go_enter Tryz.func37,Tryz.ntmps37;go_wp2
 go_loopw [5] (fun i wr=>∃k:Nat,k≤n'∧i=.int .i64 k∧Below w.heap.size w wr) (fun i _=>n' - (intOf i).toNat)
 case atStart=>exact ⟨0,Nat.zero_le _,rfl,Below.refl _ _⟩
 case round =>
  obtain ⟨k,hk,rfl,hb⟩:=hrel;by_cases hlt:k < n'
  ·obtain ⟨x,b,off,hx,rfl,-⟩:=zaw (hl.below hb) k hlt;obtain ⟨y,b',off',hy,rfl,-⟩:=zaw (hl'.below hb) k hlt;rw [hx] at hy;cases hy;have HS:Hid (∀W,Below wr.heap.size wr W→(W.cell? ⟨b,off+k*4,none⟩=some (.int .i64 x.a)∧W.cell? ⟨b,off+k*4+1,none⟩=some (.int .i64 x.p)∧W.cell? ⟨b,off+k*4+2,none⟩=some (.int .i64 x.b)∧W.cell? ⟨b,off+k*4+3,none⟩=some (.int .i64 x.q))∧(W.cell? ⟨b',off'+k*4,none⟩=some (.int .i64 x.a)∧W.cell? ⟨b',off'+k*4+1,none⟩=some (.int .i64 x.p)∧W.cell? ⟨b',off'+k*4+2,none⟩=some (.int .i64 x.b)∧W.cell? ⟨b',off'+k*4+3,none⟩=some (.int .i64 x.q))):=hide (fun W h=>⟨zdA (hl.below hb) h hx,zdA (hl'.below hb) h hx⟩);have vv:Below wr.heap.size wr wr.drew:=zp (Below.refl _ _);have i1:(0:Int)≤(k:Int):=by omega
   have i2:(k:Int) < (n':Int):=by omega
   have HB:=hide hb;clear hb hx;(go_wp2_with fail);refine wp_region_held_drew (S:=(fun W=>(W.cell? ⟨b,off+k*4,none⟩=some (.int .i64 x.a)∧W.cell? ⟨b,off+k*4+1,none⟩=some (.int .i64 x.p)∧W.cell? ⟨b,off+k*4+2,none⟩=some (.int .i64 x.b)∧W.cell? ⟨b,off+k*4+3,none⟩=some (.int .i64 x.q))∧(W.cell? ⟨b',off'+k*4,none⟩=some (.int .i64 x.a)∧W.cell? ⟨b',off'+k*4+1,none⟩=some (.int .i64 x.p)∧W.cell? ⟨b',off'+k*4+2,none⟩=some (.int .i64 x.b)∧W.cell? ⟨b',off'+k*4+3,none⟩=some (.int .i64 x.q)))) (by kernel_rfl) (HS.out _ vv) (fun hHeld => ?_);refine kK 0 ⟨some 17,.move (.tmp 0),31,"exact.go:1128",#[],none⟩ ?_;refine kK 1 ⟨some 18,.move (.tmp 5),3,"exact.go:1128",#[],none⟩ ?_;refine kK 2 ⟨some 19,.indexAddr 31 (.tmp 17) (.tmp 18),0,"exact.go:1128",#[⟨0,.data⟩,⟨1,.data⟩],none⟩ ?_;refine kK 3 ⟨some 20,.load 98 (.tmp 19),98,"exact.go:1128",#[⟨2,.data⟩],none⟩ ?_;refine kK 4 ⟨some 21,.move (.tmp 1),31,"exact.go:1128",#[],none⟩ ?_;refine kK 5 ⟨some 22,.move (.tmp 5),3,"exact.go:1128",#[],none⟩ ?_;refine kK 6 ⟨some 23,.indexAddr 31 (.tmp 21) (.tmp 22),0,"exact.go:1128",#[⟨4,.data⟩,⟨5,.data⟩],none⟩ ?_;refine kK 7 ⟨some 24,.load 98 (.tmp 23),98,"exact.go:1128",#[⟨6,.data⟩],none⟩ ?_;refine kR 8 ⟨some 25,.call ⟨.value (.func 80),#[.tmp 20,.tmp 24],#[98,98]⟩,4,"exact.go:1128",#[⟨3,.data⟩,⟨7,.data⟩],none⟩ (fun K hK => ?_);go_simp;refine (zhg x _).mono ?_;rintro r wz ⟨rfl,hbz⟩;have vv:=zc vv hbz;(go_wp2_with fail);refine hK.out _ _ (HS.out _ vv) (fun hHeld => ?_);clear hK K;(try simp only [Act.put,lA,lB,lC]);refine kK 9 ⟨some 26,.unOp .not 4 (.tmp 25),4,"exact.go:1128",#[⟨8,.data⟩],none⟩ ?_;refine wpAnyH_done (by kernel_rfl) ?_ _;have b1:=zc HB.out vv;clear HS hHeld vv;go_wp2
   go_roundw
   case rel=>exact ⟨k+1,by omega,by go_num,b1⟩
   case measure=>simp [intOf]; omega
  ·have hk':k=n':=by omega
   subst hk';go_wp2;go_ret;exact ⟨rfl,hb⟩

theorem zU {w:World} {g:Nat} {T:TypeId} {c0 c1 c2 c3 c4 c5 c6:Value} (h:w.heap[g]?=some (.cells #[c0,c1,c2,c3,c4,c5,c6] T)) :
  w.cell? ⟨g,0,none⟩=some c0∧w.cell? ⟨g,1,none⟩=some c1∧w.cell? ⟨g,2,none⟩=some c2∧w.cell? ⟨g,3,none⟩=some c3∧w.cell? ⟨g,4,none⟩=some c4∧w.cell? ⟨g,5,none⟩=some c5∧w.cell? ⟨g,6,none⟩=some c6:=by
 simp [World.cell?,h]

theorem zjj (x:SY) (w:World) :
  Calls Tryz.prog 61 #[.agg #[.int .i64 x.l,.bool x.back,.int .i64 x.v.r,.int .i64 x.v.c,.int .i64 x.v.h,.int .i64 x.v.b,.int .i64 x.v.p]] w fun r w'=>r=.returned (.agg #[.int .i64 x.l,.bool x.back,.int .i64 x.v.r,.int .i64 x.v.c,.int .i64 x.v.h,.int .i64 x.v.b,.int .i64 x.v.p])∧Below w.heap.size w w':=by
 go_enter Tryz.func61,Tryz.ntmps61;go_wp2_with fail
 refine (zfo x.v.r x.v.c x.v.h x.v.b x.v.p _).mono ?_;rintro e w2 ⟨rfl,hb2⟩;obtain ⟨-,k1,k2⟩:=za0 hb2;have HB0:=hide (zc (zac w _ _ _) hb2);clear hb2;obtain ⟨d0,d1,d2,d3,d4,d5,d6⟩:=zU k2;obtain ⟨e0,e1,e2,e3,e4,e5,e6⟩:=zU k1;have fr:∀j,w2.frozen? ⟨w.heap.size+1+1,j,none⟩=false:=fun j=>by simp [World.frozen?,k2]
 have gr:∀j,w2.frozen? ⟨w.heap.size+1,j,none⟩=false:=fun j=>by simp [World.frozen?,k1]
 have f2:=fr 2;have f3:=fr 3;have f4:=fr 4;have f5:=fr 5;have f6:=fr 6;have g0:=gr 0;have g1:=gr 1;have g2:=gr 2;have g3:=gr 3;have g4:=gr 4;have g5:=gr 5;have g6:=gr 6;have ne1:¬w.heap.size+1=w.heap.size+1+1:=by omega
 have ne2:¬w.heap.size+1+1=w.heap.size+1:=by omega
 have HB:=hide (zn (zn (zn (zn (zn (zn (zn (zn (zn (zn (zn (zn (HB0.out) (g:=w.heap.size+1+1) (by omega) 2 (.int .i64 x.v.r)) (g:=w.heap.size+1+1) (by omega) 3 (.int .i64 x.v.c)) (g:=w.heap.size+1+1) (by omega) 4 (.int .i64 x.v.h)) (g:=w.heap.size+1+1) (by omega) 5 (.int .i64 x.v.b)) (g:=w.heap.size+1+1) (by omega) 6 (.int .i64 x.v.p)) (g:=w.heap.size+1) (by omega) 0 (.int .i64 x.l)) (g:=w.heap.size+1) (by omega) 1 (.bool x.back)) (g:=w.heap.size+1) (by omega) 2 (.int .i64 x.v.r)) (g:=w.heap.size+1) (by omega) 3 (.int .i64 x.v.c)) (g:=w.heap.size+1) (by omega) 4 (.int .i64 x.v.h)) (g:=w.heap.size+1) (by omega) 5 (.int .i64 x.v.b)) (g:=w.heap.size+1) (by omega) 6 (.int .i64 x.v.p));clear fr gr k1 k2;go_wp2;exact bodyPost_ret (v:=.agg #[.int .i64 x.l,.bool x.back,.int .i64 x.v.r,.int .i64 x.v.c,.int .i64 x.v.h,.int .i64 x.v.b,.int .i64 x.v.p]) (by simp [results,Tryz.results61,go_sem, *]) rfl ⟨rfl,HB.out⟩

theorem ziZ (x:SY) (w:World) :
  Calls Tryz.prog 81 #[.agg #[.int .i64 x.l,.bool x.back,.int .i64 x.v.r,.int .i64 x.v.c,.int .i64 x.v.h,.int .i64 x.v.b,.int .i64 x.v.p],.agg #[.int .i64 x.l,.bool x.back,.int .i64 x.v.r,.int .i64 x.v.c,.int .i64 x.v.h,.int .i64 x.v.b,.int .i64 x.v.p]] w fun r w'=>r=.returned (.bool true)∧Below w.heap.size w w':=by
 go_enter Tryz.func81,Tryz.ntmps81;go_wp2_with fail
 refine (ze2 x.v.r x.v.c x.v.h x.v.b x.v.p _).mono ?_;rintro e w2 ⟨rfl,hb2⟩;have HB:=hide (zc (zL _ _ _) hb2);clear hb2;go_wp2;go_ret;exact ⟨rfl,HB.out⟩

theorem zaY {w w':World} {b off n cap:Nat} {l:List SY} (h:GRow sayF w (some ⟨b,off,none⟩) n cap l) (hb:Below w.heap.size w w') {i:Nat} {x:SY} (hx:l[i]?=some x) :
  w'.cell? ⟨b,off+i*7,none⟩=some (.int .i64 x.l)∧w'.cell? ⟨b,off+i*7+1,none⟩=some (.bool x.back)∧w'.cell? ⟨b,off+i*7+2,none⟩=some (.int .i64 x.v.r)∧w'.cell? ⟨b,off+i*7+3,none⟩=some (.int .i64 x.v.c)∧w'.cell? ⟨b,off+i*7+4,none⟩=some (.int .i64 x.v.h)∧w'.cell? ⟨b,off+i*7+5,none⟩=some (.int .i64 x.v.b)∧w'.cell? ⟨b,off+i*7+6,none⟩=some (.int .i64 x.v.p):=by
 have hi:i < n:=by
  have:=(List.getElem?_eq_some_iff.1 hx).1
  have:=h.size
  omega
 obtain ⟨y,b',off',hy,e,c⟩:=zdM (h.below hb) i hi;cases e;rw [hx] at hy;cases hy;exact c

theorem zki {w:World} {base g n cap:Nat} {pre post:List SY} {x y:SY} (h:w.ownsRow base 105 7 (.slice (some ⟨g,0,none⟩) n cap) n (sayF.all (pre++x::post))) :
  (((((((w.setCell ⟨g,pre.length*7,none⟩ (.int .i64 y.l)).setCell ⟨g,pre.length*7+1,none⟩ (.bool y.back)).setCell ⟨g,pre.length*7+2,none⟩ (.int .i64 y.v.r)).setCell ⟨g,pre.length*7+3,none⟩ (.int .i64 y.v.c)).setCell ⟨g,pre.length*7+4,none⟩ (.int .i64 y.v.h)).setCell ⟨g,pre.length*7+5,none⟩ (.int .i64 y.v.b)).setCell ⟨g,pre.length*7+6,none⟩ (.int .i64 y.v.p)).ownsRow base 105 7 (.slice (some ⟨g,0,none⟩) n cap) n (sayF.all (pre++y::post)):=by
 have R0:=zt (F:=sayF) (x':=⟨y.l,x.back,⟨x.v.r,x.v.c,x.v.h,x.v.b,x.v.p⟩⟩) h 0 (.int .i64 y.l) (by decide) rfl;have R1:=zt (F:=sayF) (x':=⟨y.l,y.back,⟨x.v.r,x.v.c,x.v.h,x.v.b,x.v.p⟩⟩) R0 1 (.bool y.back) (by decide) rfl;have R2:=zt (F:=sayF) (x':=⟨y.l,y.back,⟨y.v.r,x.v.c,x.v.h,x.v.b,x.v.p⟩⟩) R1 2 (.int .i64 y.v.r) (by decide) rfl;have R3:=zt (F:=sayF) (x':=⟨y.l,y.back,⟨y.v.r,y.v.c,x.v.h,x.v.b,x.v.p⟩⟩) R2 3 (.int .i64 y.v.c) (by decide) rfl;have R4:=zt (F:=sayF) (x':=⟨y.l,y.back,⟨y.v.r,y.v.c,y.v.h,x.v.b,x.v.p⟩⟩) R3 4 (.int .i64 y.v.h) (by decide) rfl;have R5:=zt (F:=sayF) (x':=⟨y.l,y.back,⟨y.v.r,y.v.c,y.v.h,y.v.b,x.v.p⟩⟩) R4 5 (.int .i64 y.v.b) (by decide) rfl;exact zt (F:=sayF) (x':=y) R5 6 (.int .i64 y.v.p) (by decide) rfl

theorem ziE {w:World} {g j:Nat} {y:SY}:w.grownBy (((((((w.setCell ⟨g,j,none⟩ (.int .i64 y.l)).setCell ⟨g,j+1,none⟩ (.bool y.back)).setCell ⟨g,j+2,none⟩ (.int .i64 y.v.r)).setCell ⟨g,j+3,none⟩ (.int .i64 y.v.c)).setCell ⟨g,j+4,none⟩ (.int .i64 y.v.h)).setCell ⟨g,j+5,none⟩ (.int .i64 y.v.b)).setCell ⟨g,j+6,none⟩ (.int .i64 y.v.p)) (some g) :=
 zz (zz (zz (zz (zz (zz (zg _ _) (zg _ _)) (zg _ _)) (zg _ _)) (zg _ _)) (zg _ _)) (zg _ _)

theorem zgQ {w:World} {base g n cap:Nat} {T:TypeId} {l:List SY} (h:w.ownsRow base T 7 (.slice (some ⟨g,0,none⟩) n cap) n (sayF.all l)) {i:Nat} {x:SY} (hx:l[i]?=some x) :
  (w.cell? ⟨g,i*7,none⟩=some (.int .i64 x.l)∧w.cell? ⟨g,i*7+1,none⟩=some (.bool x.back)∧w.cell? ⟨g,i*7+2,none⟩=some (.int .i64 x.v.r)∧w.cell? ⟨g,i*7+3,none⟩=some (.int .i64 x.v.c)∧w.cell? ⟨g,i*7+4,none⟩=some (.int .i64 x.v.h)∧w.cell? ⟨g,i*7+5,none⟩=some (.int .i64 x.v.b)∧w.cell? ⟨g,i*7+6,none⟩=some (.int .i64 x.v.p)) ∧
  (w.frozen? ⟨g,i*7,none⟩=false∧w.frozen? ⟨g,i*7+1,none⟩=false∧w.frozen? ⟨g,i*7+2,none⟩=false∧w.frozen? ⟨g,i*7+3,none⟩=false∧w.frozen? ⟨g,i*7+4,none⟩=false∧w.frozen? ⟨g,i*7+5,none⟩=false∧w.frozen? ⟨g,i*7+6,none⟩=false):=by
 have c0:=zH (F:=sayF) h hx (j:=0) (v:=.int .i64 x.l) rfl;have c1:=zH (F:=sayF) h hx (j:=1) (v:=.bool x.back) rfl;have c2:=zH (F:=sayF) h hx (j:=2) (v:=.int .i64 x.v.r) rfl;have c3:=zH (F:=sayF) h hx (j:=3) (v:=.int .i64 x.v.c) rfl;have c4:=zH (F:=sayF) h hx (j:=4) (v:=.int .i64 x.v.h) rfl;have c5:=zH (F:=sayF) h hx (j:=5) (v:=.int .i64 x.v.b) rfl;have c6:=zH (F:=sayF) h hx (j:=6) (v:=.int .i64 x.v.p) rfl;exact ⟨⟨c0.1,c1.1,c2.1,c3.1,c4.1,c5.1,c6.1⟩,c0.2,c1.2,c2.2,c3.2,c4.2,c5.2,c6.2⟩

def SY.zero:SY:=⟨0,false,⟨0,0,0,0,0⟩⟩

theorem zlh:(Tryz.prog.info? 105).map (fun i=>(i.zero,i.size,i.bytes))=some (some (.agg #[.int .i64 0,.bool false,.int .i64 0,.int .i64 0,.int .i64 0,.int .i64 0,.int .i64 0]),7,56):=by kernel_rfl

theorem zh4 (ao:Option Addr) (n c:Nat) (l:List SY) (w:World) (hl:GRow sayF w ao n c l) (hs:n≤1048576) :
  Calls Tryz.prog 31 #[.slice ao n c] w fun r w'=>∃ao' cap,r=.returned (.slice ao' n cap)∧w'.ownsRow w.heap.size 105 7 (.slice ao' n cap) n (sayF.all l)∧Below w.heap.size w w':=by
 obtain ⟨i0,hi,hz0,hz1,hz2⟩:=zaK zlh;have s1:=hl.size;go_enter Tryz.func31,Tryz.ntmps31;go_wp2_with (at_make; refine wpList_make_full _ rfl _ _ 32 rfl w.heap.size 105 i0 (.agg #[.int .i64 0,.bool false,.int .i64 0,.int .i64 0,.int .i64 0,.int .i64 0,.int .i64 0]) 7 Tryz.underlying32 hi hz0 hz1 .i64 .i64 _ _ n rfl rfl rfl rfl ?c1 ?c2 ?c3 ?_)
 case c1=>rw [hz2]; omega
 case c2=>unfold maxLen; omega
 case c3=>exact Nat.le_refl _
 intro w1 hown hgrow;have hb1:Below w.heap.size w w1:=(Below.refl _ _).grown hgrow (Nat.le_refl _) (by intro k hk; cases hk);have hown1:w1.ownsRow w.heap.size 105 7 (.slice (some ⟨w.heap.size,0,none⟩) n n) n (sayF.all (l.take 0++List.replicate (n - 0) SY.zero)):=by
  rw [List.take_zero,List.nil_append,Nat.sub_zero,← zbQ]; exact hown
 clear hown hgrow hi hz0 hz1 hz2;go_wp2
 go_loopw [4] (fun i wr=>∃k:Nat,k≤n∧i=.int .i64 k∧wr.ownsRow w.heap.size 105 7 (.slice (some ⟨w.heap.size,0,none⟩) n n) n (sayF.all (l.take k++List.replicate (n - k) SY.zero))∧Below w.heap.size w wr) (fun i _=>n - (intOf i).toNat)
 case atStart=>exact ⟨0,Nat.zero_le _,rfl,hown1,hb1⟩
 case round =>
  obtain ⟨k,hk,rfl,ho,hb⟩:=hrel;clear hown1 hb1;by_cases hlt:k < n
  ·obtain ⟨x,b,off,hx,rfl,a0,a1,a2,a3,a4,a5,a6⟩:=zdM (hl.below hb) k hlt;have hrep:List.replicate (n - k) SY.zero=SY.zero::List.replicate (n - (k+1)) SY.zero:=by rw [← List.replicate_succ]; congr 1; omega
   have hlk:(l.take k).length=k:=by rw [List.length_take]; omega
   rw [hrep] at ho;have htk:l.take (k+1)=l.take k++[x]:=by rw [List.take_add_one,hx]; rfl
   have HTK:=hide htk;have HB:=hide hb;have HO:=hide ho;have HX:=hide hx;clear hb ho htk hx;(go_wp2_with fail);refine (zjj x _).mono ?_;rintro r w2 ⟨rfl,hb2⟩;have ho2:=zi HO.out hb2;have hz:(l.take k++SY.zero::List.replicate (n - (k+1)) SY.zero)[k]?=some SY.zero:=by rw [List.getElem?_append_right (by omega),hlk,Nat.sub_self]; rfl
   obtain ⟨⟨t0,t1,t2,t3,t4,t5,t6⟩,f0,f1,f2,f3,f4,f5,f6⟩:=zgQ ho2 hz;have o3:=zki (y:=x) ho2;rw [hlk] at o3;have HO3:=hide o3;have hb3:=zc HB.out hb2;have HB3:=hide (hb3.grown (ziE (w:=w2) (g:=w.heap.size) (j:=k*7) (y:=x)) hb3.size (by intro j e; cases e; exact Nat.le_refl _));clear ho2 hb2 hb3 o3 hz a0 a1 a2 a3 a4 a5 a6;go_wp2
   go_roundw
   case rel=>exact ⟨k+1,by omega,by go_num,by rw [HTK.out,List.append_assoc]; exact HO3.out,HB3.out⟩
   case measure=>simp [intOf]; omega
  ·have hkn:k=n:=by omega
   subst hkn;rw [Nat.sub_self,List.take_of_length_le (by omega),List.replicate_zero,List.append_nil] at ho;have HO:=hide ho;have HB:=hide hb;clear ho hb;go_wp2;go_ret;exact ⟨_,_,rfl,HO.out,HB.out⟩

theorem zjh (ao:Option Addr) (n c:Nat) (left:Int) (w:World) (hl:n≤maxLen) (h0:0≤left) (h1:left≤1048576) :
  Calls Tryz.prog 21 #[.slice ao n c,.int .i64 left] w fun r w'=>r=.returned (.int .i64 (if (n:Int)≤left then left - n else -1))∧w'=w:=by
 unfold maxLen at hl;go_enter Tryz.func21,Tryz.ntmps21;go_wp2
 all_goals go_ret
 all_goals exact ⟨rfl,rfl⟩

theorem zhh (ao:Option Addr) (n c:Nat) (ao':Option Addr) (n' c':Nat) (l:List SY) (w:World) (hl:GRow sayF w ao n c l) (hl':GRow sayF w ao' n' c' l) :
  Calls Tryz.prog 38 #[.slice ao n c,.slice ao' n' c'] w fun r w'=>r=.returned (.bool true)∧Below w.heap.size w w':=by
 have hs:=hl.size;have hs':=hl'.size;have htop:=Nat.le_trans hl.le hl.top;unfold maxLen at htop;have hnn:n'=n:=by omega
 subst hnn;go_enter Tryz.func38,Tryz.ntmps38;go_wp2
 go_loopw [5] (fun i wr=>∃k:Nat,k≤n'∧i=.int .i64 k∧Below w.heap.size w wr) (fun i _=>n' - (intOf i).toNat)
 case atStart=>exact ⟨0,Nat.zero_le _,rfl,Below.refl _ _⟩
 case round =>
  obtain ⟨k,hk,rfl,hb⟩:=hrel;by_cases hlt:k < n'
  ·obtain ⟨x,b,off,hx,rfl,-⟩:=zdM (hl.below hb) k hlt;obtain ⟨y,b',off',hy,rfl,-⟩:=zdM (hl'.below hb) k hlt;rw [hx] at hy;cases hy;have HS:Hid (∀W,Below wr.heap.size wr W→(W.cell? ⟨b,off+k*7,none⟩=some (.int .i64 x.l)∧W.cell? ⟨b,off+k*7+1,none⟩=some (.bool x.back)∧W.cell? ⟨b,off+k*7+2,none⟩=some (.int .i64 x.v.r)∧W.cell? ⟨b,off+k*7+3,none⟩=some (.int .i64 x.v.c)∧W.cell? ⟨b,off+k*7+4,none⟩=some (.int .i64 x.v.h)∧W.cell? ⟨b,off+k*7+5,none⟩=some (.int .i64 x.v.b)∧W.cell? ⟨b,off+k*7+6,none⟩=some (.int .i64 x.v.p))∧(W.cell? ⟨b',off'+k*7,none⟩=some (.int .i64 x.l)∧W.cell? ⟨b',off'+k*7+1,none⟩=some (.bool x.back)∧W.cell? ⟨b',off'+k*7+2,none⟩=some (.int .i64 x.v.r)∧W.cell? ⟨b',off'+k*7+3,none⟩=some (.int .i64 x.v.c)∧W.cell? ⟨b',off'+k*7+4,none⟩=some (.int .i64 x.v.h)∧W.cell? ⟨b',off'+k*7+5,none⟩=some (.int .i64 x.v.b)∧W.cell? ⟨b',off'+k*7+6,none⟩=some (.int .i64 x.v.p))):=hide (fun W h=>⟨zaY (hl.below hb) h hx,zaY (hl'.below hb) h hx⟩);have vv:Below wr.heap.size wr wr.drew:=zp (Below.refl _ _);have i1:(0:Int)≤(k:Int):=by omega
   have i2:(k:Int) < (n':Int):=by omega
   have HB:=hide hb;clear hb hx;(go_wp2_with fail);refine wp_region_held_drew (S:=(fun W=>(W.cell? ⟨b,off+k*7,none⟩=some (.int .i64 x.l)∧W.cell? ⟨b,off+k*7+1,none⟩=some (.bool x.back)∧W.cell? ⟨b,off+k*7+2,none⟩=some (.int .i64 x.v.r)∧W.cell? ⟨b,off+k*7+3,none⟩=some (.int .i64 x.v.c)∧W.cell? ⟨b,off+k*7+4,none⟩=some (.int .i64 x.v.h)∧W.cell? ⟨b,off+k*7+5,none⟩=some (.int .i64 x.v.b)∧W.cell? ⟨b,off+k*7+6,none⟩=some (.int .i64 x.v.p))∧(W.cell? ⟨b',off'+k*7,none⟩=some (.int .i64 x.l)∧W.cell? ⟨b',off'+k*7+1,none⟩=some (.bool x.back)∧W.cell? ⟨b',off'+k*7+2,none⟩=some (.int .i64 x.v.r)∧W.cell? ⟨b',off'+k*7+3,none⟩=some (.int .i64 x.v.c)∧W.cell? ⟨b',off'+k*7+4,none⟩=some (.int .i64 x.v.h)∧W.cell? ⟨b',off'+k*7+5,none⟩=some (.int .i64 x.v.b)∧W.cell? ⟨b',off'+k*7+6,none⟩=some (.int .i64 x.v.p)))) (by kernel_rfl) (HS.out _ vv) (fun hHeld => ?_);refine kK 0 ⟨some 17,.move (.tmp 0),32,"exact.go:1153",#[],none⟩ ?_;refine kK 1 ⟨some 18,.move (.tmp 5),3,"exact.go:1153",#[],none⟩ ?_;refine kK 2 ⟨some 19,.indexAddr 32 (.tmp 17) (.tmp 18),0,"exact.go:1153",#[⟨0,.data⟩,⟨1,.data⟩],none⟩ ?_;refine kK 3 ⟨some 20,.load 105 (.tmp 19),105,"exact.go:1153",#[⟨2,.data⟩],none⟩ ?_;refine kK 4 ⟨some 21,.move (.tmp 1),32,"exact.go:1153",#[],none⟩ ?_;refine kK 5 ⟨some 22,.move (.tmp 5),3,"exact.go:1153",#[],none⟩ ?_;refine kK 6 ⟨some 23,.indexAddr 32 (.tmp 21) (.tmp 22),0,"exact.go:1153",#[⟨4,.data⟩,⟨5,.data⟩],none⟩ ?_;refine kK 7 ⟨some 24,.load 105 (.tmp 23),105,"exact.go:1153",#[⟨6,.data⟩],none⟩ ?_;refine kR 8 ⟨some 25,.call ⟨.value (.func 81),#[.tmp 20,.tmp 24],#[105,105]⟩,4,"exact.go:1153",#[⟨3,.data⟩,⟨7,.data⟩],none⟩ (fun K hK => ?_);go_simp;refine (ziZ x _).mono ?_;rintro r wz ⟨rfl,hbz⟩;have vv:=zc vv hbz;(go_wp2_with fail);refine hK.out _ _ (HS.out _ vv) (fun hHeld => ?_);clear hK K;(try simp only [Act.put,lA,lB,lC]);refine kK 9 ⟨some 26,.unOp .not 4 (.tmp 25),4,"exact.go:1153",#[⟨8,.data⟩],none⟩ ?_;refine wpAnyH_done (by kernel_rfl) ?_ _;have b1:=zc HB.out vv;clear HS hHeld vv;go_wp2
   go_roundw
   case rel=>exact ⟨k+1,by omega,by go_num,b1⟩
   case measure=>simp [intOf]; omega
  ·have hk':k=n':=by omega
   subst hk';go_wp2;go_ret;exact ⟨rfl,hb⟩

end Go.Proofs.YtpaneiaflfegoaaGreat
