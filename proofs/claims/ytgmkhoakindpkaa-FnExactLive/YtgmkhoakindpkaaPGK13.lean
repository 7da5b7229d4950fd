/-
  Packed: NetHelp Say14.
-/
import Derived.Test.YtgmkhoakindpkaaPGKW
import Derived.Test.YtgmkhoakindpkaaPGBrHelp
import Derived.Test.YtgmkhoakindpkaaPGK01
import Derived.Test.YtgmkhoakindpkaaPGK02
import Derived.Test.YtgmkhoakindpkaaPGK03
import Derived.Test.YtgmkhoakindpkaaPGK04
import Derived.Test.YtgmkhoakindpkaaPGK11
import Derived.Deep.RegionHeld3
namespace Go.Proofs.Ytgmkhoakindpkaa
set_option maxRecDepth 100000
set_option maxHeartbeats 16000000
open Go.RowKit

theorem zx {w w':World} {b off n cap:Nat} {l:List BV} (h:GRow brF w (some ⟨b,off,none⟩) n cap l) (hb:Below w.heap.size w w') {i:Nat} {x:BV} (hx:l[i]?=some x) :
  w'.cell? ⟨b,off+i*11,none⟩=some (.int .i64 x.B.id)∧w'.cell? ⟨b,off+i*11+1,none⟩=some (.string x.B.name)∧w'.cell? ⟨b,off+i*11+2,none⟩=some (.slice x.a x.n x.c)∧w'.cell? ⟨b,off+i*11+3,none⟩=some (.slice x.fa x.fn x.fc)∧w'.cell? ⟨b,off+i*11+4,none⟩=some (.slice x.ra x.rn x.rc)∧w'.cell? ⟨b,off+i*11+5,none⟩=some (.slice x.oa x.on x.oc)∧w'.cell? ⟨b,off+i*11+6,none⟩=some (.int .i64 x.B.ticks)∧w'.cell? ⟨b,off+i*11+7,none⟩=some (.int .i64 x.B.parse)∧w'.cell? ⟨b,off+i*11+8,none⟩=some (.int .i64 x.B.word)∧w'.cell? ⟨b,off+i*11+9,none⟩=some (.int .i64 x.B.drops)∧w'.cell? ⟨b,off+i*11+10,none⟩=some (.int .i64 x.B.vers):=by
 have hi:i < n:=by
  have:=(List.getElem?_eq_some_iff.1 hx).1
  have:=h.size
  omega
 obtain ⟨y,b',off',hy,e,c⟩:=br_at (h.below hb) i hi;cases e;rw [hx] at hy;cases hy;exact c

theorem zbR {w:World} {base g n cap:Nat} {pre post:List BV} {x y:BV} (h:w.ownsRow base 98 11 (.slice (some ⟨g,0,none⟩) n cap) n (brF.all (pre++x::post))) :
  (((((((((((w.setCell ⟨g,pre.length*11,none⟩ (.int .i64 y.B.id)).setCell ⟨g,pre.length*11+1,none⟩ (.string y.B.name)).setCell ⟨g,pre.length*11+2,none⟩ (.slice y.a y.n y.c)).setCell ⟨g,pre.length*11+3,none⟩ (.slice y.fa y.fn y.fc)).setCell ⟨g,pre.length*11+4,none⟩ (.slice y.ra y.rn y.rc)).setCell ⟨g,pre.length*11+5,none⟩ (.slice y.oa y.on y.oc)).setCell ⟨g,pre.length*11+6,none⟩ (.int .i64 y.B.ticks)).setCell ⟨g,pre.length*11+7,none⟩ (.int .i64 y.B.parse)).setCell ⟨g,pre.length*11+8,none⟩ (.int .i64 y.B.word)).setCell ⟨g,pre.length*11+9,none⟩ (.int .i64 y.B.drops)).setCell ⟨g,pre.length*11+10,none⟩ (.int .i64 y.B.vers)).ownsRow base 98 11 (.slice (some ⟨g,0,none⟩) n cap) n (brF.all (pre++y::post)):=by
 have R0:=zf (F:=brF) (x':=⟨x.a,x.n,x.c,x.fa,x.fn,x.fc,x.ra,x.rn,x.rc,x.oa,x.on,x.oc,⟨y.B.id,x.B.name,x.B.ports,x.B.f,x.B.v,x.B.ticks,x.B.parse,x.B.word,x.B.drops,x.B.vers⟩⟩) h 0 (.int .i64 y.B.id) (by decide) rfl;have R1:=zf (F:=brF) (x':=⟨x.a,x.n,x.c,x.fa,x.fn,x.fc,x.ra,x.rn,x.rc,x.oa,x.on,x.oc,⟨y.B.id,y.B.name,x.B.ports,x.B.f,x.B.v,x.B.ticks,x.B.parse,x.B.word,x.B.drops,x.B.vers⟩⟩) R0 1 (.string y.B.name) (by decide) rfl;have R2:=zf (F:=brF) (x':=⟨y.a,y.n,y.c,x.fa,x.fn,x.fc,x.ra,x.rn,x.rc,x.oa,x.on,x.oc,⟨y.B.id,y.B.name,y.B.ports,x.B.f,x.B.v,x.B.ticks,x.B.parse,x.B.word,x.B.drops,x.B.vers⟩⟩) R1 2 (.slice y.a y.n y.c) (by decide) rfl;have R3:=zf (F:=brF) (x':=⟨y.a,y.n,y.c,y.fa,y.fn,y.fc,x.ra,x.rn,x.rc,x.oa,x.on,x.oc,⟨y.B.id,y.B.name,y.B.ports,y.B.f,x.B.v,x.B.ticks,x.B.parse,x.B.word,x.B.drops,x.B.vers⟩⟩) R2 3 (.slice y.fa y.fn y.fc) (by decide) rfl;have R4:=zf (F:=brF) (x':=⟨y.a,y.n,y.c,y.fa,y.fn,y.fc,y.ra,y.rn,y.rc,x.oa,x.on,x.oc,⟨y.B.id,y.B.name,y.B.ports,y.B.f,y.B.v,x.B.ticks,x.B.parse,x.B.word,x.B.drops,x.B.vers⟩⟩) R3 4 (.slice y.ra y.rn y.rc) (by decide) rfl;have R5:=zf (F:=brF) (x':=⟨y.a,y.n,y.c,y.fa,y.fn,y.fc,y.ra,y.rn,y.rc,y.oa,y.on,y.oc,⟨y.B.id,y.B.name,y.B.ports,y.B.f,y.B.v,x.B.ticks,x.B.parse,x.B.word,x.B.drops,x.B.vers⟩⟩) R4 5 (.slice y.oa y.on y.oc) (by decide) rfl;have R6:=zf (F:=brF) (x':=⟨y.a,y.n,y.c,y.fa,y.fn,y.fc,y.ra,y.rn,y.rc,y.oa,y.on,y.oc,⟨y.B.id,y.B.name,y.B.ports,y.B.f,y.B.v,y.B.ticks,x.B.parse,x.B.word,x.B.drops,x.B.vers⟩⟩) R5 6 (.int .i64 y.B.ticks) (by decide) rfl;have R7:=zf (F:=brF) (x':=⟨y.a,y.n,y.c,y.fa,y.fn,y.fc,y.ra,y.rn,y.rc,y.oa,y.on,y.oc,⟨y.B.id,y.B.name,y.B.ports,y.B.f,y.B.v,y.B.ticks,y.B.parse,x.B.word,x.B.drops,x.B.vers⟩⟩) R6 7 (.int .i64 y.B.parse) (by decide) rfl;have R8:=zf (F:=brF) (x':=⟨y.a,y.n,y.c,y.fa,y.fn,y.fc,y.ra,y.rn,y.rc,y.oa,y.on,y.oc,⟨y.B.id,y.B.name,y.B.ports,y.B.f,y.B.v,y.B.ticks,y.B.parse,y.B.word,x.B.drops,x.B.vers⟩⟩) R7 8 (.int .i64 y.B.word) (by decide) rfl;have R9:=zf (F:=brF) (x':=⟨y.a,y.n,y.c,y.fa,y.fn,y.fc,y.ra,y.rn,y.rc,y.oa,y.on,y.oc,⟨y.B.id,y.B.name,y.B.ports,y.B.f,y.B.v,y.B.ticks,y.B.parse,y.B.word,y.B.drops,x.B.vers⟩⟩) R8 9 (.int .i64 y.B.drops) (by decide) rfl;exact zf (F:=brF) (x':=y) R9 10 (.int .i64 y.B.vers) (by decide) rfl

theorem zbv {w:World} {g j:Nat} {y:BV}:w.grownBy (((((((((((w.setCell ⟨g,j,none⟩ (.int .i64 y.B.id)).setCell ⟨g,j+1,none⟩ (.string y.B.name)).setCell ⟨g,j+2,none⟩ (.slice y.a y.n y.c)).setCell ⟨g,j+3,none⟩ (.slice y.fa y.fn y.fc)).setCell ⟨g,j+4,none⟩ (.slice y.ra y.rn y.rc)).setCell ⟨g,j+5,none⟩ (.slice y.oa y.on y.oc)).setCell ⟨g,j+6,none⟩ (.int .i64 y.B.ticks)).setCell ⟨g,j+7,none⟩ (.int .i64 y.B.parse)).setCell ⟨g,j+8,none⟩ (.int .i64 y.B.word)).setCell ⟨g,j+9,none⟩ (.int .i64 y.B.drops)).setCell ⟨g,j+10,none⟩ (.int .i64 y.B.vers)) (some g) :=
 zi (zi (zi (zi (zi (zi (zi (zi (zi (zi (zd _ _) (zd _ _)) (zd _ _)) (zd _ _)) (zd _ _)) (zd _ _)) (zd _ _)) (zd _ _)) (zd _ _)) (zd _ _)) (zd _ _)

theorem zP {w:World} {base g n cap:Nat} {T:TypeId} {l:List BV} (h:w.ownsRow base T 11 (.slice (some ⟨g,0,none⟩) n cap) n (brF.all l)) {i:Nat} {x:BV} (hx:l[i]?=some x) :
  (w.cell? ⟨g,i*11,none⟩=some (.int .i64 x.B.id)∧w.cell? ⟨g,i*11+1,none⟩=some (.string x.B.name)∧w.cell? ⟨g,i*11+2,none⟩=some (.slice x.a x.n x.c)∧w.cell? ⟨g,i*11+3,none⟩=some (.slice x.fa x.fn x.fc)∧w.cell? ⟨g,i*11+4,none⟩=some (.slice x.ra x.rn x.rc)∧w.cell? ⟨g,i*11+5,none⟩=some (.slice x.oa x.on x.oc)∧w.cell? ⟨g,i*11+6,none⟩=some (.int .i64 x.B.ticks)∧w.cell? ⟨g,i*11+7,none⟩=some (.int .i64 x.B.parse)∧w.cell? ⟨g,i*11+8,none⟩=some (.int .i64 x.B.word)∧w.cell? ⟨g,i*11+9,none⟩=some (.int .i64 x.B.drops)∧w.cell? ⟨g,i*11+10,none⟩=some (.int .i64 x.B.vers)) ∧
  (w.frozen? ⟨g,i*11,none⟩=false∧w.frozen? ⟨g,i*11+1,none⟩=false∧w.frozen? ⟨g,i*11+2,none⟩=false∧w.frozen? ⟨g,i*11+3,none⟩=false∧w.frozen? ⟨g,i*11+4,none⟩=false∧w.frozen? ⟨g,i*11+5,none⟩=false∧w.frozen? ⟨g,i*11+6,none⟩=false∧w.frozen? ⟨g,i*11+7,none⟩=false∧w.frozen? ⟨g,i*11+8,none⟩=false∧w.frozen? ⟨g,i*11+9,none⟩=false∧w.frozen? ⟨g,i*11+10,none⟩=false):=by
 have c0:=zm (F:=brF) h hx (j:=0) (v:=.int .i64 x.B.id) rfl;have c1:=zm (F:=brF) h hx (j:=1) (v:=.string x.B.name) rfl;have c2:=zm (F:=brF) h hx (j:=2) (v:=.slice x.a x.n x.c) rfl;have c3:=zm (F:=brF) h hx (j:=3) (v:=.slice x.fa x.fn x.fc) rfl;have c4:=zm (F:=brF) h hx (j:=4) (v:=.slice x.ra x.rn x.rc) rfl;have c5:=zm (F:=brF) h hx (j:=5) (v:=.slice x.oa x.on x.oc) rfl;have c6:=zm (F:=brF) h hx (j:=6) (v:=.int .i64 x.B.ticks) rfl;have c7:=zm (F:=brF) h hx (j:=7) (v:=.int .i64 x.B.parse) rfl;have c8:=zm (F:=brF) h hx (j:=8) (v:=.int .i64 x.B.word) rfl;have c9:=zm (F:=brF) h hx (j:=9) (v:=.int .i64 x.B.drops) rfl;have c10:=zm (F:=brF) h hx (j:=10) (v:=.int .i64 x.B.vers) rfl;exact ⟨⟨c0.1,c1.1,c2.1,c3.1,c4.1,c5.1,c6.1,c7.1,c8.1,c9.1,c10.1⟩,c0.2,c1.2,c2.2,c3.2,c4.2,c5.2,c6.2,c7.2,c8.2,c9.2,c10.2⟩

abbrev BV.Own (w:World) (base:Nat) (x:BV):Prop:=BrOwn w base x.a x.n x.c x.fa x.fn x.fc x.ra x.rn x.rc x.oa x.on x.oc x.B

theorem BV.Own.other {w w':World} {base:Nat} {x:BV} (h:x.Own w base) {X:Nat} {cs:Array Value} {T:TypeId} (hX:w.heap[X]?=some (.cells cs T)) (h1:(91:Nat)≠T) (h2:(147:Nat)≠T) (h3:(149:Nat)≠T) (h4:(3:Nat)≠T) (hg:w.grownBy w' (some X)):x.Own w' base :=
 ⟨zab h.ports hg (zae h.ports hX h1),zab h.f hg (zae h.f hX h2),⟨zab h.v.rows hg (zae h.v.rows hX h3),zab h.v.own hg (zae h.v.own hX h4),h.v.i64⟩⟩

theorem zc2 {w:World} {base g n cap k:Nat} {T:TypeId} {xs:List Value} (h:w.ownsRow base T k (.slice (some ⟨g,0,none⟩) n cap) n xs):∃cs,w.heap[g]?=some (.cells cs T):=by
 rcases h.2 with ⟨e,_⟩ | ⟨g',cap',cur,e,_,hh,_⟩
 ·cases e
 ·cases e;exact ⟨_,hh⟩

def BV.Small (x:BV):Prop:=x.n≤1048576∧x.fn≤1048576∧x.rn≤1048576∧x.on≤1048576

def HalfB (w wr:World) (l:List BV) (n k:Nat):Prop :=
 ∃ys:List BV,ys.length=k∧ys.map BV.B=(l.take k).map BV.B∧wr.ownsRow w.heap.size 98 11 (.slice (some ⟨w.heap.size,0,none⟩) n n) n (brF.all (ys++List.replicate (n - k) BV.zero))∧∀y∈ys,y.Own wr w.heap.size

theorem zbP (ao:Option Addr) (n c:Nat) (l:List BV) (w:World) (hl:GRow brF w ao n c l) (hr:∀x∈l,x.Reads w) (hs:n≤1048576) (hm:∀x∈l,x.Small) :
  Calls Try.prog 25 #[.slice ao n c] w fun r w'=>∃ao' cap ys,r=.returned (.slice ao' n cap)∧ys.map BV.B=l.map BV.B∧w'.ownsRow w.heap.size 98 11 (.slice ao' n cap) n (brF.all ys)∧(∀y∈ys,y.Own w' w.heap.size)∧Below w.heap.size w w':=by
 obtain ⟨i0,hi,hz0,hz1,hz2⟩:=z8 zfi;have s1:=hl.size;go_enter Try.func25,Try.ntmps25;go_wp2_with (at_make; refine wpList_make_full _ rfl _ _ 29 rfl w.heap.size 98 i0 (.agg #[.int .i64 0,.string ⟨#[]⟩,.slice none 0 0,.slice none 0 0,.slice none 0 0,.slice none 0 0,.int .i64 0,.int .i64 0,.int .i64 0,.int .i64 0,.int .i64 0]) 11 Try.underlying29 hi hz0 hz1 .i64 .i64 _ _ n rfl rfl rfl rfl ?c1 ?c2 ?c3 ?_)
 case c1=>rw [hz2]; omega
 case c2=>unfold maxLen; omega
 case c3=>exact Nat.le_refl _
 intro w1 hown hgrow;have hb1:Below w.heap.size w w1:=(Below.refl _ _).grown hgrow (Nat.le_refl _) (by intro k hk; cases hk);have hown1:HalfB w w1 l n 0:=by
  refine ⟨[],rfl,rfl, ?_,by intro y hy; cases hy⟩;rw [List.nil_append,Nat.sub_zero,← zaw]; exact hown
 clear hown hgrow hi hz0 hz1 hz2;go_wp2
 go_loopw [4] (fun i wr=>∃k:Nat,k≤n∧i=.int .i64 k∧HalfB w wr l n k∧Below w.heap.size w wr) (fun i _=>n - (intOf i).toNat)
 case atStart=>exact ⟨0,Nat.zero_le _,rfl,hown1,hb1⟩
 case round =>
  obtain ⟨k,hk,rfl,hh,hb⟩:=hrel;clear hown1 hb1;by_cases hlt:k < n
  ·obtain ⟨x,b,off,hx,rfl,ca0,ca1,ca2,ca3,ca4,ca5,ca6,ca7,ca8,ca9,ca10⟩:=br_at (hl.below hb) k hlt;obtain ⟨ys,rfl,hyd,hyo,hyi⟩:=hh;have hrep:List.replicate (n - ys.length) BV.zero=BV.zero::List.replicate (n - (ys.length+1)) BV.zero:=by rw [← List.replicate_succ]; congr 1; omega
   rw [hrep] at hyo;have hmem:=List.mem_of_getElem? hx;obtain ⟨m1,m2,m3,m4⟩:=hm x hmem;have hrx:=(hr x hmem).below hb;have HX:=hide hx;have HB:=hide hb;have HYD:=hide hyd;have HYO:=hide hyo;have HYI:=hide hyi;clear hx hb hyd hyo hyi hrep;(go_wp2_with fail);refine (zbb x.a x.n x.c x.fa x.fn x.fc x.ra x.rn x.rc x.oa x.on x.oc x.B _ hrx m1 m2 m3 m4).mono ?_;rintro e w2 ⟨a2,c2,fa2,fc2,ra2,rc2,oa2,oc2,rfl,ow2,hb2⟩;generalize hy:(⟨a2,x.n,c2,fa2,x.fn,fc2,ra2,x.rn,rc2,oa2,x.on,oc2,x.B⟩:BV)=y;have ho2:=zn HYO.out hb2;have hz:(ys++BV.zero::List.replicate (n - (ys.length+1)) BV.zero)[ys.length]?=some BV.zero:=by simp
   obtain ⟨⟨t0,t1,t2,t3,t4,t5,t6,t7,t8,t9,t10⟩,f0,f1,f2,f3,f4,f5,f6,f7,f8,f9,f10⟩:=zP ho2 hz;have hyb:y.B=x.B:=by rw [← hy]
   have o3:=zbR (y:=y) ho2;have g3:=zbv (w:=w2) (g:=w.heap.size) (j:=ys.length*11) (y:=y);obtain ⟨cs,hblk⟩:=zc2 ho2;have ow':y.Own w2 w.heap.size:=by rw [← hy]; exact ow2.lt HB.out.size
   have hb3:=zc HB.out hb2;have i3:∀W,w2.grownBy W (some w.heap.size)→∀z∈ys++[y],z.Own W w.heap.size:=by
    intro W hgW z hz;refine BV.Own.other (T:=98) ?_ hblk (by decide) (by decide) (by decide) (by decide) hgW;rcases List.mem_append.1 hz with hz | hz
    ·exact (HYI.out z hz).below hb2
    ·rw [List.mem_singleton.1 hz]; exact ow'
   have i3:=i3 _ g3;have hb4:=hb3.grown g3 hb3.size (by intro j e; cases e; exact Nat.le_refl _);rw [← hy] at o3 i3 hb4;have HI:=hide i3;have HO3:=hide o3;have HB3:=hide hb4;clear ho2 hb2 hb3 hb4 o3 hz g3 hblk ow2 ow' i3 hy ca0 ca1 ca2 ca3 ca4 ca5 ca6 ca7 ca8 ca9 ca10 HYO HYI HB;go_wp2
   go_roundw
   case rel =>
    refine ⟨ys.length+1,by omega,by go_num,⟨ys++[⟨a2,x.n,c2,fa2,x.fn,fc2,ra2,x.rn,rc2,oa2,x.on,oc2,x.B⟩],by simp, ?_,by rw [List.append_assoc]; exact HO3.out,HI.out⟩,HB3.out⟩;rw [List.map_append,HYD.out,List.take_add_one,HX.out]
    simp
   case measure=>simp [intOf]; omega
  ·have hkn:k=n:=by omega
   subst hkn;obtain ⟨ys,hyl,hyd,hyo,hyi⟩:=hh;rw [List.take_of_length_le (by omega)] at hyd;rw [Nat.sub_self,List.replicate_zero,List.append_nil] at hyo;have HYD:=hide hyd;have HO:=hide hyo;have HI:=hide hyi;have HB:=hide hb;clear hyd hyo hyi hb;go_wp2;go_ret;exact ⟨_,_,ys,rfl,HYD.out,HO.out,HI.out,HB.out⟩

theorem zbI (ao:Option Addr) (n c:Nat) (ao':Option Addr) (n' c':Nat) (l l':List BV) (w:World) (hl:GRow brF w ao n c l) (hl':GRow brF w ao' n' c' l') (hr:∀x∈l,x.Reads w) (hr':∀x∈l',x.Reads w) (he:l.map BV.B=l'.map BV.B) :
  Calls Try.prog 30 #[.slice ao n c,.slice ao' n' c'] w fun r w'=>r=.returned (.bool true)∧Below w.heap.size w w':=by
 have hs:=hl.size;have hs':=hl'.size;have htop:=Nat.le_trans hl.le hl.top;unfold maxLen at htop;have hlen:l.length=l'.length:=by have:=congrArg List.length he; simpa using this
 have hnn:n'=n:=by omega
 subst hnn;go_enter Try.func30,Try.ntmps30;go_wp2
 go_loopw [5] (fun i wr=>∃k:Nat,k≤n'∧i=.int .i64 k∧Below w.heap.size w wr) (fun i _=>n' - (intOf i).toNat)
 case atStart=>exact ⟨0,Nat.zero_le _,rfl,Below.refl _ _⟩
 case round =>
  obtain ⟨k,hk,rfl,hb⟩:=hrel;by_cases hlt:k < n'
  ·obtain ⟨x,b,off,hx,rfl,-⟩:=br_at (hl.below hb) k hlt;obtain ⟨y,b',off',hy,rfl,-⟩:=br_at (hl'.below hb) k hlt;have hBB:x.B=y.B:=by
    have h1:(l.map BV.B)[k]?=some x.B:=by rw [List.getElem?_map,hx]; rfl
    have h2:(l'.map BV.B)[k]?=some y.B:=by rw [List.getElem?_map,hy]; rfl
    rw [he,h2] at h1;exact (Option.some.inj h1).symm
   have HS:Hid (∀W,Below wr.heap.size wr W→(W.cell? ⟨b,off+k*11,none⟩=some (.int .i64 x.B.id)∧W.cell? ⟨b,off+k*11+1,none⟩=some (.string x.B.name)∧W.cell? ⟨b,off+k*11+2,none⟩=some (.slice x.a x.n x.c)∧W.cell? ⟨b,off+k*11+3,none⟩=some (.slice x.fa x.fn x.fc)∧W.cell? ⟨b,off+k*11+4,none⟩=some (.slice x.ra x.rn x.rc)∧W.cell? ⟨b,off+k*11+5,none⟩=some (.slice x.oa x.on x.oc)∧W.cell? ⟨b,off+k*11+6,none⟩=some (.int .i64 x.B.ticks)∧W.cell? ⟨b,off+k*11+7,none⟩=some (.int .i64 x.B.parse)∧W.cell? ⟨b,off+k*11+8,none⟩=some (.int .i64 x.B.word)∧W.cell? ⟨b,off+k*11+9,none⟩=some (.int .i64 x.B.drops)∧W.cell? ⟨b,off+k*11+10,none⟩=some (.int .i64 x.B.vers))∧(W.cell? ⟨b',off'+k*11,none⟩=some (.int .i64 x.B.id)∧W.cell? ⟨b',off'+k*11+1,none⟩=some (.string x.B.name)∧W.cell? ⟨b',off'+k*11+2,none⟩=some (.slice y.a y.n y.c)∧W.cell? ⟨b',off'+k*11+3,none⟩=some (.slice y.fa y.fn y.fc)∧W.cell? ⟨b',off'+k*11+4,none⟩=some (.slice y.ra y.rn y.rc)∧W.cell? ⟨b',off'+k*11+5,none⟩=some (.slice y.oa y.on y.oc)∧W.cell? ⟨b',off'+k*11+6,none⟩=some (.int .i64 x.B.ticks)∧W.cell? ⟨b',off'+k*11+7,none⟩=some (.int .i64 x.B.parse)∧W.cell? ⟨b',off'+k*11+8,none⟩=some (.int .i64 x.B.word)∧W.cell? ⟨b',off'+k*11+9,none⟩=some (.int .i64 x.B.drops)∧W.cell? ⟨b',off'+k*11+10,none⟩=some (.int .i64 x.B.vers))):=hide (fun W h=>⟨zx (hl.below hb) h hx,by have:=zx (hl'.below hb) h hy; rw [← hBB] at this; exact this⟩);have HX:=hide (hr x (List.mem_of_getElem? hx));have HY:Hid (BrRow w y.a y.n y.c y.fa y.fn y.fc y.ra y.rn y.rc y.oa y.on y.oc x.B):=hide (by rw [hBB]; exact hr' y (List.mem_of_getElem? hy));have vv:Below wr.heap.size wr wr.drew:=zC (Below.refl _ _);have i1:(0:Int)≤(k:Int):=by omega
   have i2:(k:Int) < (n':Int):=by omega
   have HB:=hide hb;clear hb hx hy hBB he;(go_wp2_with fail);refine wp_region_held_drew (S:=(fun W=>(W.cell? ⟨b,off+k*11,none⟩=some (.int .i64 x.B.id)∧W.cell? ⟨b,off+k*11+1,none⟩=some (.string x.B.name)∧W.cell? ⟨b,off+k*11+2,none⟩=some (.slice x.a x.n x.c)∧W.cell? ⟨b,off+k*11+3,none⟩=some (.slice x.fa x.fn x.fc)∧W.cell? ⟨b,off+k*11+4,none⟩=some (.slice x.ra x.rn x.rc)∧W.cell? ⟨b,off+k*11+5,none⟩=some (.slice x.oa x.on x.oc)∧W.cell? ⟨b,off+k*11+6,none⟩=some (.int .i64 x.B.ticks)∧W.cell? ⟨b,off+k*11+7,none⟩=some (.int .i64 x.B.parse)∧W.cell? ⟨b,off+k*11+8,none⟩=some (.int .i64 x.B.word)∧W.cell? ⟨b,off+k*11+9,none⟩=some (.int .i64 x.B.drops)∧W.cell? ⟨b,off+k*11+10,none⟩=some (.int .i64 x.B.vers))∧(W.cell? ⟨b',off'+k*11,none⟩=some (.int .i64 x.B.id)∧W.cell? ⟨b',off'+k*11+1,none⟩=some (.string x.B.name)∧W.cell? ⟨b',off'+k*11+2,none⟩=some (.slice y.a y.n y.c)∧W.cell? ⟨b',off'+k*11+3,none⟩=some (.slice y.fa y.fn y.fc)∧W.cell? ⟨b',off'+k*11+4,none⟩=some (.slice y.ra y.rn y.rc)∧W.cell? ⟨b',off'+k*11+5,none⟩=some (.slice y.oa y.on y.oc)∧W.cell? ⟨b',off'+k*11+6,none⟩=some (.int .i64 x.B.ticks)∧W.cell? ⟨b',off'+k*11+7,none⟩=some (.int .i64 x.B.parse)∧W.cell? ⟨b',off'+k*11+8,none⟩=some (.int .i64 x.B.word)∧W.cell? ⟨b',off'+k*11+9,none⟩=some (.int .i64 x.B.drops)∧W.cell? ⟨b',off'+k*11+10,none⟩=some (.int .i64 x.B.vers)))) (by kernel_rfl) (HS.out _ vv) (fun hHeld => ?_);refine kK 0 ⟨some 17,.move (.tmp 0),29,"exact.go:1100",#[],none⟩ ?_;refine kK 1 ⟨some 18,.move (.tmp 5),3,"exact.go:1100",#[],none⟩ ?_;refine kK 2 ⟨some 19,.indexAddr 29 (.tmp 17) (.tmp 18),0,"exact.go:1100",#[⟨0,.data⟩,⟨1,.data⟩],none⟩ ?_;refine kK 3 ⟨some 20,.load 98 (.tmp 19),98,"exact.go:1100",#[⟨2,.data⟩],none⟩ ?_;refine kK 4 ⟨some 21,.move (.tmp 1),29,"exact.go:1100",#[],none⟩ ?_;refine kK 5 ⟨some 22,.move (.tmp 5),3,"exact.go:1100",#[],none⟩ ?_;refine kK 6 ⟨some 23,.indexAddr 29 (.tmp 21) (.tmp 22),0,"exact.go:1100",#[⟨4,.data⟩,⟨5,.data⟩],none⟩ ?_;refine kK 7 ⟨some 24,.load 98 (.tmp 23),98,"exact.go:1100",#[⟨6,.data⟩],none⟩ ?_;refine kR 8 ⟨some 25,.call ⟨.value (.func 57),#[.tmp 20,.tmp 24],#[98,98]⟩,4,"exact.go:1100",#[⟨3,.data⟩,⟨7,.data⟩],none⟩ (fun K hK => ?_);go_simp;refine (zcg x.a x.n x.c x.fa x.fn x.fc x.ra x.rn x.rc x.oa x.on x.oc y.a y.n y.c y.fa y.fn y.fc y.ra y.rn y.rc y.oa y.on y.oc x.B _ (HX.out.below (zc HB.out vv)) (HY.out.below (zc HB.out vv))).mono ?_;rintro r wz ⟨rfl,hbz⟩;have vv:=zc vv hbz;(go_wp2_with fail);refine hK.out _ _ (HS.out _ vv) (fun hHeld => ?_);clear hK K;(try simp only [Act.put,lA,lB,lC]);refine kK 9 ⟨some 26,.unOp .not 4 (.tmp 25),4,"exact.go:1100",#[⟨8,.data⟩],none⟩ ?_;refine wpAnyH_done (by kernel_rfl) ?_ _;have b1:=zc HB.out vv;clear HS hHeld vv;go_wp2
   go_roundw
   case rel=>exact ⟨k+1,by omega,by go_num,b1⟩
   case measure=>simp [intOf]; omega
  ·have hk':k=n':=by omega
   subst hk';go_wp2;go_ret;exact ⟨rfl,hb⟩

def zE (l:List BV):Int:=(l.map fun x=>sizeB x.B).sum
def sizeN (N:NV):Int:=(N.bn:Int)+zE N.bs+N.ln+N.sn

theorem zeR (B:BR):0≤sizeB B:=by unfold sizeB; omega
theorem zb7 (l l':List BV):zE (l++l')=zE l+zE l':=by unfold zE; rw [List.map_append,List.sum_append]
theorem zav (l:List BV):0≤zE l:=by
 induction l with
 | nil=>simp [zE]
 | cons x l ih=>have:=zeR x.B; unfold zE at ih ⊢; rw [List.map_cons,List.sum_cons]; omega
theorem zb8 {l:List BV} {k:Nat} {x:BV} (h:l[k]?=some x):zE (l.take (k+1))=zE (l.take k)+sizeB x.B∧zE (l.take (k+1))≤zE l:=by
 have e:l.take (k+1)=l.take k++[x]:=by rw [List.take_add_one,h]; rfl
 have h1:zE (l.take (k+1))=zE (l.take k)+sizeB x.B:=by rw [e,zb7]; simp [zE]
 refine ⟨h1, ?_⟩;have h2:=zb7 (l.take (k+1)) (l.drop (k+1));rw [List.take_append_drop] at h2
 have:=zav (l.drop (k+1))
 omega
theorem zei {l:List BV} {x:BV} (h:x∈l):sizeB x.B≤zE l:=by
 obtain ⟨k,hk⟩:=List.getElem?_of_mem h;have h1:=zb8 hk
 have:=zav (l.take k)
 omega

theorem zcD (ao:Option Addr) (n c:Nat) (l:List BV) (L:Int) (w:World) (hl:GRow brF w ao n c l) (hr:∀x∈l,x.Reads w) (hR:∀x∈l,x.B.Rng) (h0:0≤L) (h1:L≤1048576) :
  Calls Try.prog 20 #[.slice ao n c,.int .i64 L] w fun r w'=>r=.returned (.int .i64 (if (n:Int)+zE l≤L then L - ((n:Int)+zE l) else -1))∧Below w.heap.size w w':=by
 have htop:=Nat.le_trans hl.le hl.top;unfold maxLen at htop;have hsl:=hl.size;have hp:=zav l;generalize hG:(if (n:Int)+zE l≤L then L - ((n:Int)+zE l) else -1)=G;have HG0:=hide hG;clear hG;by_cases hn:¬(n:Int)≤L
 ·have hlt:L - (n:Int) < 0:=by omega
  have HG:Hid (G = -1):=hide (by rw [← HG0.out]; exact if_neg (by omega));go_enter Try.func20,Try.ntmps20;go_wp2;go_ret;exact ⟨by rw [HG.out]; rfl,Below.refl _ _⟩
 have hge:¬(L - (n:Int) < 0):=by omega
 go_enter Try.func20,Try.ntmps20;go_wp2
 go_loopw [1,5] (fun m i wr=>∃k:Nat,k≤n∧i=.int .i64 k∧m=.int .i64 (L - (n:Int) - zE (l.take k))∧0≤L - (n:Int) - zE (l.take k)∧Below w.heap.size w wr) (fun _ i _=>n - (intOf i).toNat)
 case atStart=>exact ⟨0,Nat.zero_le _,rfl,by simp [zE],by simp [zE]; omega,Below.refl _ _⟩
 case round =>
  obtain ⟨k,hk,rfl,rfl,hge',hb⟩:=hrel;by_cases hlt:k < n
  ·obtain ⟨x,b,off,hx,rfl,ca0,ca1,ca2,ca3,ca4,ca5,ca6,ca7,ca8,ca9,ca10⟩:=br_at (hl.below hb) k hlt;have hmem:=List.mem_of_getElem? hx;obtain ⟨e1,e2⟩:=zb8 hx;have hp1:=zav (l.take k);have HX:=hide hx;have HB:=hide hb;have HE:=hide e1;have hrx:=(hr x hmem).below hb;clear hx hb;generalize hM:L - (n:Int) - zE (l.take k)=M at *;have m1:M≤1048576:=by omega
   (go_wp2_with fail);refine (zcC M hge' m1 x.a x.n x.c x.fa x.fn x.fc x.ra x.rn x.rc x.oa x.on x.oc x.B _ hrx (hR x hmem).name).mono ?_;rintro e w2 ⟨rfl,hb2⟩;have hb3:=zc HB.out hb2;by_cases hle:sizeB x.B≤M
   ·rw [if_pos hle];have j1:¬(M - sizeB x.B < 0):=by omega
    have HB3:=hide hb3;have HM:Hid (L - (n:Int) - zE (l.take (k+1))=M - sizeB x.B):=hide (by omega);clear hb3 hb2 ca0 ca1 ca2 ca3 ca4 ca5 ca6 ca7 ca8 ca9 ca10;generalize hS:sizeB x.B=S at *;go_wp2
    go_roundw
    case rel=>exact ⟨k+1,by omega,by go_num,by rw [HM.out],by rw [HM.out]; omega,HB3.out⟩
    case measure=>simp [intOf]; omega
   ·rw [if_neg hle];have HG:Hid (G = -1):=hide (by rw [← HG0.out]; exact if_neg (by omega));have HB3:=hide hb3;clear hb3 hb2 ca0 ca1 ca2 ca3 ca4 ca5 ca6 ca7 ca8 ca9 ca10;go_wp2;go_ret;exact ⟨by rw [HG.out]; rfl,HB3.out⟩
  ·have hkn:k=n:=by omega
   subst hkn;rw [List.take_of_length_le (by omega)] at hge' ⊢;have HG:Hid (G=L - (k:Int) - zE l):=hide (by rw [← HG0.out,if_pos (by omega)]; omega);go_wp2;go_ret;exact ⟨by rw [HG.out]; rfl,hb⟩

theorem zu {w:World} {g:Nat} {T:TypeId} {c0 c1 c2:Value} (h:w.heap[g]?=some (.cells #[c0,c1,c2] T)):w.cell? ⟨g,0,none⟩=some c0∧w.cell? ⟨g,1,none⟩=some c1∧w.cell? ⟨g,2,none⟩=some c2:=by
 simp [World.cell?,h]

theorem zba (N:NV) (L:Int) (w:World) (h:zJ w N) (hR:N.Rng) (h0:0≤L) (h1:L≤1048576) :
  Calls Try.prog 6 #[.agg #[.slice N.ba N.bn N.bc,.slice N.la N.ln N.lc,.slice N.sa N.sn N.sc],.int .i64 L] w fun r w'=>r=.returned (.int .i64 (if sizeN N≤L then L - sizeN N else -1))∧Below w.heap.size w w':=by
 have n1:=Nat.le_trans h.b.le h.b.top;have n2:=Nat.le_trans h.l.le h.l.top;have n3:=Nat.le_trans h.s.le h.s.top;have hp:=zav N.bs;generalize hG:(if sizeN N≤L then L - sizeN N else -1)=G;have HG0:=hide hG;clear hG;generalize hw1:w.alloc (Obj.cells #[.slice N.ba N.bn N.bc,.slice N.la N.ln N.lc,.slice N.sa N.sn N.sc] 26)=w1;have b01:=zb hw1;have k1:=zk hw1;obtain ⟨x0,x1,x2⟩:=zu k1;go_enter Try.func6,Try.ntmps6;go_wp2_with fail
 refine (zcD N.ba N.bn N.bc N.bs L _ (h.b.below b01) (fun x hx=>(h.item x hx).below b01) hR.b h0 h1).mono ?_;rintro e w2 ⟨rfl,hb2⟩;have b02:=zc b01 hb2;have k2:=za k1 hb2;clear x0 x1 x2 hb2;obtain ⟨x0,x1,x2⟩:=zu k2;by_cases q1:(N.bn:Int)+zE N.bs≤L
 ·rw [if_pos q1];have j1:¬(L - ((N.bn:Int)+zE N.bs) < 0):=by omega
  (go_wp2_with fail);refine (zdE N.la N.ln N.lc (L - ((N.bn:Int)+zE N.bs)) _ n2 (by omega) (by omega)).mono ?_;rintro e w3 ⟨rfl,rfl⟩;by_cases q2:(N.ln:Int)≤L - ((N.bn:Int)+zE N.bs)
  ·rw [if_pos q2];have j2:¬(L - ((N.bn:Int)+zE N.bs) - (N.ln:Int) < 0):=by omega
   (go_wp2_with fail);refine (zek N.sa N.sn N.sc (L - ((N.bn:Int)+zE N.bs) - (N.ln:Int)) _ n3 (by omega) (by omega)).mono ?_;rintro e w4 ⟨rfl,rfl⟩;by_cases q3:(N.sn:Int)≤L - ((N.bn:Int)+zE N.bs) - (N.ln:Int)
   ·rw [if_pos q3];have j3:¬(L - ((N.bn:Int)+zE N.bs) - (N.ln:Int) - (N.sn:Int) < 0):=by omega
    have HG:Hid (G=L - ((N.bn:Int)+zE N.bs) - (N.ln:Int) - (N.sn:Int)):=hide (by rw [← HG0.out]; unfold sizeN; rw [if_pos (by omega)]; omega);go_wp2;go_ret;exact ⟨by rw [HG.out]; rfl,b02⟩
   ·rw [if_neg q3];have HG:Hid (G = -1):=hide (by rw [← HG0.out]; unfold sizeN; rw [if_neg (by omega)]);go_wp2;go_ret;exact ⟨by rw [HG.out]; rfl,b02⟩
  ·rw [if_neg q2];have HG:Hid (G = -1):=hide (by rw [← HG0.out]; unfold sizeN; rw [if_neg (by omega)]);go_wp2;go_ret;exact ⟨by rw [HG.out]; rfl,b02⟩
 ·rw [if_neg q1];have HG:Hid (G = -1):=hide (by rw [← HG0.out]; unfold sizeN; rw [if_neg (by omega)]);go_wp2;go_ret;exact ⟨by rw [HG.out]; rfl,b02⟩

theorem zar {N:NV} {w:World} (h:zJ w N) (hs:sizeN N≤1048576):N.bn≤1048576∧N.ln≤1048576∧N.sn≤1048576∧∀x∈N.bs,x.Small:=by
 have hp:=zav N.bs;unfold sizeN at hs;refine ⟨by omega,by omega,by omega,fun x hx => ?_⟩;have h1:=zei hx;have r:=h.item x hx;unfold sizeB at h1;rw [r.ports.size,r.f.size,r.v.rows.size,r.v.own.size] at h1;exact ⟨by omega,by omega,by omega,by omega⟩

structure NV.Same (N M:NV):Prop where
 b:N.bs.map BV.B=M.bs.map BV.B
 l:N.ls=M.ls
 s:N.ss=M.ss

theorem zbT (N M:NV) (w:World) (h:zJ w N) (h2:zJ w M) (he:N.Same M) :
  Calls Try.prog 10 #[.agg #[.slice N.ba N.bn N.bc,.slice N.la N.ln N.lc,.slice N.sa N.sn N.sc],.agg #[.slice M.ba M.bn M.bc,.slice M.la M.ln M.lc,.slice M.sa M.sn M.sc]] w fun r w'=>r=.returned (.bool true)∧Below w.heap.size w w':=by
 generalize hw1:w.alloc (Obj.cells #[.slice N.ba N.bn N.bc,.slice N.la N.ln N.lc,.slice N.sa N.sn N.sc] 33)=w1;generalize hw2:w1.alloc (Obj.cells #[.slice M.ba M.bn M.bc,.slice M.la M.ln M.lc,.slice M.sa M.sn M.sc] 33)=w2;have b01:=zb hw1;have b12:=zb hw2;have kNe:=za (zk hw1) b12;have kM:=zk hw2;have b02:=zc b01 b12;obtain ⟨x0,x1,x2⟩:=zu kNe;obtain ⟨y0,y1,y2⟩:=zu kM;go_enter Try.func10,Try.ntmps10;go_wp2_with fail
 refine (zbI N.ba N.bn N.bc M.ba M.bn M.bc N.bs M.bs _ (h.b.below b02) (h2.b.below b02) (fun x hx=>(h.item x hx).below b02) (fun x hx=>(h2.item x hx).below b02) he.b).mono ?_;rintro e w3 ⟨rfl,hb3⟩;have kNe:=za kNe hb3;have kM:=za kM hb3;have b03:=zc b02 hb3;clear x0 x1 x2 y0 y1 y2 hb3;obtain ⟨x0,x1,x2⟩:=zu kNe;obtain ⟨y0,y1,y2⟩:=zu kM;go_wp2_with fail
 refine (zcJ N.la N.ln N.lc M.la M.ln M.lc N.ls _ (h.l.below b03) (by rw [he.l]; exact h2.l.below b03)).mono ?_;rintro e w4 ⟨rfl,hb4⟩;have kNe:=za kNe hb4;have kM:=za kM hb4;have b04:=zc b03 hb4;clear x0 x1 x2 y0 y1 y2 hb4;obtain ⟨x0,x1,x2⟩:=zu kNe;obtain ⟨y0,y1,y2⟩:=zu kM;go_wp2_with fail
 refine (zdh N.sa N.sn N.sc M.sa M.sn M.sc N.ss _ (h.s.below b04) (by rw [he.s]; exact h2.s.below b04)).mono ?_;rintro e w5 ⟨rfl,hb5⟩;have HB:=hide (zc b04 hb5);clear x0 x1 x2 y0 y1 y2 hb5;go_wp2;go_ret;exact ⟨rfl,HB.out⟩

theorem zbf (N:NV) (w:World) (h:zJ w N) (hs:sizeN N≤1048576) :
  Calls Try.prog 8 #[.agg #[.slice N.ba N.bn N.bc,.slice N.la N.ln N.lc,.slice N.sa N.sn N.sc]] w fun r w'=>∃M:NV,r=.returned (.agg #[.slice M.ba M.bn M.bc,.slice M.la M.ln M.lc,.slice M.sa M.sn M.sc])∧zJ w' M∧M.Same N∧sizeN M=sizeN N∧Below w.heap.size w w':=by
 obtain ⟨z1,z2,z3,z4⟩:=zar h hs;go_enter Try.func8,Try.ntmps8;go_wp2_with fail
 refine (zbP N.ba N.bn N.bc N.bs _ (h.b.below (zy _ _ _ _)) (fun x hx=>(h.item x hx).below (zy _ _ _ _)) z1 z4).mono ?_;rintro e w1 ⟨ba,bc,bs,rfl,hB,oB,iB,hb⟩;obtain ⟨k0,k1,k2⟩:=zV hb;have b1:Below w.heap.size w w1:=zc (zy w _ _ _) hb;obtain ⟨x0,x1,x2⟩:=zu k0;obtain ⟨y0,y1,y2⟩:=zu k2;have f0:=zh k2 0;have b2:=ze b1 (g:=w.heap.size+1+1) (by omega) 0 (.slice ba N.bn bc);have n1:=hb.size
 simp at n1
 have oB2:=zq (zaf oB (base':=w.heap.size+3) (by simp)) (zd (rb:=w.heap.size+1+1) 0 (.slice ba N.bn bc)) (by intro b e; cases e; omega);have iB2:∀y∈bs,y.Own _ (w.heap.size+3):=fun y hy=>((iB y hy).lt (base':=w.heap.size+3) (by simp)).apart (zd (rb:=w.heap.size+1+1) 0 (.slice ba N.bn bc)) (by intro b e; cases e; omega)
 have k0':=zM (b:=w.heap.size+1+1) (j:=0) (u:=.slice ba N.bn bc) k0 (by omega);have k1':=zM (b:=w.heap.size+1+1) (j:=0) (u:=.slice ba N.bn bc) k1 (by omega);have k2':=zj (j:=0) k2 (.slice ba N.bn bc);clear oB iB hb k0 k1 k2;generalize hwA:w1.setCell ⟨w.heap.size+1+1,0,none⟩ (.slice ba N.bn bc)=wA at b2 oB2 iB2 k0' k1' k2';clear x0 x1 x2;obtain ⟨x0,x1,x2⟩:=zu k0';go_wp2_with fail
 refine (zbk N.la N.ln N.lc N.ls _ (h.l.below b2) z2).mono ?_;rintro e w3 ⟨la,lc,rfl,oL,hb3⟩;have k0:=za k0' hb3;have k1:=za k1' hb3;have k2:w3.heap[w.heap.size+1+1]?=some (.cells #[.slice ba N.bn bc,.slice none 0 0,.slice none 0 0] 33):=za k2' hb3;have b3:=zc b2 hb3;have n3:=b2.size;have n3':w.heap.size+3≤wA.heap.size:=by rw [← hwA]; simpa using n1
 have n3'':=Nat.le_trans n3' hb3.size;have oB3:=zn oB2 hb3;have iB3:∀y∈bs,y.Own _ (w.heap.size+3):=fun y hy=>(iB2 y hy).below hb3
 have oL3:=zaf oL n3';clear hb3 k0' k1' k2' oB2 iB2 oL x0 x1 x2 y0 y1 y2 f0 hwA;obtain ⟨y0,y1,y2⟩:=zu k2;have f1:=zh k2 1;have b4:=ze b3 (g:=w.heap.size+1+1) (by omega) 1 (.slice la N.ln lc);have oB4:=zq oB3 (zd (rb:=w.heap.size+1+1) 1 (.slice la N.ln lc)) (by intro b e; cases e; omega);have oL4:=zq oL3 (zd (rb:=w.heap.size+1+1) 1 (.slice la N.ln lc)) (by intro b e; cases e; omega);have iB4:∀y∈bs,y.Own _ (w.heap.size+3):=fun y hy=>(iB3 y hy).apart (zd (rb:=w.heap.size+1+1) 1 (.slice la N.ln lc)) (by intro b e; cases e; omega)
 have k0':=zM (b:=w.heap.size+1+1) (j:=1) (u:=.slice la N.ln lc) k0 (by omega);have k1':=zM (b:=w.heap.size+1+1) (j:=1) (u:=.slice la N.ln lc) k1 (by omega);have k2':=zj (j:=1) k2 (.slice la N.ln lc);have n4:w.heap.size+3≤(w3.setCell ⟨w.heap.size+1+1,1,none⟩ (.slice la N.ln lc)).heap.size:=by simpa using n3''
 clear oB3 iB3 oL3 k0 k1 k2;generalize hwB:w3.setCell ⟨w.heap.size+1+1,1,none⟩ (.slice la N.ln lc)=wB at b4 oB4 oL4 iB4 k0' k1' k2' n4;obtain ⟨x0,x1,x2⟩:=zu k0';go_wp2_with fail
 refine (zbH N.sa N.sn N.sc N.ss _ (h.s.below b4) z3).mono ?_;rintro e w5 ⟨sa,sc,rfl,oS,hb5⟩;have k1:=za k1' hb5;have k2:w5.heap[w.heap.size+1+1]?=some (.cells #[.slice ba N.bn bc,.slice la N.ln lc,.slice none 0 0] 33):=za k2' hb5;have b5:=zc b4 hb5;have oB5:=zn oB4 hb5;have oL5:=zn oL4 hb5;have oS5:=zaf oS n4;have iB5:∀y∈bs,y.Own _ (w.heap.size+3):=fun y hy=>(iB4 y hy).below hb5
 clear hb5 k0' k1' k2' oB4 oL4 iB4 oS x0 x1 x2 y0 y1 y2 f1 hwB;obtain ⟨y0,y1,y2⟩:=zu k2;obtain ⟨u0,u1,u2⟩:=zu k1;have f2:=zh k2 2;have g0:=zh k1 0;have g1:=zh k1 1;have g2:=zh k1 2;have ne1:¬w.heap.size+1=w.heap.size+1+1:=by omega
 have ne2:¬w.heap.size+1+1=w.heap.size+1:=by omega
 have hst:∀W,w5.grownBy W (some (w.heap.size+1+1))→∀W',W.grownBy W' (some (w.heap.size+1))→zJ W' ⟨ba,N.bn,bc,bs,la,N.ln,lc,N.ls,sa,N.sn,sc,N.ss⟩:=by
  intro W hg W' hg';have l1:∀b,some (w.heap.size+1+1)=some b→b < w.heap.size+3:=by intro b e; cases e; omega
  have l2:∀b,some (w.heap.size+1)=some b→b < w.heap.size+3:=by intro b e; cases e; omega
  exact ⟨zG (F:=brF) (zq (zq oB5 hg l1) hg' l2),fun y hy=>(((iB5 y hy).apart hg l1).apart hg' l2).row,zG (F:=linkF) (zq (zq oL5 hg l1) hg' l2),zG (F:=sayF) (zq (zq oS5 hg l1) hg' l2)⟩
 have HN:=hide (hst _ (zd (rb:=w.heap.size+1+1) 2 (.slice sa N.sn sc)) _ (zi (zi (zd (rb:=w.heap.size+1) 0 (.slice ba N.bn bc)) (zd (rb:=w.heap.size+1) 1 (.slice la N.ln lc))) (zd (rb:=w.heap.size+1) 2 (.slice sa N.sn sc))));have HB:=hide (ze (ze (ze (ze b5 (g:=w.heap.size+1+1) (by omega) 2 (.slice sa N.sn sc)) (g:=w.heap.size+1) (by omega) 0 (.slice ba N.bn bc)) (g:=w.heap.size+1) (by omega) 1 (.slice la N.ln lc)) (g:=w.heap.size+1) (by omega) 2 (.slice sa N.sn sc));have HBB:=hide hB;clear hst k1 k2 oB5 oL5 oS5 iB5 b5 b4 b3 b2 b1 hB n1 n3 n3' n3'' n4;go_wp2;refine bodyPost_ret (v:=.agg #[.slice ba N.bn bc,.slice la N.ln lc,.slice sa N.sn sc]) (by simp [results,Try.results8,go_sem, *]) rfl ⟨⟨ba,N.bn,bc,bs,la,N.ln,lc,N.ls,sa,N.sn,sc,N.ss⟩,rfl,HN.out,⟨HBB.out,rfl,rfl⟩, ?_,HB.out⟩;have e:=HBB.out;unfold sizeN zE
 have:(bs.map fun x=>sizeB x.B)=(N.bs.map fun x=>sizeB x.B):=by
  have:=congrArg (List.map sizeB) e
  rw [List.map_map,List.map_map] at this;exact this
 simp only [this]

theorem zeO (N:NV) (k i:Nat) (x:LK) (y:BV) (w:World) (h:zJ w N) (hx:N.ls[k]?=some x) (hy0:N.bs[i]?=some y) (hi:x.a=(i:Int)) :
  Calls Try.prog 49 #[.agg #[.slice N.ba N.bn N.bc,.slice N.la N.ln N.lc,.slice N.sa N.sn N.sc],.int .i64 (k:Int),.bool false] w fun e w'=>e=.returned (.agg #[.int .i64 (sayV y.B.id y.B.ports x.p).r,.int .i64 (sayV y.B.id y.B.ports x.p).c,.int .i64 (sayV y.B.id y.B.ports x.p).h,.int .i64 (sayV y.B.id y.B.ports x.p).b,.int .i64 (sayV y.B.id y.B.ports x.p).p])∧Below w.heap.size w w':=by
 have hk:k < N.ln:=by have:=(List.getElem?_eq_some_iff.1 hx).1; have:=h.l.size; omega
 have hib:i < N.bn:=by have:=(List.getElem?_eq_some_iff.1 hy0).1; have:=h.b.size; omega
 generalize hw1:w.alloc (Obj.cells #[.slice N.ba N.bn N.bc,.slice N.la N.ln N.lc,.slice N.sa N.sn N.sc] 33)=w1;generalize hw2:w1.alloc (Obj.cells #[.int .i64 0,.int .i64 0,.int .i64 0,.int .i64 0,.int .i64 0] 89)=w2;have b01:=zb hw1;have b12:=zb hw2;have b02:=zc b01 b12;have kP:=za (zk hw1) b12;have kJ:=zk hw2;have HZ1:Hid (w1.heap.size=w.heap.size+1):=hide (by rw [← hw1]; simp);have HZ2:Hid (w2.heap.size=w.heap.size+2):=hide (by rw [← hw2,← hw1]; simp);obtain ⟨x',lb,lo,hx',hla,a0,a1,a2,a3⟩:=zak (h.l.below b02) k hk;rw [hx] at hx';cases hx';obtain ⟨y',bb,off,hy',hba,-⟩:=br_at h.b i hib;rw [hy0] at hy';cases hy';have hy:=h.item y (List.mem_of_getElem? hy0);have hG:GRow brF w (some ⟨bb,off,none⟩) N.bn N.bc N.bs:=by rw [← hba]; exact h.b
 have HBC:Hid (∀W,Below w.heap.size w W→W.cell? ⟨bb,off+i*11,none⟩=some (.int .i64 y.B.id)∧W.cell? ⟨bb,off+i*11+2,none⟩=some (.slice y.a y.n y.c)):=hide (fun W hW=>by have:=zx hG hW hy0; exact ⟨this.1,this.2.2.1⟩);have HBA:=hide hba;obtain ⟨x0,x1,x2⟩:=zl kP;rw [hla] at x1;have i1:(0:Int)≤(k:Int):=by omega
 have i2:(k:Int) < (N.ln:Int):=by omega
 have i3:(0:Int)≤(i:Int):=by omega
 have i4:(i:Int) < (N.bn:Int):=by omega
 clear hla hba hx hy0 hG;go_enter Try.func49,Try.ntmps49;obtain ⟨xa,xp,xb,xq⟩:=x;dsimp only at hi a0 a1 a2 a3 ⊢;subst hi;go_upto_region 4 with fail
 generalize hw3:w2.alloc (Obj.cells #[.int .i64 (i:Int),.int .i64 xp,.int .i64 xb,.int .i64 xq] 57)=w3;have b23:=zb hw3;have kL:=zk hw3;have kP:=za kP b23;have kJ:=za kJ b23;have b3:=zc b02 b23;have vv:Below w3.heap.size w3 w3.drew:=zC (Below.refl _ _);clear hw3 b23 x0 x1 x2 a0 a1 a2 a3;refine wp_region_held_drew (S:=(fun W=>(W.cell? ⟨w.heap.size,0,none⟩=some (.slice (some ⟨bb,off,none⟩) N.bn N.bc)∧W.cell? ⟨w.heap.size,1,none⟩=some (.slice N.la N.ln N.lc)∧W.cell? ⟨w.heap.size,2,none⟩=some (.slice N.sa N.sn N.sc))∧(W.cell? ⟨w2.heap.size,0,none⟩=some (.int .i64 (i:Int))∧W.cell? ⟨w2.heap.size,1,none⟩=some (.int .i64 xp)∧W.cell? ⟨w2.heap.size,2,none⟩=some (.int .i64 xb)∧W.cell? ⟨w2.heap.size,3,none⟩=some (.int .i64 xq))∧(W.cell? ⟨bb,off+i*11,none⟩=some (.int .i64 y.B.id)∧W.cell? ⟨bb,off+i*11+2,none⟩=some (.slice y.a y.n y.c)))) (by kernel_rfl) (⟨by have:=zl (za kP vv); rw [HBA.out] at this; exact this,zz (za kL vv),(HBC.out _ (zc b3 vv)).1,(HBC.out _ (zc b3 vv)).2⟩) (fun hHeld => ?_);refine kK 0 ⟨some 31,.fieldAddr 33 (.tmp 3) 0,0,"l14_step.go:11",#[],none⟩ ?_;refine kK 1 ⟨some 32,.load 29 (.tmp 31),29,"l14_step.go:11",#[⟨0,.data⟩],none⟩ ?_;refine kK 2 ⟨some 33,.fieldAddr 57 (.tmp 7) 0,0,"l14_step.go:11",#[],none⟩ ?_;refine kK 3 ⟨some 34,.load 3 (.tmp 33),3,"l14_step.go:11",#[⟨2,.data⟩],none⟩ ?_;refine kK 4 ⟨some 35,.indexAddr 29 (.tmp 32) (.tmp 34),0,"l14_step.go:11",#[⟨1,.data⟩,⟨3,.data⟩],none⟩ ?_;refine kK 5 ⟨some 36,.fieldAddr 98 (.tmp 35) 0,0,"l14_step.go:11",#[⟨4,.data⟩],none⟩ ?_;refine kK 6 ⟨some 37,.load 3 (.tmp 36),3,"l14_step.go:11",#[⟨5,.data⟩],none⟩ ?_;refine kK 7 ⟨some 38,.fieldAddr 33 (.tmp 3) 0,0,"l14_step.go:11",#[],none⟩ ?_;refine kK 8 ⟨some 39,.load 29 (.tmp 38),29,"l14_step.go:11",#[⟨7,.data⟩],none⟩ ?_;refine kK 9 ⟨some 40,.fieldAddr 57 (.tmp 7) 0,0,"l14_step.go:11",#[],none⟩ ?_;refine kK 10 ⟨some 41,.load 3 (.tmp 40),3,"l14_step.go:11",#[⟨9,.data⟩],none⟩ ?_;refine kK 11 ⟨some 42,.indexAddr 29 (.tmp 39) (.tmp 41),0,"l14_step.go:11",#[⟨8,.data⟩,⟨10,.data⟩],none⟩ ?_;refine kK 12 ⟨some 43,.fieldAddr 98 (.tmp 42) 2,0,"l14_step.go:11",#[⟨11,.data⟩],none⟩ ?_;refine kK 13 ⟨some 44,.load 92 (.tmp 43),92,"l14_step.go:11",#[⟨12,.data⟩],none⟩ ?_;refine kK 14 ⟨some 45,.fieldAddr 57 (.tmp 7) 1,0,"l14_step.go:11",#[],none⟩ ?_;refine kK 15 ⟨some 46,.load 3 (.tmp 45),3,"l14_step.go:11",#[⟨14,.data⟩],none⟩ ?_;refine kR 16 ⟨some 47,.call ⟨.value (.func 78),#[.tmp 37,.tmp 44,.tmp 46],#[3,92,3]⟩,89,"l14_step.go:11",#[⟨6,.data⟩,⟨13,.data⟩,⟨15,.data⟩],none⟩ (fun K hK => ?_);go_simp;refine (zaq y.B.id y.a y.n y.c y.B.ports xp _ (hy.ports.below (zc b3 vv))).mono ?_;rintro e wz ⟨rfl,hbz⟩;have vv:=zc vv hbz;generalize hSV:sayV y.B.id y.B.ports xp=SV at *;go_wp2_with fail
 refine hK.out _ _ (⟨by have:=zl (za kP vv); rw [HBA.out] at this; exact this,zz (za kL vv),(HBC.out _ (zc b3 vv)).1,(HBC.out _ (zc b3 vv)).2⟩) (fun hHeld => ?_);clear hK K
 try simp only [Act.put,lA,lB,lC]
 refine kR 17 ⟨none,.store 89 (.tmp 6) (.tmp 47),0,"l14_step.go:11",#[⟨16,.data⟩,⟨16,.chain⟩,⟨0,.phase⟩,⟨1,.phase⟩,⟨2,.phase⟩,⟨3,.phase⟩,⟨4,.phase⟩,⟨5,.phase⟩,⟨6,.phase⟩,⟨7,.phase⟩,⟨8,.phase⟩,⟨9,.phase⟩,⟨10,.phase⟩,⟨11,.phase⟩,⟨12,.phase⟩,⟨13,.phase⟩,⟨14,.phase⟩,⟨15,.phase⟩,⟨16,.phase⟩],none⟩ (fun K hK => ?_);obtain ⟨xx0,xx1,xx2,xx3,xx4⟩:=(zt (za kJ vv)).1;have ff:=zh (za kJ vv);have ff0:=ff 0;have ff1:=ff 1;have ff2:=ff 2;have ff3:=ff 3;have ff4:=ff 4;clear ff;go_simp;refine zcS (K:=K _) (za kJ vv) _ _ _ _ _ (fun wq kQ hgq => ?_);have vq:=(zc b3 vv).grown hgq (zc b3 vv).size (by intro j e; cases e; have:=HZ1.out; omega);have kPq:=zg (za kP vv) hgq (by intro j e; cases e; have:=HZ1.out; omega);have kLq:=zg (za kL vv) hgq (by intro j e; cases e; have:=HZ1.out; have:=HZ2.out; omega);refine hK.out _ _ (⟨by have:=zl kPq; rw [HBA.out] at this; exact this,zz kLq,(HBC.out _ vq).1,(HBC.out _ vq).2⟩) (fun hHeld => ?_);clear hK K
 try simp only [Act.put,lA,lB,lC]
 refine wpAnyH_done (by kernel_rfl) ?_ _;have HB:=hide vq;have HQ:=hide kQ;obtain ⟨⟨r0,r1,r2,r3,r4⟩,-⟩:=zt kQ;clear hHeld kPq kLq vq kQ hgq;go_wp2;exact bodyPost_ret (v:=.agg #[.int .i64 SV.r,.int .i64 SV.c,.int .i64 SV.h,.int .i64 SV.b,.int .i64 SV.p]) (by simp [results,Try.results49,go_sem, *]) rfl ⟨by rw [hSV],HB.out⟩

theorem zeg (N:NV) (k i:Nat) (x:LK) (y:BV) (w:World) (h:zJ w N) (hx:N.ls[k]?=some x) (hy0:N.bs[i]?=some y) (hi:x.b=(i:Int)) :
  Calls Try.prog 49 #[.agg #[.slice N.ba N.bn N.bc,.slice N.la N.ln N.lc,.slice N.sa N.sn N.sc],.int .i64 (k:Int),.bool true] w fun e w'=>e=.returned (.agg #[.int .i64 (sayV y.B.id y.B.ports x.q).r,.int .i64 (sayV y.B.id y.B.ports x.q).c,.int .i64 (sayV y.B.id y.B.ports x.q).h,.int .i64 (sayV y.B.id y.B.ports x.q).b,.int .i64 (sayV y.B.id y.B.ports x.q).p])∧Below w.heap.size w w':=by
 have hk:k < N.ln:=by have:=(List.getElem?_eq_some_iff.1 hx).1; have:=h.l.size; omega
 have hib:i < N.bn:=by have:=(List.getElem?_eq_some_iff.1 hy0).1; have:=h.b.size; omega
 generalize hw1:w.alloc (Obj.cells #[.slice N.ba N.bn N.bc,.slice N.la N.ln N.lc,.slice N.sa N.sn N.sc] 33)=w1;generalize hw2:w1.alloc (Obj.cells #[.int .i64 0,.int .i64 0,.int .i64 0,.int .i64 0,.int .i64 0] 89)=w2;have b01:=zb hw1;have b12:=zb hw2;have b02:=zc b01 b12;have kP:=za (zk hw1) b12;have kJ:=zk hw2;have HZ1:Hid (w1.heap.size=w.heap.size+1):=hide (by rw [← hw1]; simp);have HZ2:Hid (w2.heap.size=w.heap.size+2):=hide (by rw [← hw2,← hw1]; simp);obtain ⟨x',lb,lo,hx',hla,a0,a1,a2,a3⟩:=zak (h.l.below b02) k hk;rw [hx] at hx';cases hx';obtain ⟨y',bb,off,hy',hba,-⟩:=br_at h.b i hib;rw [hy0] at hy';cases hy';have hy:=h.item y (List.mem_of_getElem? hy0);have hG:GRow brF w (some ⟨bb,off,none⟩) N.bn N.bc N.bs:=by rw [← hba]; exact h.b
 have HBC:Hid (∀W,Below w.heap.size w W→W.cell? ⟨bb,off+i*11,none⟩=some (.int .i64 y.B.id)∧W.cell? ⟨bb,off+i*11+2,none⟩=some (.slice y.a y.n y.c)):=hide (fun W hW=>by have:=zx hG hW hy0; exact ⟨this.1,this.2.2.1⟩);have HBA:=hide hba;obtain ⟨x0,x1,x2⟩:=zl kP;rw [hla] at x1;have i1:(0:Int)≤(k:Int):=by omega
 have i2:(k:Int) < (N.ln:Int):=by omega
 have i3:(0:Int)≤(i:Int):=by omega
 have i4:(i:Int) < (N.bn:Int):=by omega
 clear hla hba hx hy0 hG;go_enter Try.func49,Try.ntmps49;obtain ⟨xa,xp,xb,xq⟩:=x;dsimp only at hi a0 a1 a2 a3 ⊢;subst hi;go_upto_region 3 with fail
 generalize hw3:w2.alloc (Obj.cells #[.int .i64 xa,.int .i64 xp,.int .i64 (i:Int),.int .i64 xq] 57)=w3;have b23:=zb hw3;have kL:=zk hw3;have kP:=za kP b23;have kJ:=za kJ b23;have b3:=zc b02 b23;have vv:Below w3.heap.size w3 w3.drew:=zC (Below.refl _ _);clear hw3 b23 x0 x1 x2 a0 a1 a2 a3;refine wp_region_held_drew (S:=(fun W=>(W.cell? ⟨w.heap.size,0,none⟩=some (.slice (some ⟨bb,off,none⟩) N.bn N.bc)∧W.cell? ⟨w.heap.size,1,none⟩=some (.slice N.la N.ln N.lc)∧W.cell? ⟨w.heap.size,2,none⟩=some (.slice N.sa N.sn N.sc))∧(W.cell? ⟨w2.heap.size,0,none⟩=some (.int .i64 xa)∧W.cell? ⟨w2.heap.size,1,none⟩=some (.int .i64 xp)∧W.cell? ⟨w2.heap.size,2,none⟩=some (.int .i64 (i:Int))∧W.cell? ⟨w2.heap.size,3,none⟩=some (.int .i64 xq))∧(W.cell? ⟨bb,off+i*11,none⟩=some (.int .i64 y.B.id)∧W.cell? ⟨bb,off+i*11+2,none⟩=some (.slice y.a y.n y.c)))) (by kernel_rfl) (⟨by have:=zl (za kP vv); rw [HBA.out] at this; exact this,zz (za kL vv),(HBC.out _ (zc b3 vv)).1,(HBC.out _ (zc b3 vv)).2⟩) (fun hHeld => ?_);refine kK 0 ⟨some 14,.fieldAddr 33 (.tmp 3) 0,0,"l14_step.go:9",#[],none⟩ ?_;refine kK 1 ⟨some 15,.load 29 (.tmp 14),29,"l14_step.go:9",#[⟨0,.data⟩],none⟩ ?_;refine kK 2 ⟨some 16,.fieldAddr 57 (.tmp 7) 2,0,"l14_step.go:9",#[],none⟩ ?_;refine kK 3 ⟨some 17,.load 3 (.tmp 16),3,"l14_step.go:9",#[⟨2,.data⟩],none⟩ ?_;refine kK 4 ⟨some 18,.indexAddr 29 (.tmp 15) (.tmp 17),0,"l14_step.go:9",#[⟨1,.data⟩,⟨3,.data⟩],none⟩ ?_;refine kK 5 ⟨some 19,.fieldAddr 98 (.tmp 18) 0,0,"l14_step.go:9",#[⟨4,.data⟩],none⟩ ?_;refine kK 6 ⟨some 20,.load 3 (.tmp 19),3,"l14_step.go:9",#[⟨5,.data⟩],none⟩ ?_;refine kK 7 ⟨some 21,.fieldAddr 33 (.tmp 3) 0,0,"l14_step.go:9",#[],none⟩ ?_;refine kK 8 ⟨some 22,.load 29 (.tmp 21),29,"l14_step.go:9",#[⟨7,.data⟩],none⟩ ?_;refine kK 9 ⟨some 23,.fieldAddr 57 (.tmp 7) 2,0,"l14_step.go:9",#[],none⟩ ?_;refine kK 10 ⟨some 24,.load 3 (.tmp 23),3,"l14_step.go:9",#[⟨9,.data⟩],none⟩ ?_;refine kK 11 ⟨some 25,.indexAddr 29 (.tmp 22) (.tmp 24),0,"l14_step.go:9",#[⟨8,.data⟩,⟨10,.data⟩],none⟩ ?_;refine kK 12 ⟨some 26,.fieldAddr 98 (.tmp 25) 2,0,"l14_step.go:9",#[⟨11,.data⟩],none⟩ ?_;refine kK 13 ⟨some 27,.load 92 (.tmp 26),92,"l14_step.go:9",#[⟨12,.data⟩],none⟩ ?_;refine kK 14 ⟨some 28,.fieldAddr 57 (.tmp 7) 3,0,"l14_step.go:9",#[],none⟩ ?_;refine kK 15 ⟨some 29,.load 3 (.tmp 28),3,"l14_step.go:9",#[⟨14,.data⟩],none⟩ ?_;refine kR 16 ⟨some 30,.call ⟨.value (.func 78),#[.tmp 20,.tmp 27,.tmp 29],#[3,92,3]⟩,89,"l14_step.go:9",#[⟨6,.data⟩,⟨13,.data⟩,⟨15,.data⟩],none⟩ (fun K hK => ?_);go_simp;refine (zaq y.B.id y.a y.n y.c y.B.ports xq _ (hy.ports.below (zc b3 vv))).mono ?_;rintro e wz ⟨rfl,hbz⟩;have vv:=zc vv hbz;generalize hSV:sayV y.B.id y.B.ports xq=SV at *;go_wp2_with fail
 refine hK.out _ _ (⟨by have:=zl (za kP vv); rw [HBA.out] at this; exact this,zz (za kL vv),(HBC.out _ (zc b3 vv)).1,(HBC.out _ (zc b3 vv)).2⟩) (fun hHeld => ?_);clear hK K
 try simp only [Act.put,lA,lB,lC]
 refine kR 17 ⟨none,.store 89 (.tmp 6) (.tmp 30),0,"l14_step.go:9",#[⟨16,.data⟩,⟨16,.chain⟩,⟨0,.phase⟩,⟨1,.phase⟩,⟨2,.phase⟩,⟨3,.phase⟩,⟨4,.phase⟩,⟨5,.phase⟩,⟨6,.phase⟩,⟨7,.phase⟩,⟨8,.phase⟩,⟨9,.phase⟩,⟨10,.phase⟩,⟨11,.phase⟩,⟨12,.phase⟩,⟨13,.phase⟩,⟨14,.phase⟩,⟨15,.phase⟩,⟨16,.phase⟩],none⟩ (fun K hK => ?_);obtain ⟨xx0,xx1,xx2,xx3,xx4⟩:=(zt (za kJ vv)).1;have ff:=zh (za kJ vv);have ff0:=ff 0;have ff1:=ff 1;have ff2:=ff 2;have ff3:=ff 3;have ff4:=ff 4;clear ff;go_simp;refine zcS (K:=K _) (za kJ vv) _ _ _ _ _ (fun wq kQ hgq => ?_);have vq:=(zc b3 vv).grown hgq (zc b3 vv).size (by intro j e; cases e; have:=HZ1.out; omega);have kPq:=zg (za kP vv) hgq (by intro j e; cases e; have:=HZ1.out; omega);have kLq:=zg (za kL vv) hgq (by intro j e; cases e; have:=HZ1.out; have:=HZ2.out; omega);refine hK.out _ _ (⟨by have:=zl kPq; rw [HBA.out] at this; exact this,zz kLq,(HBC.out _ vq).1,(HBC.out _ vq).2⟩) (fun hHeld => ?_);clear hK K
 try simp only [Act.put,lA,lB,lC]
 refine wpAnyH_done (by kernel_rfl) ?_ _;have HB:=hide vq;have HQ:=hide kQ;obtain ⟨⟨r0,r1,r2,r3,r4⟩,-⟩:=zt kQ;clear hHeld kPq kLq vq kQ hgq;go_wp2;exact bodyPost_ret (v:=.agg #[.int .i64 SV.r,.int .i64 SV.c,.int .i64 SV.h,.int .i64 SV.b,.int .i64 SV.p]) (by simp [results,Try.results49,go_sem, *]) rfl ⟨by rw [hSV],HB.out⟩

end Go.Proofs.Ytgmkhoakindpkaa
