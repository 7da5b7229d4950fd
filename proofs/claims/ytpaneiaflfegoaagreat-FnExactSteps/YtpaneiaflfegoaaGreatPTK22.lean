/-
  Packed: NetHelp NetOwn NetOwnA NetOkS.
-/
import Derived.Test.YtpaneiaflfegoaaGreatPTKW
import Derived.Test.YtpaneiaflfegoaaGreatPTBrHelp
import Derived.Test.YtpaneiaflfegoaaGreatPTBrOkS
import Derived.Test.YtpaneiaflfegoaaGreatPTK01
import Derived.Test.YtpaneiaflfegoaaGreatPTK02
import Derived.Test.YtpaneiaflfegoaaGreatPTK03
import Derived.Test.YtpaneiaflfegoaaGreatPTK04
import Derived.Test.YtpaneiaflfegoaaGreatPTK15
namespace Go.Proofs.YtpaneiaflfegoaaGreat
set_option maxRecDepth 100000
set_option maxHeartbeats 16000000
open Go.RowKit

theorem zO {w w':World} {b off n cap:Nat} {l:List BV} (h:GRow brF w (some ⟨b,off,none⟩) n cap l) (hb:Below w.heap.size w w') {i:Nat} {x:BV} (hx:l[i]?=some x) :
  w'.cell? ⟨b,off+i*11,none⟩=some (.int .i64 x.B.id)∧w'.cell? ⟨b,off+i*11+1,none⟩=some (.string x.B.name)∧w'.cell? ⟨b,off+i*11+2,none⟩=some (.slice x.a x.n x.c)∧w'.cell? ⟨b,off+i*11+3,none⟩=some (.slice x.fa x.fn x.fc)∧w'.cell? ⟨b,off+i*11+4,none⟩=some (.slice x.ra x.rn x.rc)∧w'.cell? ⟨b,off+i*11+5,none⟩=some (.slice x.oa x.on x.oc)∧w'.cell? ⟨b,off+i*11+6,none⟩=some (.int .i64 x.B.ticks)∧w'.cell? ⟨b,off+i*11+7,none⟩=some (.int .i64 x.B.parse)∧w'.cell? ⟨b,off+i*11+8,none⟩=some (.int .i64 x.B.word)∧w'.cell? ⟨b,off+i*11+9,none⟩=some (.int .i64 x.B.drops)∧w'.cell? ⟨b,off+i*11+10,none⟩=some (.int .i64 x.B.vers):=by
 have hi:i < n:=by
  have:=(List.getElem?_eq_some_iff.1 hx).1
  have:=h.size
  omega
 obtain ⟨y,b',off',hy,e,c⟩:=br_at (h.below hb) i hi;cases e;rw [hx] at hy;cases hy;exact c

theorem zeX {w:World} {base g n cap:Nat} {pre post:List BV} {x y:BV} (h:w.ownsRow base 64 11 (.slice (some ⟨g,0,none⟩) n cap) n (brF.all (pre++x::post))) :
  (((((((((((w.setCell ⟨g,pre.length*11,none⟩ (.int .i64 y.B.id)).setCell ⟨g,pre.length*11+1,none⟩ (.string y.B.name)).setCell ⟨g,pre.length*11+2,none⟩ (.slice y.a y.n y.c)).setCell ⟨g,pre.length*11+3,none⟩ (.slice y.fa y.fn y.fc)).setCell ⟨g,pre.length*11+4,none⟩ (.slice y.ra y.rn y.rc)).setCell ⟨g,pre.length*11+5,none⟩ (.slice y.oa y.on y.oc)).setCell ⟨g,pre.length*11+6,none⟩ (.int .i64 y.B.ticks)).setCell ⟨g,pre.length*11+7,none⟩ (.int .i64 y.B.parse)).setCell ⟨g,pre.length*11+8,none⟩ (.int .i64 y.B.word)).setCell ⟨g,pre.length*11+9,none⟩ (.int .i64 y.B.drops)).setCell ⟨g,pre.length*11+10,none⟩ (.int .i64 y.B.vers)).ownsRow base 64 11 (.slice (some ⟨g,0,none⟩) n cap) n (brF.all (pre++y::post)):=by
 have R0:=zt (F:=brF) (x':=⟨x.a,x.n,x.c,x.fa,x.fn,x.fc,x.ra,x.rn,x.rc,x.oa,x.on,x.oc,⟨y.B.id,x.B.name,x.B.ports,x.B.f,x.B.v,x.B.ticks,x.B.parse,x.B.word,x.B.drops,x.B.vers⟩⟩) h 0 (.int .i64 y.B.id) (by decide) rfl;have R1:=zt (F:=brF) (x':=⟨x.a,x.n,x.c,x.fa,x.fn,x.fc,x.ra,x.rn,x.rc,x.oa,x.on,x.oc,⟨y.B.id,y.B.name,x.B.ports,x.B.f,x.B.v,x.B.ticks,x.B.parse,x.B.word,x.B.drops,x.B.vers⟩⟩) R0 1 (.string y.B.name) (by decide) rfl;have R2:=zt (F:=brF) (x':=⟨y.a,y.n,y.c,x.fa,x.fn,x.fc,x.ra,x.rn,x.rc,x.oa,x.on,x.oc,⟨y.B.id,y.B.name,y.B.ports,x.B.f,x.B.v,x.B.ticks,x.B.parse,x.B.word,x.B.drops,x.B.vers⟩⟩) R1 2 (.slice y.a y.n y.c) (by decide) rfl;have R3:=zt (F:=brF) (x':=⟨y.a,y.n,y.c,y.fa,y.fn,y.fc,x.ra,x.rn,x.rc,x.oa,x.on,x.oc,⟨y.B.id,y.B.name,y.B.ports,y.B.f,x.B.v,x.B.ticks,x.B.parse,x.B.word,x.B.drops,x.B.vers⟩⟩) R2 3 (.slice y.fa y.fn y.fc) (by decide) rfl;have R4:=zt (F:=brF) (x':=⟨y.a,y.n,y.c,y.fa,y.fn,y.fc,y.ra,y.rn,y.rc,x.oa,x.on,x.oc,⟨y.B.id,y.B.name,y.B.ports,y.B.f,y.B.v,x.B.ticks,x.B.parse,x.B.word,x.B.drops,x.B.vers⟩⟩) R3 4 (.slice y.ra y.rn y.rc) (by decide) rfl;have R5:=zt (F:=brF) (x':=⟨y.a,y.n,y.c,y.fa,y.fn,y.fc,y.ra,y.rn,y.rc,y.oa,y.on,y.oc,⟨y.B.id,y.B.name,y.B.ports,y.B.f,y.B.v,x.B.ticks,x.B.parse,x.B.word,x.B.drops,x.B.vers⟩⟩) R4 5 (.slice y.oa y.on y.oc) (by decide) rfl;have R6:=zt (F:=brF) (x':=⟨y.a,y.n,y.c,y.fa,y.fn,y.fc,y.ra,y.rn,y.rc,y.oa,y.on,y.oc,⟨y.B.id,y.B.name,y.B.ports,y.B.f,y.B.v,y.B.ticks,x.B.parse,x.B.word,x.B.drops,x.B.vers⟩⟩) R5 6 (.int .i64 y.B.ticks) (by decide) rfl;have R7:=zt (F:=brF) (x':=⟨y.a,y.n,y.c,y.fa,y.fn,y.fc,y.ra,y.rn,y.rc,y.oa,y.on,y.oc,⟨y.B.id,y.B.name,y.B.ports,y.B.f,y.B.v,y.B.ticks,y.B.parse,x.B.word,x.B.drops,x.B.vers⟩⟩) R6 7 (.int .i64 y.B.parse) (by decide) rfl;have R8:=zt (F:=brF) (x':=⟨y.a,y.n,y.c,y.fa,y.fn,y.fc,y.ra,y.rn,y.rc,y.oa,y.on,y.oc,⟨y.B.id,y.B.name,y.B.ports,y.B.f,y.B.v,y.B.ticks,y.B.parse,y.B.word,x.B.drops,x.B.vers⟩⟩) R7 8 (.int .i64 y.B.word) (by decide) rfl;have R9:=zt (F:=brF) (x':=⟨y.a,y.n,y.c,y.fa,y.fn,y.fc,y.ra,y.rn,y.rc,y.oa,y.on,y.oc,⟨y.B.id,y.B.name,y.B.ports,y.B.f,y.B.v,y.B.ticks,y.B.parse,y.B.word,y.B.drops,x.B.vers⟩⟩) R8 9 (.int .i64 y.B.drops) (by decide) rfl;exact zt (F:=brF) (x':=y) R9 10 (.int .i64 y.B.vers) (by decide) rfl

theorem zd4 {w:World} {g j:Nat} {y:BV}:w.grownBy (((((((((((w.setCell ⟨g,j,none⟩ (.int .i64 y.B.id)).setCell ⟨g,j+1,none⟩ (.string y.B.name)).setCell ⟨g,j+2,none⟩ (.slice y.a y.n y.c)).setCell ⟨g,j+3,none⟩ (.slice y.fa y.fn y.fc)).setCell ⟨g,j+4,none⟩ (.slice y.ra y.rn y.rc)).setCell ⟨g,j+5,none⟩ (.slice y.oa y.on y.oc)).setCell ⟨g,j+6,none⟩ (.int .i64 y.B.ticks)).setCell ⟨g,j+7,none⟩ (.int .i64 y.B.parse)).setCell ⟨g,j+8,none⟩ (.int .i64 y.B.word)).setCell ⟨g,j+9,none⟩ (.int .i64 y.B.drops)).setCell ⟨g,j+10,none⟩ (.int .i64 y.B.vers)) (some g) :=
 zz (zz (zz (zz (zz (zz (zz (zz (zz (zz (zg _ _) (zg _ _)) (zg _ _)) (zg _ _)) (zg _ _)) (zg _ _)) (zg _ _)) (zg _ _)) (zg _ _)) (zg _ _)) (zg _ _)

theorem zN {w:World} {base g n cap:Nat} {T:TypeId} {l:List BV} (h:w.ownsRow base T 11 (.slice (some ⟨g,0,none⟩) n cap) n (brF.all l)) {i:Nat} {x:BV} (hx:l[i]?=some x) :
  (w.cell? ⟨g,i*11,none⟩=some (.int .i64 x.B.id)∧w.cell? ⟨g,i*11+1,none⟩=some (.string x.B.name)∧w.cell? ⟨g,i*11+2,none⟩=some (.slice x.a x.n x.c)∧w.cell? ⟨g,i*11+3,none⟩=some (.slice x.fa x.fn x.fc)∧w.cell? ⟨g,i*11+4,none⟩=some (.slice x.ra x.rn x.rc)∧w.cell? ⟨g,i*11+5,none⟩=some (.slice x.oa x.on x.oc)∧w.cell? ⟨g,i*11+6,none⟩=some (.int .i64 x.B.ticks)∧w.cell? ⟨g,i*11+7,none⟩=some (.int .i64 x.B.parse)∧w.cell? ⟨g,i*11+8,none⟩=some (.int .i64 x.B.word)∧w.cell? ⟨g,i*11+9,none⟩=some (.int .i64 x.B.drops)∧w.cell? ⟨g,i*11+10,none⟩=some (.int .i64 x.B.vers)) ∧
  (w.frozen? ⟨g,i*11,none⟩=false∧w.frozen? ⟨g,i*11+1,none⟩=false∧w.frozen? ⟨g,i*11+2,none⟩=false∧w.frozen? ⟨g,i*11+3,none⟩=false∧w.frozen? ⟨g,i*11+4,none⟩=false∧w.frozen? ⟨g,i*11+5,none⟩=false∧w.frozen? ⟨g,i*11+6,none⟩=false∧w.frozen? ⟨g,i*11+7,none⟩=false∧w.frozen? ⟨g,i*11+8,none⟩=false∧w.frozen? ⟨g,i*11+9,none⟩=false∧w.frozen? ⟨g,i*11+10,none⟩=false):=by
 have c0:=zH (F:=brF) h hx (j:=0) (v:=.int .i64 x.B.id) rfl;have c1:=zH (F:=brF) h hx (j:=1) (v:=.string x.B.name) rfl;have c2:=zH (F:=brF) h hx (j:=2) (v:=.slice x.a x.n x.c) rfl;have c3:=zH (F:=brF) h hx (j:=3) (v:=.slice x.fa x.fn x.fc) rfl;have c4:=zH (F:=brF) h hx (j:=4) (v:=.slice x.ra x.rn x.rc) rfl;have c5:=zH (F:=brF) h hx (j:=5) (v:=.slice x.oa x.on x.oc) rfl;have c6:=zH (F:=brF) h hx (j:=6) (v:=.int .i64 x.B.ticks) rfl;have c7:=zH (F:=brF) h hx (j:=7) (v:=.int .i64 x.B.parse) rfl;have c8:=zH (F:=brF) h hx (j:=8) (v:=.int .i64 x.B.word) rfl;have c9:=zH (F:=brF) h hx (j:=9) (v:=.int .i64 x.B.drops) rfl;have c10:=zH (F:=brF) h hx (j:=10) (v:=.int .i64 x.B.vers) rfl;exact ⟨⟨c0.1,c1.1,c2.1,c3.1,c4.1,c5.1,c6.1,c7.1,c8.1,c9.1,c10.1⟩,c0.2,c1.2,c2.2,c3.2,c4.2,c5.2,c6.2,c7.2,c8.2,c9.2,c10.2⟩

abbrev BV.Own (w:World) (base:Nat) (x:BV):Prop:=BrOwn w base x.a x.n x.c x.fa x.fn x.fc x.ra x.rn x.rc x.oa x.on x.oc x.B

theorem BV.Own.other {w w':World} {base:Nat} {x:BV} (h:x.Own w base) {X:Nat} {cs:Array Value} {T:TypeId} (hX:w.heap[X]?=some (.cells cs T)) (h1:(103:Nat)≠T) (h2:(149:Nat)≠T) (h3:(184:Nat)≠T) (h4:(3:Nat)≠T) (hg:w.grownBy w' (some X)):x.Own w' base :=
 ⟨zw h.ports hg (zy h.ports hX h1),zw h.f hg (zy h.f hX h2),⟨zw h.v.rows hg (zy h.v.rows hX h3),zw h.v.own hg (zy h.v.own hX h4),h.v.i64⟩⟩

theorem zka {w:World} {base g n cap k:Nat} {T:TypeId} {xs:List Value} (h:w.ownsRow base T k (.slice (some ⟨g,0,none⟩) n cap) n xs):∃cs,w.heap[g]?=some (.cells cs T):=by
 rcases h.2 with ⟨e,_⟩ | ⟨g',cap',cur,e,_,hh,_⟩
 ·cases e
 ·cases e;exact ⟨_,hh⟩

def BV.Small (x:BV):Prop:=x.n≤1048576∧x.fn≤1048576∧x.rn≤1048576∧x.on≤1048576

theorem zeI (ao:Option Addr) (n c:Nat) (ao':Option Addr) (n' c':Nat) (l l':List BV) (w:World) (hl:GRow brF w ao n c l) (hl':GRow brF w ao' n' c' l') (hr:∀x∈l,x.Reads w) (hr':∀x∈l',x.Reads w) (he:l.map BV.B=l'.map BV.B) :
  Calls Tryz.prog 36 #[.slice ao n c,.slice ao' n' c'] w fun r w'=>r=.returned (.bool true)∧Below w.heap.size w w':=by
 have hs:=hl.size;have hs':=hl'.size;have htop:=Nat.le_trans hl.le hl.top;unfold maxLen at htop;have hlen:l.length=l'.length:=by have:=congrArg List.length he; simpa using this
 have hnn:n'=n:=by omega
 subst hnn;go_enter Tryz.func36,Tryz.ntmps36;go_wp2
 go_loopw [5] (fun i wr=>∃k:Nat,k≤n'∧i=.int .i64 k∧Below w.heap.size w wr) (fun i _=>n' - (intOf i).toNat)
 case atStart=>exact ⟨0,Nat.zero_le _,rfl,Below.refl _ _⟩
 case round =>
  obtain ⟨k,hk,rfl,hb⟩:=hrel;by_cases hlt:k < n'
  ·obtain ⟨x,b,off,hx,rfl,-⟩:=br_at (hl.below hb) k hlt;obtain ⟨y,b',off',hy,rfl,-⟩:=br_at (hl'.below hb) k hlt;have hBB:x.B=y.B:=by
    have h1:(l.map BV.B)[k]?=some x.B:=by rw [List.getElem?_map,hx]; rfl
    have h2:(l'.map BV.B)[k]?=some y.B:=by rw [List.getElem?_map,hy]; rfl
    rw [he,h2] at h1;exact (Option.some.inj h1).symm
   have HS:Hid (∀W,Below wr.heap.size wr W→(W.cell? ⟨b,off+k*11,none⟩=some (.int .i64 x.B.id)∧W.cell? ⟨b,off+k*11+1,none⟩=some (.string x.B.name)∧W.cell? ⟨b,off+k*11+2,none⟩=some (.slice x.a x.n x.c)∧W.cell? ⟨b,off+k*11+3,none⟩=some (.slice x.fa x.fn x.fc)∧W.cell? ⟨b,off+k*11+4,none⟩=some (.slice x.ra x.rn x.rc)∧W.cell? ⟨b,off+k*11+5,none⟩=some (.slice x.oa x.on x.oc)∧W.cell? ⟨b,off+k*11+6,none⟩=some (.int .i64 x.B.ticks)∧W.cell? ⟨b,off+k*11+7,none⟩=some (.int .i64 x.B.parse)∧W.cell? ⟨b,off+k*11+8,none⟩=some (.int .i64 x.B.word)∧W.cell? ⟨b,off+k*11+9,none⟩=some (.int .i64 x.B.drops)∧W.cell? ⟨b,off+k*11+10,none⟩=some (.int .i64 x.B.vers))∧(W.cell? ⟨b',off'+k*11,none⟩=some (.int .i64 x.B.id)∧W.cell? ⟨b',off'+k*11+1,none⟩=some (.string x.B.name)∧W.cell? ⟨b',off'+k*11+2,none⟩=some (.slice y.a y.n y.c)∧W.cell? ⟨b',off'+k*11+3,none⟩=some (.slice y.fa y.fn y.fc)∧W.cell? ⟨b',off'+k*11+4,none⟩=some (.slice y.ra y.rn y.rc)∧W.cell? ⟨b',off'+k*11+5,none⟩=some (.slice y.oa y.on y.oc)∧W.cell? ⟨b',off'+k*11+6,none⟩=some (.int .i64 x.B.ticks)∧W.cell? ⟨b',off'+k*11+7,none⟩=some (.int .i64 x.B.parse)∧W.cell? ⟨b',off'+k*11+8,none⟩=some (.int .i64 x.B.word)∧W.cell? ⟨b',off'+k*11+9,none⟩=some (.int .i64 x.B.drops)∧W.cell? ⟨b',off'+k*11+10,none⟩=some (.int .i64 x.B.vers))):=hide (fun W h=>⟨zO (hl.below hb) h hx,by have:=zO (hl'.below hb) h hy; rw [← hBB] at this; exact this⟩);have HX:=hide (hr x (List.mem_of_getElem? hx));have HY:Hid (BrRow w y.a y.n y.c y.fa y.fn y.fc y.ra y.rn y.rc y.oa y.on y.oc x.B):=hide (by rw [hBB]; exact hr' y (List.mem_of_getElem? hy));have vv:Below wr.heap.size wr wr.drew:=zp (Below.refl _ _);have i1:(0:Int)≤(k:Int):=by omega
   have i2:(k:Int) < (n':Int):=by omega
   have HB:=hide hb;clear hb hx hy hBB he;(go_wp2_with fail);refine wp_region_held_drew (S:=(fun W=>(W.cell? ⟨b,off+k*11,none⟩=some (.int .i64 x.B.id)∧W.cell? ⟨b,off+k*11+1,none⟩=some (.string x.B.name)∧W.cell? ⟨b,off+k*11+2,none⟩=some (.slice x.a x.n x.c)∧W.cell? ⟨b,off+k*11+3,none⟩=some (.slice x.fa x.fn x.fc)∧W.cell? ⟨b,off+k*11+4,none⟩=some (.slice x.ra x.rn x.rc)∧W.cell? ⟨b,off+k*11+5,none⟩=some (.slice x.oa x.on x.oc)∧W.cell? ⟨b,off+k*11+6,none⟩=some (.int .i64 x.B.ticks)∧W.cell? ⟨b,off+k*11+7,none⟩=some (.int .i64 x.B.parse)∧W.cell? ⟨b,off+k*11+8,none⟩=some (.int .i64 x.B.word)∧W.cell? ⟨b,off+k*11+9,none⟩=some (.int .i64 x.B.drops)∧W.cell? ⟨b,off+k*11+10,none⟩=some (.int .i64 x.B.vers))∧(W.cell? ⟨b',off'+k*11,none⟩=some (.int .i64 x.B.id)∧W.cell? ⟨b',off'+k*11+1,none⟩=some (.string x.B.name)∧W.cell? ⟨b',off'+k*11+2,none⟩=some (.slice y.a y.n y.c)∧W.cell? ⟨b',off'+k*11+3,none⟩=some (.slice y.fa y.fn y.fc)∧W.cell? ⟨b',off'+k*11+4,none⟩=some (.slice y.ra y.rn y.rc)∧W.cell? ⟨b',off'+k*11+5,none⟩=some (.slice y.oa y.on y.oc)∧W.cell? ⟨b',off'+k*11+6,none⟩=some (.int .i64 x.B.ticks)∧W.cell? ⟨b',off'+k*11+7,none⟩=some (.int .i64 x.B.parse)∧W.cell? ⟨b',off'+k*11+8,none⟩=some (.int .i64 x.B.word)∧W.cell? ⟨b',off'+k*11+9,none⟩=some (.int .i64 x.B.drops)∧W.cell? ⟨b',off'+k*11+10,none⟩=some (.int .i64 x.B.vers)))) (by kernel_rfl) (HS.out _ vv) (fun hHeld => ?_);refine kK 0 ⟨some 17,.move (.tmp 0),30,"exact.go:1100",#[],none⟩ ?_;refine kK 1 ⟨some 18,.move (.tmp 5),3,"exact.go:1100",#[],none⟩ ?_;refine kK 2 ⟨some 19,.indexAddr 30 (.tmp 17) (.tmp 18),0,"exact.go:1100",#[⟨0,.data⟩,⟨1,.data⟩],none⟩ ?_;refine kK 3 ⟨some 20,.load 64 (.tmp 19),64,"exact.go:1100",#[⟨2,.data⟩],none⟩ ?_;refine kK 4 ⟨some 21,.move (.tmp 1),30,"exact.go:1100",#[],none⟩ ?_;refine kK 5 ⟨some 22,.move (.tmp 5),3,"exact.go:1100",#[],none⟩ ?_;refine kK 6 ⟨some 23,.indexAddr 30 (.tmp 21) (.tmp 22),0,"exact.go:1100",#[⟨4,.data⟩,⟨5,.data⟩],none⟩ ?_;refine kK 7 ⟨some 24,.load 64 (.tmp 23),64,"exact.go:1100",#[⟨6,.data⟩],none⟩ ?_;refine kR 8 ⟨some 25,.call ⟨.value (.func 79),#[.tmp 20,.tmp 24],#[64,64]⟩,4,"exact.go:1100",#[⟨3,.data⟩,⟨7,.data⟩],none⟩ (fun K hK => ?_);go_simp;refine (zfw x.a x.n x.c x.fa x.fn x.fc x.ra x.rn x.rc x.oa x.on x.oc y.a y.n y.c y.fa y.fn y.fc y.ra y.rn y.rc y.oa y.on y.oc x.B _ (HX.out.below (zc HB.out vv)) (HY.out.below (zc HB.out vv))).mono ?_;rintro r wz ⟨rfl,hbz⟩;have vv:=zc vv hbz;(go_wp2_with fail);refine hK.out _ _ (HS.out _ vv) (fun hHeld => ?_);clear hK K;(try simp only [Act.put,lA,lB,lC]);refine kK 9 ⟨some 26,.unOp .not 4 (.tmp 25),4,"exact.go:1100",#[⟨8,.data⟩],none⟩ ?_;refine wpAnyH_done (by kernel_rfl) ?_ _;have b1:=zc HB.out vv;clear HS hHeld vv;go_wp2
   go_roundw
   case rel=>exact ⟨k+1,by omega,by go_num,b1⟩
   case measure=>simp [intOf]; omega
  ·have hk':k=n':=by omega
   subst hk';go_wp2;go_ret;exact ⟨rfl,hb⟩

def zaj (l:List BV):Int:=(l.map fun x=>sizeB x.B).sum
def sizeN (N:NV):Int:=(N.bn:Int)+zaj N.bs+N.ln+N.sn

theorem zkk (B:BR):0≤sizeB B:=by unfold sizeB; omega
theorem zfk (l l':List BV):zaj (l++l')=zaj l+zaj l':=by unfold zaj; rw [List.map_append,List.sum_append]
theorem zbx (l:List BV):0≤zaj l:=by
 induction l with
 | nil=>simp [zaj]
 | cons x l ih=>have:=zkk x.B; unfold zaj at ih ⊢; rw [List.map_cons,List.sum_cons]; omega
theorem zfl {l:List BV} {k:Nat} {x:BV} (h:l[k]?=some x):zaj (l.take (k+1))=zaj (l.take k)+sizeB x.B∧zaj (l.take (k+1))≤zaj l:=by
 have e:l.take (k+1)=l.take k++[x]:=by rw [List.take_add_one,h]; rfl
 have h1:zaj (l.take (k+1))=zaj (l.take k)+sizeB x.B:=by rw [e,zfk]; simp [zaj]
 refine ⟨h1, ?_⟩;have h2:=zfk (l.take (k+1)) (l.drop (k+1));rw [List.take_append_drop] at h2
 have:=zbx (l.drop (k+1))
 omega
theorem zjf {l:List BV} {x:BV} (h:x∈l):sizeB x.B≤zaj l:=by
 obtain ⟨k,hk⟩:=List.getElem?_of_mem h;have h1:=zfl hk
 have:=zbx (l.take k)
 omega

theorem zf3 (ao:Option Addr) (n c:Nat) (l:List BV) (L:Int) (w:World) (hl:GRow brF w ao n c l) (hr:∀x∈l,x.Reads w) (hR:∀x∈l,x.B.Rng) (h0:0≤L) (h1:L≤1048576) :
  Calls Tryz.prog 19 #[.slice ao n c,.int .i64 L] w fun r w'=>r=.returned (.int .i64 (if (n:Int)+zaj l≤L then L - ((n:Int)+zaj l) else -1))∧Below w.heap.size w w':=by
 have htop:=Nat.le_trans hl.le hl.top;unfold maxLen at htop;have hsl:=hl.size;have hp:=zbx l;generalize hG:(if (n:Int)+zaj l≤L then L - ((n:Int)+zaj l) else -1)=G;have HG0:=hide hG;clear hG;by_cases hn:¬(n:Int)≤L
 ·have hlt:L - (n:Int) < 0:=by omega
  have HG:Hid (G = -1):=hide (by rw [← HG0.out]; exact if_neg (by omega));go_enter Tryz.func19,Tryz.ntmps19;go_wp2;go_ret;exact ⟨by rw [HG.out]; rfl,Below.refl _ _⟩
 have hge:¬(L - (n:Int) < 0):=by omega
 go_enter Tryz.func19,Tryz.ntmps19;go_wp2
 go_loopw [1,5] (fun m i wr=>∃k:Nat,k≤n∧i=.int .i64 k∧m=.int .i64 (L - (n:Int) - zaj (l.take k))∧0≤L - (n:Int) - zaj (l.take k)∧Below w.heap.size w wr) (fun _ i _=>n - (intOf i).toNat)
 case atStart=>exact ⟨0,Nat.zero_le _,rfl,by simp [zaj],by simp [zaj]; omega,Below.refl _ _⟩
 case round =>
  obtain ⟨k,hk,rfl,rfl,hge',hb⟩:=hrel;by_cases hlt:k < n
  ·obtain ⟨x,b,off,hx,rfl,ca0,ca1,ca2,ca3,ca4,ca5,ca6,ca7,ca8,ca9,ca10⟩:=br_at (hl.below hb) k hlt;have hmem:=List.mem_of_getElem? hx;obtain ⟨e1,e2⟩:=zfl hx;have hp1:=zbx (l.take k);have HX:=hide hx;have HB:=hide hb;have HE:=hide e1;have hrx:=(hr x hmem).below hb;clear hx hb;generalize hM:L - (n:Int) - zaj (l.take k)=M at *;have m1:M≤1048576:=by omega
   (go_wp2_with fail);refine (zf2 M hge' m1 x.a x.n x.c x.fa x.fn x.fc x.ra x.rn x.rc x.oa x.on x.oc x.B _ hrx (hR x hmem).name).mono ?_;rintro e w2 ⟨rfl,hb2⟩;have hb3:=zc HB.out hb2;by_cases hle:sizeB x.B≤M
   ·rw [if_pos hle];have j1:¬(M - sizeB x.B < 0):=by omega
    have HB3:=hide hb3;have HM:Hid (L - (n:Int) - zaj (l.take (k+1))=M - sizeB x.B):=hide (by omega);clear hb3 hb2 ca0 ca1 ca2 ca3 ca4 ca5 ca6 ca7 ca8 ca9 ca10;generalize hS:sizeB x.B=S at *;go_wp2
    go_roundw
    case rel=>exact ⟨k+1,by omega,by go_num,by rw [HM.out],by rw [HM.out]; omega,HB3.out⟩
    case measure=>simp [intOf]; omega
   ·rw [if_neg hle];have HG:Hid (G = -1):=hide (by rw [← HG0.out]; exact if_neg (by omega));have HB3:=hide hb3;clear hb3 hb2 ca0 ca1 ca2 ca3 ca4 ca5 ca6 ca7 ca8 ca9 ca10;go_wp2;go_ret;exact ⟨by rw [HG.out]; rfl,HB3.out⟩
  ·have hkn:k=n:=by omega
   subst hkn;rw [List.take_of_length_le (by omega)] at hge' ⊢;have HG:Hid (G=L - (k:Int) - zaj l):=hide (by rw [← HG0.out,if_pos (by omega)]; omega);go_wp2;go_ret;exact ⟨by rw [HG.out]; rfl,hb⟩

theorem zV {w:World} {g:Nat} {T:TypeId} {c0 c1 c2:Value} (h:w.heap[g]?=some (.cells #[c0,c1,c2] T)):w.cell? ⟨g,0,none⟩=some c0∧w.cell? ⟨g,1,none⟩=some c1∧w.cell? ⟨g,2,none⟩=some c2:=by
 simp [World.cell?,h]

theorem zgX (N:NV) (L:Int) (w:World) (h:zae w N) (hR:N.Rng) (h0:0≤L) (h1:L≤1048576) :
  Calls Tryz.prog 5 #[.agg #[.slice N.ba N.bn N.bc,.slice N.la N.ln N.lc,.slice N.sa N.sn N.sc],.int .i64 L] w fun r w'=>r=.returned (.int .i64 (if sizeN N≤L then L - sizeN N else -1))∧Below w.heap.size w w':=by
 have n1:=Nat.le_trans h.b.le h.b.top;have n2:=Nat.le_trans h.l.le h.l.top;have n3:=Nat.le_trans h.s.le h.s.top;have hp:=zbx N.bs;generalize hG:(if sizeN N≤L then L - sizeN N else -1)=G;have HG0:=hide hG;clear hG;generalize hw1:w.alloc (Obj.cells #[.slice N.ba N.bn N.bc,.slice N.la N.ln N.lc,.slice N.sa N.sn N.sc] 26)=w1;have b01:=zb hw1;have k1:=zk hw1;obtain ⟨x0,x1,x2⟩:=zV k1;go_enter Tryz.func5,Tryz.ntmps5;go_wp2_with fail
 refine (zf3 N.ba N.bn N.bc N.bs L _ (h.b.below b01) (fun x hx=>(h.item x hx).below b01) hR.b h0 h1).mono ?_;rintro e w2 ⟨rfl,hb2⟩;have b02:=zc b01 hb2;have k2:=za k1 hb2;clear x0 x1 x2 hb2;obtain ⟨x0,x1,x2⟩:=zV k2;by_cases q1:(N.bn:Int)+zaj N.bs≤L
 ·rw [if_pos q1];have j1:¬(L - ((N.bn:Int)+zaj N.bs) < 0):=by omega
  (go_wp2_with fail);refine (zhY N.la N.ln N.lc (L - ((N.bn:Int)+zaj N.bs)) _ n2 (by omega) (by omega)).mono ?_;rintro e w3 ⟨rfl,rfl⟩;by_cases q2:(N.ln:Int)≤L - ((N.bn:Int)+zaj N.bs)
  ·rw [if_pos q2];have j2:¬(L - ((N.bn:Int)+zaj N.bs) - (N.ln:Int) < 0):=by omega
   (go_wp2_with fail);refine (zjh N.sa N.sn N.sc (L - ((N.bn:Int)+zaj N.bs) - (N.ln:Int)) _ n3 (by omega) (by omega)).mono ?_;rintro e w4 ⟨rfl,rfl⟩;by_cases q3:(N.sn:Int)≤L - ((N.bn:Int)+zaj N.bs) - (N.ln:Int)
   ·rw [if_pos q3];have j3:¬(L - ((N.bn:Int)+zaj N.bs) - (N.ln:Int) - (N.sn:Int) < 0):=by omega
    have HG:Hid (G=L - ((N.bn:Int)+zaj N.bs) - (N.ln:Int) - (N.sn:Int)):=hide (by rw [← HG0.out]; unfold sizeN; rw [if_pos (by omega)]; omega);go_wp2;go_ret;exact ⟨by rw [HG.out]; rfl,b02⟩
   ·rw [if_neg q3];have HG:Hid (G = -1):=hide (by rw [← HG0.out]; unfold sizeN; rw [if_neg (by omega)]);go_wp2;go_ret;exact ⟨by rw [HG.out]; rfl,b02⟩
  ·rw [if_neg q2];have HG:Hid (G = -1):=hide (by rw [← HG0.out]; unfold sizeN; rw [if_neg (by omega)]);go_wp2;go_ret;exact ⟨by rw [HG.out]; rfl,b02⟩
 ·rw [if_neg q1];have HG:Hid (G = -1):=hide (by rw [← HG0.out]; unfold sizeN; rw [if_neg (by omega)]);go_wp2;go_ret;exact ⟨by rw [HG.out]; rfl,b02⟩

theorem zeu {N:NV} {w:World} (h:zae w N) (hs:sizeN N≤1048576):N.bn≤1048576∧N.ln≤1048576∧N.sn≤1048576∧∀x∈N.bs,x.Small:=by
 have hp:=zbx N.bs;unfold sizeN at hs;refine ⟨by omega,by omega,by omega,fun x hx => ?_⟩;have h1:=zjf hx;have r:=h.item x hx;unfold sizeB at h1;rw [r.ports.size,r.f.size,r.v.rows.size,r.v.own.size] at h1;exact ⟨by omega,by omega,by omega,by omega⟩

structure NV.Same (N M:NV):Prop where
 b:N.bs.map BV.B=M.bs.map BV.B
 l:N.ls=M.ls
 s:N.ss=M.ss

theorem zcB (N M:NV) (w:World) (h:zae w N) (h2:zae w M) (he:N.Same M) :
  Calls Tryz.prog 10 #[.agg #[.slice N.ba N.bn N.bc,.slice N.la N.ln N.lc,.slice N.sa N.sn N.sc],.agg #[.slice M.ba M.bn M.bc,.slice M.la M.ln M.lc,.slice M.sa M.sn M.sc]] w fun r w'=>r=.returned (.bool true)∧Below w.heap.size w w':=by
 generalize hw1:w.alloc (Obj.cells #[.slice N.ba N.bn N.bc,.slice N.la N.ln N.lc,.slice N.sa N.sn N.sc] 34)=w1;generalize hw2:w1.alloc (Obj.cells #[.slice M.ba M.bn M.bc,.slice M.la M.ln M.lc,.slice M.sa M.sn M.sc] 34)=w2;have b01:=zb hw1;have b12:=zb hw2;have kNe:=za (zk hw1) b12;have kM:=zk hw2;have b02:=zc b01 b12;obtain ⟨x0,x1,x2⟩:=zV kNe;obtain ⟨y0,y1,y2⟩:=zV kM;go_enter Tryz.func10,Tryz.ntmps10;go_wp2_with fail
 refine (zeI N.ba N.bn N.bc M.ba M.bn M.bc N.bs M.bs _ (h.b.below b02) (h2.b.below b02) (fun x hx=>(h.item x hx).below b02) (fun x hx=>(h2.item x hx).below b02) he.b).mono ?_;rintro e w3 ⟨rfl,hb3⟩;have kNe:=za kNe hb3;have kM:=za kM hb3;have b03:=zc b02 hb3;clear x0 x1 x2 y0 y1 y2 hb3;obtain ⟨x0,x1,x2⟩:=zV kNe;obtain ⟨y0,y1,y2⟩:=zV kM;go_wp2_with fail
 refine (zgg N.la N.ln N.lc M.la M.ln M.lc N.ls _ (h.l.below b03) (by rw [he.l]; exact h2.l.below b03)).mono ?_;rintro e w4 ⟨rfl,hb4⟩;have kNe:=za kNe hb4;have kM:=za kM hb4;have b04:=zc b03 hb4;clear x0 x1 x2 y0 y1 y2 hb4;obtain ⟨x0,x1,x2⟩:=zV kNe;obtain ⟨y0,y1,y2⟩:=zV kM;go_wp2_with fail
 refine (zhh N.sa N.sn N.sc M.sa M.sn M.sc N.ss _ (h.s.below b04) (by rw [he.s]; exact h2.s.below b04)).mono ?_;rintro e w5 ⟨rfl,hb5⟩;have HB:=hide (zc b04 hb5);clear x0 x1 x2 y0 y1 y2 hb5;go_wp2;go_ret;exact ⟨rfl,HB.out⟩

def BV.blks (x:BV):List Nat:=blkL x.a++(blkL x.fa++(blkL x.ra++blkL x.oa))

theorem zaP {x:BV} {b:Nat}:b∈x.blks↔b∈blkL x.a∨b∈blkL x.fa∨b∈blkL x.ra∨b∈blkL x.oa:=by
 unfold BV.blks; simp [List.mem_append]

theorem BV.Own.blk {w:World} {base:Nat} {x:BV} (h:x.Own w base):∀b∈x.blks,base≤b∧b < w.heap.size:=by
 intro b hb;rcases zaP.1 hb with hb | hb | hb | hb
 ·exact h.ports.lt b (zR.2 hb)
 ·exact h.f.lt b (zR.2 hb)
 ·exact h.v.rows.lt b (zR.2 hb)
 ·exact h.v.own.lt b (zR.2 hb)

theorem BV.Own.only {bs:List Nat} {w w':World} {base:Nat} {x:BV} (h:x.Own w base) (ho:Only bs w w') (hn:∀b∈x.blks,b∉bs):x.Own w' base :=
 ⟨ho.own h.ports (fun k hk=>hn k (zaP.2 (.inl (zR.1 hk)))),ho.own h.f (fun k hk=>hn k (zaP.2 (.inr (.inl (zR.1 hk))))),
  ⟨ho.own h.v.rows (fun k hk=>hn k (zaP.2 (.inr (.inr (.inl (zR.1 hk)))))),ho.own h.v.own (fun k hk=>hn k (zaP.2 (.inr (.inr (.inr (zR.1 hk)))))),h.v.i64⟩⟩

theorem zcx (a:Option Addr):(blkL a).Nodup:=by cases a <;> simp [blkL]

theorem BV.Own.nd {w:World} {base:Nat} {x:BV} (h:x.Own w base):x.blks.Nodup:=by
 unfold BV.blks;have d:∀{e e':TypeId} {s s' n n' m m' c c':Nat} {a a':Option Addr} {xs xs':List Value},w.ownsRow base e s (.slice a n c) m xs→w.ownsRow base e' s' (.slice a' n' c') m' xs'→e≠e'→∀b∈blkL a,b∉blkL a':=fun h h' hne b hb hc=>zb7 h h' hne (zR.2 hb) (zR.2 hc)
 have h12:=d h.ports h.f (by decide);have h13:=d h.ports h.v.rows (by decide);have h14:=d h.ports h.v.own (by decide);have h23:=d h.f h.v.rows (by decide);have h24:=d h.f h.v.own (by decide);have h34:=d h.v.rows h.v.own (by decide);refine List.nodup_append.2 ⟨zcx _,List.nodup_append.2 ⟨zcx _,List.nodup_append.2 ⟨zcx _,zcx _, ?_⟩, ?_⟩, ?_⟩
 ·intro a ha b hb e; subst e; exact h34 a ha hb
 ·intro a ha b hb e; subst e
  rcases List.mem_append.1 hb with hb | hb
  ·exact h23 a ha hb
  ·exact h24 a ha hb
 ·intro a ha b hb e; subst e
  rcases List.mem_append.1 hb with hb | hb
  ·exact h12 a ha hb
  ·rcases List.mem_append.1 hb with hb | hb
   ·exact h13 a ha hb
   ·exact h14 a ha hb

structure BOs (w:World) (base:Nat) (ao:Option Addr) (n cap:Nat) (l:List BV):Prop where
 row:w.ownsRow base 64 11 (.slice ao n cap) n (brF.all l)
 item:∀x∈l,x.Own w base
 apart:(l.flatMap BV.blks).Nodup

def allB (ao:Option Addr) (l:List BV):List Nat:=blkL ao++l.flatMap BV.blks

theorem BOs.grow {w:World} {base:Nat} {ao:Option Addr} {n cap:Nat} {l:List BV} (h:BOs w base ao n cap l):GRow brF w ao n cap l:=zB (F:=brF) h.row
theorem BOs.below {w w':World} {base:Nat} {ao:Option Addr} {n cap:Nat} {l:List BV} (h:BOs w base ao n cap l) (hb:Below w.heap.size w w'):BOs w' base ao n cap l :=
 ⟨zbO h.row hb,fun x hx=>(h.item x hx).below hb,h.apart⟩
theorem BOs.lt {w:World} {base base':Nat} {ao:Option Addr} {n cap:Nat} {l:List BV} (h:BOs w base ao n cap l) (hb:base'≤base):BOs w base' ao n cap l :=
 ⟨zlO h.row hb,fun x hx=>(h.item x hx).lt hb,h.apart⟩
theorem BOs.only {bs:List Nat} {w w':World} {base:Nat} {ao:Option Addr} {n cap:Nat} {l:List BV} (h:BOs w base ao n cap l) (ho:Only bs w w') (hn:∀b∈allB ao l,b∉bs):BOs w' base ao n cap l :=
 ⟨ho.own h.row (fun k hk=>hn k (List.mem_append_left _ (zR.1 hk))),fun x hx=>(h.item x hx).only ho (fun b hb=>hn b (List.mem_append_right _ (List.mem_flatMap.2 ⟨x,hx,hb⟩))),h.apart⟩
theorem BOs.blk {w:World} {base:Nat} {ao:Option Addr} {n cap:Nat} {l:List BV} (h:BOs w base ao n cap l):∀b∈allB ao l,base≤b∧b < w.heap.size:=by
 intro b hb;rcases List.mem_append.1 hb with hb | hb
 ·exact h.row.lt b (zR.2 hb)
 ·obtain ⟨x,hx,hb⟩:=List.mem_flatMap.1 hb;exact (h.item x hx).blk b hb

theorem BV.Own.row_apart {w:World} {base base':Nat} {ao:Option Addr} {n cap:Nat} {xs:List Value} (hr:w.ownsRow base' 64 11 (.slice ao n cap) n xs) {x:BV} (h:x.Own w base):∀b∈x.blks,b∉blkL ao:=by
 intro b hb hc;rcases zaP.1 hb with hb | hb | hb | hb
 ·exact zb7 h.ports hr (by decide) (zR.2 hb) (zR.2 hc)
 ·exact zb7 h.f hr (by decide) (zR.2 hb) (zR.2 hc)
 ·exact zb7 h.v.rows hr (by decide) (zR.2 hb) (zR.2 hc)
 ·exact zb7 h.v.own hr (by decide) (zR.2 hb) (zR.2 hc)

theorem zdv {pre post:List BV} {x:BV} (h:((pre++x::post).flatMap BV.blks).Nodup):∀y,y∈pre∨y∈post→∀b∈y.blks,b∉x.blks:=by
 rw [List.flatMap_append,List.flatMap_cons] at h;obtain ⟨h1,h2,h3⟩:=List.nodup_append.1 h;obtain ⟨h4,h5,h6⟩:=List.nodup_append.1 h2;intro y hy b hb hx;rcases hy with hy | hy
 ·exact h3 b (List.mem_flatMap.2 ⟨y,hy,hb⟩) b (List.mem_append_left _ hx) rfl
 ·exact h6 b hx b (List.mem_flatMap.2 ⟨y,hy,hb⟩) rfl

theorem zhK {pre post:List BV} {x y:BV} (h:y∈pre∨y∈post):y∈pre++x::post:=by
 rcases h with h | h
 ·exact List.mem_append_left _ h
 ·exact List.mem_append_right _ (List.mem_cons_of_mem _ h)

theorem BOs.turn {bs:List Nat} {w w':World} {base:Nat} {ao:Option Addr} {n cap:Nat} {pre post:List BV} {x x':BV} (h:BOs w base ao n cap (pre++x::post)) (hb:∀y,y∈pre∨y∈post→∀b∈y.blks,b∉x'.blks) (ho:Only bs w w') (hs:∀b∈bs,b∈x.blks∨b∈blkL ao)
  (hr:w'.ownsRow base 64 11 (.slice ao n cap) n (brF.all (pre++x'::post))) (hx:x'.Own w' base):BOs w' base ao n cap (pre++x'::post) where
 row:=hr
 item:=by
  intro y hy;have hm:=zdv h.apart;have keep:(y∈pre∨y∈post)→y.Own w' base:=fun hy=>(h.item y (zhK hy)).only ho (fun b hb hbs=>by
   rcases hs b hbs with h1 | h1
   ·exact hm y hy b hb h1
   ·exact BV.Own.row_apart h.row (h.item y (zhK hy)) b hb h1)
  rcases List.mem_append.1 hy with hy | hy
  ·exact keep (.inl hy)
  ·rcases List.mem_cons.1 hy with rfl | hy
   ·exact hx
   ·exact keep (.inr hy)
 apart:=by
  have ha:=h.apart;rw [List.flatMap_append,List.flatMap_cons] at ha ⊢;obtain ⟨h1,h2,h3⟩:=List.nodup_append.1 ha;obtain ⟨-,h5,-⟩:=List.nodup_append.1 h2;refine List.nodup_append.2 ⟨h1,List.nodup_append.2 ⟨hx.nd,h5, ?_⟩, ?_⟩
  ·intro a ha b hb' e;subst e;obtain ⟨z,hz,hb'⟩:=List.mem_flatMap.1 hb';exact hb z (.inr hz) a hb' ha
  ·intro a ha b hb' e;subst e;rcases List.mem_append.1 hb' with hb' | hb'
   ·obtain ⟨z,hz,ha⟩:=List.mem_flatMap.1 ha;exact hb z (.inl hz) a ha hb'
   ·exact h3 a ha a (List.mem_append_right _ hb') rfl

theorem BOs.put {w w1 w':World} {base g n cap:Nat} {pre post:List BV} {x y:BV} (h:BOs w base (some ⟨g,0,none⟩) n cap (pre++x::post)) (hb:Below w.heap.size w w1) (hy:y.Own w1 w.heap.size) (hbs:base≤w.heap.size) (hg:w1.grownBy w' (some g))
  (hr:w'.ownsRow base 64 11 (.slice (some ⟨g,0,none⟩) n cap) n (brF.all (pre++y::post))):BOs w' base (some ⟨g,0,none⟩) n cap (pre++y::post):=by
 have O:Only [g] w1 w':=by have:=Only.of_grown (ao:=some ⟨g,0,none⟩) (n:=n) (c:=cap) hg; simpa [blkL] using this
 have hgl:g < w.heap.size:=(h.row.lt g rfl).2;refine (h.below hb).turn (bs:=[g]) ?_ O (fun b hb'=>.inr (by simpa [blkL] using hb')) hr ((hy.only O (fun b hb' hc=>by have:=(hy.blk b hb').1; simp at hc; omega)).lt hbs);intro z hz b hb1 hb2;have h1:=((h.item z (zhK hz)).blk b hb1).2;have h2:=(hy.blk b hb2).1;omega

theorem BOs.push {w w1 w':World} {base:Nat} {ao ao':Option Addr} {n cap cap':Nat} {l:List BV} {y:BV} (h:BOs w base ao n cap l) (hb:Below w.heap.size w w1) (hy:y.Own w1 w.heap.size) (hbs:base≤w.heap.size) (hg:w1.grownBy w' (Value.slice ao n cap).ownBlock)
  (hr:w'.ownsRow base 64 11 (.slice ao' (n+1) cap') (n+1) (brF.all (l++[y]))):BOs w' base ao' (n+1) cap' (l++[y]):=by
 have O:=Only.of_grown hg;have hk:=h.below hb;have hlt:=h.row.lt;refine ⟨hr, ?_, ?_⟩
 ·intro z hz;rcases List.mem_append.1 hz with hz | hz
  ·exact (hk.item z hz).only O (BV.Own.row_apart hk.row (hk.item z hz))
  ·rw [List.mem_singleton.1 hz];exact (hy.only O (fun b hb' hc=>by have h1:=(hy.blk b hb').1; have h2:=(hlt b (zR.2 hc)).2; omega)).lt hbs
 ·rw [List.flatMap_append];refine List.nodup_append.2 ⟨h.apart,by simpa using hy.nd, ?_⟩;intro a ha b hb' e;subst e;obtain ⟨z,hz,ha⟩:=List.mem_flatMap.1 ha;have h1:=((h.item z hz).blk a ha).2;have h2:=(hy.blk a (by simpa using hb')).1;omega

theorem za4 (w:World) (base:Nat):BOs w base none 0 0 []:=⟨World.ownsRow_nil _ _ _ _,(by intro x hx; cases hx),List.nodup_nil⟩

structure zjk (w:World) (base:Nat) (M:NV):Prop where
 b:BOs w base M.ba M.bn M.bc M.bs
 l:w.ownsRow base 98 4 (.slice M.la M.ln M.lc) M.ln (linkF.all M.ls)
 s:M.sa=none∧M.sn=0∧M.sc=0∧M.ss=[]

structure NOwn (w:World) (base:Nat) (M:NV):Prop where
 b:BOs w base M.ba M.bn M.bc M.bs
 l:w.ownsRow base 98 4 (.slice M.la M.ln M.lc) M.ln (linkF.all M.ls)
 s:w.ownsRow base 105 7 (.slice M.sa M.sn M.sc) M.sn (sayF.all M.ss)

theorem zjk.all {w:World} {base:Nat} {M:NV} (h:zjk w base M):NOwn w base M :=
 ⟨h.b,h.l,by rw [h.s.1,h.s.2.1,h.s.2.2.1,h.s.2.2.2]; exact World.ownsRow_nil _ _ _ _⟩
theorem NOwn.row {w:World} {base:Nat} {M:NV} (h:NOwn w base M):zae w M :=
 ⟨h.b.grow,fun x hx=>(h.b.item x hx).row,zB (F:=linkF) h.l,zB (F:=sayF) h.s⟩
theorem NOwn.below {w w':World} {base:Nat} {M:NV} (h:NOwn w base M) (hb:Below w.heap.size w w'):NOwn w' base M:=⟨h.b.below hb,zi h.l hb,zi h.s hb⟩
theorem NOwn.lt {w:World} {base base':Nat} {M:NV} (h:NOwn w base M) (hb:base'≤base):NOwn w base' M:=⟨h.b.lt hb,zD h.l hb,zD h.s hb⟩

theorem bs_at {N:NV} {i:Nat} {y:BR} (hy:N.brs[i]?=some y):∃x,N.bs[i]?=some x∧x.B=y:=by
 unfold NV.brs at hy;rw [List.getElem?_map] at hy;cases hx:N.bs[i]? with
 | none=>rw [hx] at hy; cases hy
 | some x=>rw [hx] at hy; exact ⟨x,rfl,Option.some.inj hy⟩

theorem zaF {P:Prop} (h:¬P):(false=true)↔P:=⟨fun e=>(by cases e),fun p=>absurd p h⟩
theorem zdE {P:Prop} (h:P):(true=true)↔P:=⟨fun _=>h,fun _=>rfl⟩

theorem zeA (N:NV) (w:World) (h:zae w N) (hsm:N.ln≤16777216) :
  Calls Tryz.prog 48 #[.agg #[.slice N.ba N.bn N.bc,.slice N.la N.ln N.lc,.slice N.sa N.sn N.sc]] w fun e w'=>∃q:Bool,e=.returned (.bool q)∧(q=true↔zaQ N.brs∧Quiet N.brs N.ls)∧Below w.heap.size w w':=by
 have hle:=Nat.le_trans h.b.le h.b.top;unfold maxLen at hle;have hsz:=hide h.b.size;go_enter Tryz.func48,Tryz.ntmps48;go_wp2_with fail
 generalize hw1:w.alloc (Obj.cells #[.slice N.ba N.bn N.bc,.slice N.la N.ln N.lc,.slice N.sa N.sn N.sc] 34)=w1;have b01:=zb hw1;have k1:=zk hw1;clear hw1
 go_loopw [3] (fun i wr=>∃k:Nat,k≤N.bn∧i=.int .i64 k∧(∀y∈N.brs.take k,zG y=true)∧(∀(i j:Nat) (x y:BR),i < j→j < k→N.brs[i]?=some x→N.brs[j]?=some y→x.id≠y.id)∧(∀(i:Nat) (B:BR),i < k→N.brs[i]?=some B→zd0 N.ls i B)∧wr.heap[w.heap.size]?=some (.cells #[.slice N.ba N.bn N.bc,.slice N.la N.ln N.lc,.slice N.sa N.sn N.sc] 34)∧Below w.heap.size w wr) (fun i _=>N.bn - (intOf i).toNat)
 case atStart=>exact ⟨0,Nat.zero_le _,rfl,by intro y hy; simp at hy,by intro i j x y _ hj; omega,by intro i B hi; omega,k1,b01⟩
 case round =>
  obtain ⟨k,hk,rfl,hok,hid,hqt,hbox,hb⟩:=hrel;clear k1 b01;obtain ⟨x0,x1,x2⟩:=zd hbox;by_cases hlt:k < N.bn
  ·obtain ⟨x,bb,off,hx,hba,c0,c1,c2,c3,c4,c5,c6,c7,c8,c9,c10⟩:=br_at (h.b.below hb) k hlt;have hG:GRow brF w (some ⟨bb,off,none⟩) N.bn N.bc N.bs:=by rw [← hba]; exact h.b
   have hrow:=h.item x (List.mem_of_getElem? hx);rw [hba] at x0;have HBA:=hide hba;clear hba;have i1:(0:Int)≤(k:Int):=by omega
   have i2:(k:Int) < (N.bn:Int):=by omega
   have HBX:=hide (zf7 hx);have HX:=hide hx;have HOK:=hide hok;have HID:=hide hid;have HQT:=hide hqt;have HBOX:=hide hbox;have HB:=hide hb;clear hx hok hid hqt hbox;(go_wp2_with fail);refine (zbd x.a x.n x.c x.fa x.fn x.fc x.ra x.rn x.rc x.oa x.on x.oc x.B _ (hrow.below hb)).mono ?_;rintro e w2 ⟨rfl,hb2⟩;have hb3:=zc HB.out hb2;have hbox3:=za HBOX.out hb2;clear c0 c1 c2 c3 c4 c5 c6 c7 c8 c9 c10 x0 x1 x2 hb hb2 HB HBOX;cases hB:zG x.B
   ·have HNO:Hid ((false=true)↔zaQ N.brs∧Quiet N.brs N.ls):=hide (zaF fun hp=>by have:=hp.1.1 x.B (List.mem_of_getElem? HBX.out); rw [hB] at this; cases this);go_wp2;go_ret;exact ⟨false,rfl,HNO.out,hb3⟩
   ·have HOK':=hide (zbI HBX.out HOK.out hB);(go_wp2_with fail)
    go_loopw [4] (fun i wr=>∃m:Nat,m≤k∧i=.int .i64 m∧(∀(i:Nat) (y:BR),i < m→N.brs[i]?=some y→y.id≠x.B.id)∧wr.heap[w.heap.size]?=some (.cells #[.slice N.ba N.bn N.bc,.slice N.la N.ln N.lc,.slice N.sa N.sn N.sc] 34)∧Below w.heap.size w wr) (fun i _=>k - (intOf i).toNat)
    case atStart=>exact ⟨0,Nat.zero_le _,rfl,by intro i y hi; omega,hbox3,hb3⟩
    case round =>
     obtain ⟨m,hm,rfl,hne,hbox4,hb4⟩:=hrel;clear hbox3 hb3;obtain ⟨x0,x1,x2⟩:=zd hbox4;rw [HBA.out] at x0;by_cases hmk:m < k
     ·obtain ⟨y,hy⟩:∃y,N.bs[m]?=some y:=⟨N.bs[m]'(by have:=hsz.out; omega),List.getElem?_eq_getElem (by have:=hsz.out; omega)⟩;have cx:=(zO hG hb4 HX.out).1;have cy:=(zO hG hb4 hy).1;have i3:(0:Int)≤(m:Int):=by omega
      have i4:(m:Int) < (N.bn:Int):=by omega
      have i5:(m:Int) < (k:Int):=by omega
      have HY:=hide (zf7 hy);have HB4:=hide (zp hb4);have HBOX4:Hid (wr.drew.heap[w.heap.size]?=some (.cells #[.slice N.ba N.bn N.bc,.slice N.la N.ln N.lc,.slice N.sa N.sn N.sc] 34)):=hide hbox4;have HNE:=hide hne;clear hy hne hb4 hbox4;by_cases he:y.B.id=x.B.id
      ·have HNO:Hid ((false=true)↔zaQ N.brs∧Quiet N.brs N.ls):=hide (zaF fun hp=>absurd he (hp.1.2.1 m k _ _ hmk HY.out HBX.out));(go_wp2_with fail)
       go_region
       go_wp2;go_ret;exact ⟨false,rfl,HNO.out,HB4.out⟩
      ·have HNX:Hid (∀(i:Nat) (z:BR),i < m+1→N.brs[i]?=some z→z.id≠x.B.id):=hide (fun i z hi hz=>by
        by_cases him:i=m
        ·subst him; rw [HY.out] at hz; cases hz; exact he
        ·exact HNE.out i z (by omega) hz)
       (go_wp2_with fail)
       go_region
       go_wp2
       go_roundw
       case rel=>exact ⟨m+1,by omega,by go_num,HNX.out,HBOX4.out,HB4.out⟩
       case measure=>simp [intOf]; omega
     ·have hmk':m=k:=by omega
      subst hmk';have HID':Hid (∀(i j:Nat) (u v:BR),i < j→j < m+1→N.brs[i]?=some u→N.brs[j]?=some v→u.id≠v.id):=hide (fun i j u v hij hj hu hv=>by
       by_cases hjm:j=m
       ·subst hjm; rw [HBX.out] at hv; cases hv; exact hne i u hij hu
       ·exact HID.out i j u v hij (by omega) hu hv)
      have hpl:=Nat.le_trans hrow.ports.le hrow.ports.top;unfold maxLen at hpl;clear hne;(go_wp2_with fail)
      go_loopw [5] (fun i wr=>∃p:Nat,p≤x.n∧i=.int .i64 p∧(∀(i:Nat) (y:PT),i < p→x.B.ports[i]?=some y→y.has=true→usedL N.ls (m:Int) (i:Int)≠0)∧wr.heap[w.heap.size]?=some (.cells #[.slice N.ba N.bn N.bc,.slice N.la N.ln N.lc,.slice N.sa N.sn N.sc] 34)∧Below w.heap.size w wr) (fun i _=>x.n - (intOf i).toNat)
      case atStart=>exact ⟨0,Nat.zero_le _,rfl,by intro i y hi; omega,hbox4,hb4⟩
      case round =>
       obtain ⟨p,hp,rfl,hq,hbox5,hb5⟩:=hrel;clear hbox4 hb4 x0 x1 x2;obtain ⟨x0,x1,x2⟩:=zd hbox5;rw [HBA.out] at x0;have cx:=(zO hG hb5 HX.out).2.2.1;by_cases hpn:p < x.n
       ·obtain ⟨y,pb,po,hy,hpa,-,-,d2,-⟩:=pt_at (hrow.ports.below hb5) p hpn;rw [hpa] at cx;clear hpa;have i3:(0:Int)≤(p:Int):=by omega
        have i4:(p:Int) < (x.n:Int):=by omega
        have HQ:=hide hq;have HBOX5:=hide hbox5;have HY:=hide hy;have HB5:=hide hb5;clear hq hbox5 hy;cases hh:y.has
        ·rw [hh] at d2;have HNX:Hid (∀(i:Nat) (z:PT),i < p+1→x.B.ports[i]?=some z→z.has=true→usedL N.ls (m:Int) (i:Int)≠0):=hide (fun i z hi hz hzh=>by
          by_cases hip:i=p
          ·subst hip; rw [HY.out] at hz; cases hz; rw [hh] at hzh; cases hzh
          ·exact HQ.out i z (by omega) hz hzh)
         clear hb5;go_wp2
         go_roundw
         case rel=>exact ⟨p+1,by omega,by go_num,HNX.out,HBOX5.out,HB5.out⟩
         case measure=>simp [intOf]; omega
        ·rw [hh] at d2;have hN:=h.below hb5;(go_wp2_with fail);refine (zdO ⟨some ⟨bb,off,none⟩,N.bn,N.bc,N.bs,N.la,N.ln,N.lc,N.ls,N.sa,N.sn,N.sc,N.ss⟩ (m:Int) (p:Int) _ ⟨hG.below hb5,hN.item,hN.l,hN.s⟩ hsm).mono ?_;rintro e w6 ⟨rfl,hb6⟩;have hbox6:=za HBOX5.out hb6;have hb7:=zc HB5.out hb6;have hul:=zkv N.ls (m:Int) (p:Int);rw [h.l.size] at hul;clear x0 x1 x2 d2 cx hb5 hb6 HBOX5 HB5 hN;dsimp only;by_cases hu:usedL N.ls (m:Int) (p:Int)=0
         ·have HNO:Hid ((false=true)↔zaQ N.brs∧Quiet N.brs N.ls):=hide (zaF fun hp=>hp.2 m x.B HBX.out p y HY.out hh hu);go_wp2;go_ret;exact ⟨false,rfl,HNO.out,hb7⟩
         ·have hu':¬((usedL N.ls (m:Int) (p:Int):Int)=0):=by omega
          have HNX:Hid (∀(i:Nat) (z:PT),i < p+1→x.B.ports[i]?=some z→z.has=true→usedL N.ls (m:Int) (i:Int)≠0):=hide (fun i z hi hz hzh=>by
           by_cases hip:i=p
           ·subst hip; exact hu
           ·exact HQ.out i z (by omega) hz hzh)
          generalize hU:usedL N.ls (m:Int) (p:Int)=U at *;go_wp2
          go_roundw
          case rel=>exact ⟨p+1,by omega,by go_num,HNX.out,hbox6,hb7⟩
          case measure=>simp [intOf]; omega
       ·have hpx:p=x.n:=by omega
        have HQT':Hid (∀(i:Nat) (B:BR),i < m+1→N.brs[i]?=some B→zd0 N.ls i B):=hide (fun i B hi hB=>by
         by_cases him:i=m
         ·subst him;rw [HBX.out] at hB;cases hB;intro q y hy hyh;exact hq q y (by have:=(List.getElem?_eq_some_iff.1 hy).1; have:=hrow.ports.size; omega) hy hyh
         ·exact HQT.out i B (by omega) hB)
        have HBOX5:=hide hbox5;have HB5:=hide hb5;clear hq hbox5 hb5;go_wp2
        go_roundw
        case rel=>exact ⟨m+1,by omega,by go_num,HOK'.out,HID'.out,HQT'.out,HBOX5.out,HB5.out⟩
        case measure=>simp [intOf]; omega
  ·have hkn:k=N.bn:=by omega
   have hlen:N.brs.length=N.bn:=by rw [zdw]; exact hsz.out
   rw [List.take_of_length_le (by omega)] at hok;have lt_of:∀{i:Nat} {y:BR},N.brs[i]?=some y→i < k:=fun hy=>by have:=(List.getElem?_eq_some_iff.1 hy).1; omega
   have HP:Hid (((decide (1≤(N.bn:Int)) && decide ((N.bn:Int)≤6))=true)↔zaQ N.brs∧Quiet N.brs N.ls):=hide (by
    constructor
    ·intro hq
     simp at hq
     exact ⟨⟨hok,fun i j x y hij hx hy=>hid i j x y hij (lt_of hy) hx hy,by omega,by omega⟩,fun i B hB=>hqt i B (lt_of hB) hB⟩
    ·rintro ⟨⟨-,-,h1,h2⟩,-⟩
     simp
     omega)
   clear hok hid hqt lt_of;subst hkn;(go_wp2_with fail);refine (zh (N.bn:Int) 1 6 _).mono ?_;rintro e w2 ⟨rfl,ew⟩;obtain rfl:=ew.symm;generalize hQ:(decide (1≤(N.bn:Int)) && decide ((N.bn:Int)≤6))=Q at *;go_wp2;go_ret;exact ⟨Q,rfl,HP.out,hb⟩

end Go.Proofs.YtpaneiaflfegoaaGreat
