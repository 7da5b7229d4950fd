/-
  Packed: BrNewS BrBuild NetHelp NetOwn NetOwnA NetBeside.
-/
import Derived.Test.YtkaefmfopejbaaaGreatPABrOkS
import Derived.Test.YtkaefmfopejbaaaGreatPAFentHelp
import Derived.Test.YtkaefmfopejbaaaGreatPAK10
namespace Go.Proofs.YtkaefmfopejbaaaGreat
set_option maxRecDepth 100000
set_option maxHeartbeats 16000000
open Go.RowKit

def newPt:PT:=⟨false,1,false,⟨0,0,0,0,0⟩⟩
def zh9:BR:=⟨0,ByteArray.empty,[],[],⟨[],[]⟩,0,0,0,0,0⟩
def zac (id:Int) (m:Nat):BR:=⟨id,ByteArray.empty,List.replicate m newPt,[],zdb m,0,0,0,0,0⟩

theorem BrOwn.boxed11 {w:World} {base:Nat} {a:Option Addr} {n c:Nat} {fa:Option Addr} {fn fc:Nat} {ra:Option Addr} {rn rc:Nat} {oa:Option Addr} {on oc:Nat} {B:BR} (h:BrOwn w base a n c fa fn fc ra rn rc oa on oc B) {X:Nat} {cs:Array Value} (hX:w.heap[X]? = some (.cells cs 44)) (u0 u1 u2 u3 u4 u5 u6 u7 u8 u9 u10:Value):BrOwn (((((((((((w.setCell ⟨X,0,none⟩ u0).setCell ⟨X,1,none⟩ u1).setCell ⟨X,2,none⟩ u2).setCell ⟨X,3,none⟩ u3).setCell ⟨X,4,none⟩ u4).setCell ⟨X,5,none⟩ u5).setCell ⟨X,6,none⟩ u6).setCell ⟨X,7,none⟩ u7).setCell ⟨X,8,none⟩ u8).setCell ⟨X,9,none⟩ u9).setCell ⟨X,10,none⟩ u10) base a n c fa fn fc ra rn rc oa on oc B :=
 (BrOwn.boxed (BrOwn.boxed (BrOwn.boxed (BrOwn.boxed (BrOwn.boxed (BrOwn.boxed (BrOwn.boxed (BrOwn.boxed (BrOwn.boxed (BrOwn.boxed (BrOwn.boxed h hX 0 u0) (box11 hX 0 u0) 1 u1) (box11 (box11 hX 0 u0) 1 u1) 2 u2) (box11 (box11 (box11 hX 0 u0) 1 u1) 2 u2) 3 u3) (box11 (box11 (box11 (box11 hX 0 u0) 1 u1) 2 u2) 3 u3) 4 u4) (box11 (box11 (box11 (box11 (box11 hX 0 u0) 1 u1) 2 u2) 3 u3) 4 u4) 5 u5) (box11 (box11 (box11 (box11 (box11 (box11 hX 0 u0) 1 u1) 2 u2) 3 u3) 4 u4) 5 u5) 6 u6) (box11 (box11 (box11 (box11 (box11 (box11 (box11 hX 0 u0) 1 u1) 2 u2) 3 u3) 4 u4) 5 u5) 6 u6) 7 u7) (box11 (box11 (box11 (box11 (box11 (box11 (box11 (box11 hX 0 u0) 1 u1) 2 u2) 3 u3) 4 u4) 5 u5) 6 u6) 7 u7) 8 u8) (box11 (box11 (box11 (box11 (box11 (box11 (box11 (box11 (box11 hX 0 u0) 1 u1) 2 u2) 3 u3) 4 u4) 5 u5) 6 u6) 7 u7) 8 u8) 9 u9) (box11 (box11 (box11 (box11 (box11 (box11 (box11 (box11 (box11 (box11 hX 0 u0) 1 u1) 2 u2) 3 u3) 4 u4) 5 u5) 6 u6) 7 u7) 8 u8) 9 u9) 10 u10)

theorem zam {K:Nat} {a w:World} (h:Below K a w) {g:Nat} (hB:K≤g) (u0 u1 u2 u3 u4 u5 u6 u7 u8 u9 u10:Value):Below K a (((((((((((w.setCell ⟨g,0,none⟩ u0).setCell ⟨g,1,none⟩ u1).setCell ⟨g,2,none⟩ u2).setCell ⟨g,3,none⟩ u3).setCell ⟨g,4,none⟩ u4).setCell ⟨g,5,none⟩ u5).setCell ⟨g,6,none⟩ u6).setCell ⟨g,7,none⟩ u7).setCell ⟨g,8,none⟩ u8).setCell ⟨g,9,none⟩ u9).setCell ⟨g,10,none⟩ u10) :=
 (zr (zr (zr (zr (zr (zr (zr (zr (zr (zr (zr h hB 0 u0) hB 1 u1) hB 2 u2) hB 3 u3) hB 4 u4) hB 5 u5) hB 6 u6) hB 7 u7) hB 8 u8) hB 9 u9) hB 10 u10)

theorem zgF (w:World) (base:Nat):BrOwn w base none 0 0 none 0 0 none 0 0 none 0 0 zh9:=⟨World.ownsRow_nil _ _ _ _,World.ownsRow_nil _ _ _ _,zjH w base⟩

theorem zem (id:Int) (m:Nat) (w:World) (hid:(decide (1≤id) && decide (id≤99))=true) (hm:(decide (1≤(m:Int)) && decide ((m:Int)≤6))=true) :
  Calls Tryz.prog 70 #[.int .i64 id,.int .i64 m] w fun e w'=>∃(a:Option Addr) (c:Nat) (ra:Option Addr) (rn rc:Nat) (oa:Option Addr) (on oc:Nat),e=.returned (.agg #[.int .i64 id,.string ⟨#[]⟩,.slice a m c,.slice none 0 0,.slice ra rn rc,.slice oa on oc,.int .i64 0,.int .i64 0,.int .i64 0,.int .i64 0,.int .i64 0])∧BrOwn w' w.heap.size a m c none 0 0 ra rn rc oa on oc (zac id m)∧Below w.heap.size w w':=by
 have h6:m≤6:=by simp at hm; omega
 have HID:=hide hid;have HM:=hide hm;clear hid hm;generalize hw1:w.alloc (Obj.cells #[.int .i64 0,.string ⟨#[]⟩,.slice none 0 0,.slice none 0 0,.slice none 0 0,.slice none 0 0,.int .i64 0,.int .i64 0,.int .i64 0,.int .i64 0,.int .i64 0] 44)=w1;have b1:=zb hw1;have kJ:=zk hw1;go_enter Tryz.func70,Tryz.ntmps70;go_wp2_with fail
 refine (zg id 1 99 _).mono ?_;rintro r wx ⟨rfl,ew⟩;obtain rfl:=ew.symm;rw [HID.out];go_wp2_with fail
 refine (zg (m:Int) 1 6 _).mono ?_;rintro r wx ⟨rfl,ew⟩;obtain rfl:=ew.symm;rw [HM.out];go_wp2_with fail
 refine (zeT (m:Int) _).mono ?_;rintro r w2 ⟨ra,rn,rc,oa,on,oc,rfl,hv,hb2⟩;have hv:=hv.lt (base':=w.heap.size) b1.size;have b2:=zc b1 hb2;have kJ:=za kJ hb2;clear hw1 hb2 b1;go_upto_region 4 with fail
 generalize hw3:w2.alloc (Obj.cells #[.int .i64 id,.string ⟨#[]⟩,.slice none 0 0,.slice none 0 0,.slice ra rn rc,.slice oa on oc,.int .i64 0,.int .i64 0,.int .i64 0,.int .i64 0,.int .i64 0] 44)=w3;have b3:=zb hw3;have kX:=zk hw3;have kJ:=za kJ b3;have o3:BrOwn w3 w.heap.size none 0 0 none 0 0 ra rn rc oa on oc { zac id m with ports:=List.replicate 0 newPt }:=⟨World.ownsRow_nil _ _ _ _,World.ownsRow_nil _ _ _ _,hv.below b3⟩;have HX:Hid (w.heap.size < w2.heap.size):=hide (Array.getElem?_eq_some_iff.1 (show w2.heap[w.heap.size]? = some (.cells #[.int .i64 0,.string ⟨#[]⟩,.slice none 0 0,.slice none 0 0,.slice none 0 0,.slice none 0 0,.int .i64 0,.int .i64 0,.int .i64 0,.int .i64 0,.int .i64 0] 44) from by assumption)).1;have b3:=zc b2 b3;clear hw3 b2 hv;go_wp2_with fail
 go_loopw [6] (fun i wr=>∃(k:Nat) (a:Option Addr) (c:Nat),k≤m∧i=.int .i64 k∧wr.heap[w.heap.size]? = some (.cells #[.int .i64 0,.string ⟨#[]⟩,.slice none 0 0,.slice none 0 0,.slice none 0 0,.slice none 0 0,.int .i64 0,.int .i64 0,.int .i64 0,.int .i64 0,.int .i64 0] 44)∧wr.heap[w2.heap.size]? = some (.cells #[.int .i64 id,.string ⟨#[]⟩,.slice a k c,.slice none 0 0,.slice ra rn rc,.slice oa on oc,.int .i64 0,.int .i64 0,.int .i64 0,.int .i64 0,.int .i64 0] 44)∧BrOwn wr w.heap.size a k c none 0 0 ra rn rc oa on oc { zac id m with ports:=List.replicate k newPt }∧Below w.heap.size w wr) (fun i _=>m - (intOf i).toNat)
 case atStart=>exact ⟨0,none,0,Nat.zero_le _,rfl,kJ,kX,o3,b3⟩
 case round =>
  obtain ⟨k,a,c,hk,rfl,kJ,kX,o,hb⟩:=hrel;clear o3 b3;obtain ⟨x0,x1,x2,x3,x4,x5,x6,x7,x8,x9,x10⟩:=zx kX;by_cases hlt:k < m
  ·have b9:=zl wr (.cells #[.bool false,.int .i64 1,.bool false,.int .i64 0,.int .i64 0,.int .i64 0,.int .i64 0,.int .i64 0] 53);have o9:=o.below b9;have p9:=o9.ports;have kX9:=za kX b9;have kR9:=za kJ b9;have HB9:=hide (zc hb b9);have hbase9:w.heap.size≤(wr.alloc (.cells #[.bool false,.int .i64 1,.bool false,.int .i64 0,.int .i64 0,.int .i64 0,.int .i64 0,.int .i64 0] 53)).heap.size:=HB9.out.size;have HO9:=hide o9;have KX9:=hide kX9;have KR9:=hide kR9;clear hb b9 o9 kX9 kR9 o kX kJ;go_wp2_with (at_builtin; refine zfC _ rfl _ _ rfl w.heap.size _ k (List.replicate k newPt) rfl p9 _ 1 1 [newPt] rfl (zb8 ptF _ newPt _ _ rfl) (by omega) hbase9 ?_)
   rintro a' c' wz oz - gz bz;have kz:=ze KX9.out gz (fun i e=>zA HO9.out.ports KX9.out (by decide) i e);have rz:=ze KR9.out gz (fun i e=>zA HO9.out.ports KR9.out (by decide) i e);have hrep:List.replicate k newPt++[newPt]=List.replicate (k+1) newPt:=by rw [List.replicate_succ']
   rw [hrep] at oz;have on:=HO9.out.newPorts gz oz;have HON:=hide (BrOwn.boxed on kz 2 (.slice a' (k+1) c'));have HKX:=hide (box11 kz 2 (.slice a' (k+1) c'));have HKR:Hid ((wz.setCell ⟨w2.heap.size,2,none⟩ (.slice a' (k+1) c')).heap[w.heap.size]? = some (.cells #[.int .i64 0,.string ⟨#[]⟩,.slice none 0 0,.slice none 0 0,.slice none 0 0,.slice none 0 0,.int .i64 0,.int .i64 0,.int .i64 0,.int .i64 0,.int .i64 0] 44)):=hide (zar rz (Nat.ne_of_lt HX.out));have HBZ:=hide (zr (g:=w2.heap.size) (HB9.out.trans bz) (Nat.le_of_lt HX.out) 2 (.slice a' (k+1) c'));have fz:=zf kz 2;obtain ⟨-,-,y2,-⟩:=zx kz;clear x0 x1 x2 x3 x4 x5 x6 x7 x8 x9 x10 kz rz gz bz oz on p9 hbase9;go_wp2
   go_roundw
   case rel=>exact ⟨k+1,a',c',by omega,by go_num,HKR.out,HKX.out,HON.out,HBZ.out⟩
   case measure=>simp [intOf]; omega
  ·have hkm:k=m:=by omega
   subst hkm;obtain ⟨z0,z1,z2,z3,z4,z5,z6,z7,z8,z9,z10⟩:=zx kJ;have f0:=zf kJ;have ne1:¬w2.heap.size=w.heap.size:=by have:=HX.out; omega
   have ne2:¬w.heap.size=w2.heap.size:=by have:=HX.out; omega
   have HO:=hide (o.boxed11 kJ (.int .i64 id) (.string ⟨#[]⟩) (.slice a k c) (.slice none 0 0) (.slice ra rn rc) (.slice oa on oc) (.int .i64 0) (.int .i64 0) (.int .i64 0) (.int .i64 0) (.int .i64 0));have HB:=hide (zam hb (Nat.le_refl w.heap.size) (.int .i64 id) (.string ⟨#[]⟩) (.slice a k c) (.slice none 0 0) (.slice ra rn rc) (.slice oa on oc) (.int .i64 0) (.int .i64 0) (.int .i64 0) (.int .i64 0) (.int .i64 0));clear o hb kX kJ;go_wp2;exact bodyPost_ret (v:=.agg #[.int .i64 id,.string ⟨#[]⟩,.slice a k c,.slice none 0 0,.slice ra rn rc,.slice oa on oc,.int .i64 0,.int .i64 0,.int .i64 0,.int .i64 0,.int .i64 0]) (by simp [results,Tryz.results70,go_sem, *]) rfl ⟨a,c,ra,rn,rc,oa,on,oc,rfl,HO.out,HB.out⟩

structure BcSt (w wr:World) (R X:Nat) (cs:Array Value):Prop where
 box:wr.heap[X]? = some (.cells cs 44)
 res:wr.heap[R]? = some (.cells #[.int .i64 0,.string ⟨#[]⟩,.slice none 0 0,.slice none 0 0,.slice none 0 0,.slice none 0 0,.int .i64 0,.int .i64 0,.int .i64 0,.int .i64 0,.int .i64 0] 44)
 below:Below w.heap.size w wr
 hX:w.heap.size≤X
 hR:w.heap.size≤R
 ne:R≠X

theorem BcSt.later {w wr wx:World} {R X:Nat} {cs:Array Value} (h:BcSt w wr R X cs) (hb:Below wr.heap.size wr wx):BcSt w wx R X cs :=
 ⟨za h.box hb,za h.res hb,zc h.below hb,h.hX,h.hR,h.ne⟩

theorem BcSt.put {w wr:World} {R X:Nat} {cs:Array Value} (h:BcSt w wr R X cs) (j:Nat) (u:Value) {cs':Array Value} (he:cs.setIfInBounds j u=cs'):BcSt w (wr.setCell ⟨X,j,none⟩ u) R X cs' :=
 ⟨by rw [← he]; exact box11 h.box j u,zar h.res h.ne,zr h.below h.hX j u,h.hX,h.hR,h.ne⟩

theorem BcSt.grown {w wr wx:World} {R X:Nat} {cs:Array Value} (h:BcSt w wr R X cs) {base k:Nat} {e:TypeId} {v:Value} {n:Nat} {xs:List Value} (ho:wr.ownsRow base e k v n xs) (hne:(e:Nat)≠44) (hg:wr.grownBy wx v.ownBlock) (hb:Below w.heap.size wr wx):BcSt w wx R X cs :=
 ⟨ze h.box hg (fun i e=>zA ho h.box hne i e),ze h.res hg (fun i e=>zA ho h.res hne i e),h.below.trans hb,h.hX,h.hR,h.ne⟩

theorem BcSt.stay {w wr:World} {R X:Nat} {cs:Array Value} (h:BcSt w wr R X cs) {base k:Nat} {e:TypeId} {v:Value} {n:Nat} {xs:List Value} (ho:wr.ownsRow base e k v n xs) (hne:(e:Nat)≠44) (j:Nat) (u:Value):(wr.setCell ⟨X,j,none⟩ u).ownsRow base e k v n xs :=
 zt ho (zj (rb:=X) j u) (zA ho h.box hne)

theorem BcSt.out {w wr:World} {R X:Nat} {cs:Array Value} (h:BcSt w wr R X cs) {base:Nat} {a:Option Addr} {n c:Nat} {fa:Option Addr} {fn fc:Nat} {ra:Option Addr} {rn rc:Nat} {oa:Option Addr} {on oc:Nat} {B:BR} (ho:BrOwn wr base a n c fa fn fc ra rn rc oa on oc B) (u0 u1 u2 u3 u4 u5 u6 u7 u8 u9 u10:Value):BrOwn (((((((((((wr.setCell ⟨R,0,none⟩ u0).setCell ⟨R,1,none⟩ u1).setCell ⟨R,2,none⟩ u2).setCell ⟨R,3,none⟩ u3).setCell ⟨R,4,none⟩ u4).setCell ⟨R,5,none⟩ u5).setCell ⟨R,6,none⟩ u6).setCell ⟨R,7,none⟩ u7).setCell ⟨R,8,none⟩ u8).setCell ⟨R,9,none⟩ u9).setCell ⟨R,10,none⟩ u10) base a n c fa fn fc ra rn rc oa on oc B∧Below w.heap.size w (((((((((((wr.setCell ⟨R,0,none⟩ u0).setCell ⟨R,1,none⟩ u1).setCell ⟨R,2,none⟩ u2).setCell ⟨R,3,none⟩ u3).setCell ⟨R,4,none⟩ u4).setCell ⟨R,5,none⟩ u5).setCell ⟨R,6,none⟩ u6).setCell ⟨R,7,none⟩ u7).setCell ⟨R,8,none⟩ u8).setCell ⟨R,9,none⟩ u9).setCell ⟨R,10,none⟩ u10) :=
 ⟨ho.boxed11 h.res u0 u1 u2 u3 u4 u5 u6 u7 u8 u9 u10,zam h.below h.hR u0 u1 u2 u3 u4 u5 u6 u7 u8 u9 u10⟩

theorem zF {w w':World} {b off n cap:Nat} {l:List BV} (h:GRow brF w (some ⟨b,off,none⟩) n cap l) (hb:Below w.heap.size w w') {i:Nat} {x:BV} (hx:l[i]? = some x) :
  w'.cell? ⟨b,off+i*11,none⟩=some (.int .i64 x.B.id)∧w'.cell? ⟨b,off+i*11+1,none⟩=some (.string x.B.name)∧w'.cell? ⟨b,off+i*11+2,none⟩=some (.slice x.a x.n x.c)∧w'.cell? ⟨b,off+i*11+3,none⟩=some (.slice x.fa x.fn x.fc)∧w'.cell? ⟨b,off+i*11+4,none⟩=some (.slice x.ra x.rn x.rc)∧w'.cell? ⟨b,off+i*11+5,none⟩=some (.slice x.oa x.on x.oc)∧w'.cell? ⟨b,off+i*11+6,none⟩=some (.int .i64 x.B.ticks)∧w'.cell? ⟨b,off+i*11+7,none⟩=some (.int .i64 x.B.parse)∧w'.cell? ⟨b,off+i*11+8,none⟩=some (.int .i64 x.B.word)∧w'.cell? ⟨b,off+i*11+9,none⟩=some (.int .i64 x.B.drops)∧w'.cell? ⟨b,off+i*11+10,none⟩=some (.int .i64 x.B.vers):=by
 have hi:i < n:=by
  have:=(List.getElem?_eq_some_iff.1 hx).1
  have:=h.size
  omega
 obtain ⟨y,b',off',hy,e,c⟩:=br_at (h.below hb) i hi;cases e;rw [hx] at hy;cases hy;exact c

theorem zjO {w:World} {base g n cap:Nat} {pre post:List BV} {x y:BV} (h:w.ownsRow base 44 11 (.slice (some ⟨g,0,none⟩) n cap) n (brF.all (pre++x::post))) :
  (((((((((((w.setCell ⟨g,pre.length*11,none⟩ (.int .i64 y.B.id)).setCell ⟨g,pre.length*11+1,none⟩ (.string y.B.name)).setCell ⟨g,pre.length*11+2,none⟩ (.slice y.a y.n y.c)).setCell ⟨g,pre.length*11+3,none⟩ (.slice y.fa y.fn y.fc)).setCell ⟨g,pre.length*11+4,none⟩ (.slice y.ra y.rn y.rc)).setCell ⟨g,pre.length*11+5,none⟩ (.slice y.oa y.on y.oc)).setCell ⟨g,pre.length*11+6,none⟩ (.int .i64 y.B.ticks)).setCell ⟨g,pre.length*11+7,none⟩ (.int .i64 y.B.parse)).setCell ⟨g,pre.length*11+8,none⟩ (.int .i64 y.B.word)).setCell ⟨g,pre.length*11+9,none⟩ (.int .i64 y.B.drops)).setCell ⟨g,pre.length*11+10,none⟩ (.int .i64 y.B.vers)).ownsRow base 44 11 (.slice (some ⟨g,0,none⟩) n cap) n (brF.all (pre++y::post)):=by
 have R0:=zS (F:=brF) (x':=⟨x.a,x.n,x.c,x.fa,x.fn,x.fc,x.ra,x.rn,x.rc,x.oa,x.on,x.oc,⟨y.B.id,x.B.name,x.B.ports,x.B.f,x.B.v,x.B.ticks,x.B.parse,x.B.word,x.B.drops,x.B.vers⟩⟩) h 0 (.int .i64 y.B.id) (by decide) rfl;have R1:=zS (F:=brF) (x':=⟨x.a,x.n,x.c,x.fa,x.fn,x.fc,x.ra,x.rn,x.rc,x.oa,x.on,x.oc,⟨y.B.id,y.B.name,x.B.ports,x.B.f,x.B.v,x.B.ticks,x.B.parse,x.B.word,x.B.drops,x.B.vers⟩⟩) R0 1 (.string y.B.name) (by decide) rfl;have R2:=zS (F:=brF) (x':=⟨y.a,y.n,y.c,x.fa,x.fn,x.fc,x.ra,x.rn,x.rc,x.oa,x.on,x.oc,⟨y.B.id,y.B.name,y.B.ports,x.B.f,x.B.v,x.B.ticks,x.B.parse,x.B.word,x.B.drops,x.B.vers⟩⟩) R1 2 (.slice y.a y.n y.c) (by decide) rfl;have R3:=zS (F:=brF) (x':=⟨y.a,y.n,y.c,y.fa,y.fn,y.fc,x.ra,x.rn,x.rc,x.oa,x.on,x.oc,⟨y.B.id,y.B.name,y.B.ports,y.B.f,x.B.v,x.B.ticks,x.B.parse,x.B.word,x.B.drops,x.B.vers⟩⟩) R2 3 (.slice y.fa y.fn y.fc) (by decide) rfl;have R4:=zS (F:=brF) (x':=⟨y.a,y.n,y.c,y.fa,y.fn,y.fc,y.ra,y.rn,y.rc,x.oa,x.on,x.oc,⟨y.B.id,y.B.name,y.B.ports,y.B.f,y.B.v,x.B.ticks,x.B.parse,x.B.word,x.B.drops,x.B.vers⟩⟩) R3 4 (.slice y.ra y.rn y.rc) (by decide) rfl;have R5:=zS (F:=brF) (x':=⟨y.a,y.n,y.c,y.fa,y.fn,y.fc,y.ra,y.rn,y.rc,y.oa,y.on,y.oc,⟨y.B.id,y.B.name,y.B.ports,y.B.f,y.B.v,x.B.ticks,x.B.parse,x.B.word,x.B.drops,x.B.vers⟩⟩) R4 5 (.slice y.oa y.on y.oc) (by decide) rfl;have R6:=zS (F:=brF) (x':=⟨y.a,y.n,y.c,y.fa,y.fn,y.fc,y.ra,y.rn,y.rc,y.oa,y.on,y.oc,⟨y.B.id,y.B.name,y.B.ports,y.B.f,y.B.v,y.B.ticks,x.B.parse,x.B.word,x.B.drops,x.B.vers⟩⟩) R5 6 (.int .i64 y.B.ticks) (by decide) rfl;have R7:=zS (F:=brF) (x':=⟨y.a,y.n,y.c,y.fa,y.fn,y.fc,y.ra,y.rn,y.rc,y.oa,y.on,y.oc,⟨y.B.id,y.B.name,y.B.ports,y.B.f,y.B.v,y.B.ticks,y.B.parse,x.B.word,x.B.drops,x.B.vers⟩⟩) R6 7 (.int .i64 y.B.parse) (by decide) rfl;have R8:=zS (F:=brF) (x':=⟨y.a,y.n,y.c,y.fa,y.fn,y.fc,y.ra,y.rn,y.rc,y.oa,y.on,y.oc,⟨y.B.id,y.B.name,y.B.ports,y.B.f,y.B.v,y.B.ticks,y.B.parse,y.B.word,x.B.drops,x.B.vers⟩⟩) R7 8 (.int .i64 y.B.word) (by decide) rfl;have R9:=zS (F:=brF) (x':=⟨y.a,y.n,y.c,y.fa,y.fn,y.fc,y.ra,y.rn,y.rc,y.oa,y.on,y.oc,⟨y.B.id,y.B.name,y.B.ports,y.B.f,y.B.v,y.B.ticks,y.B.parse,y.B.word,y.B.drops,x.B.vers⟩⟩) R8 9 (.int .i64 y.B.drops) (by decide) rfl;exact zS (F:=brF) (x':=y) R9 10 (.int .i64 y.B.vers) (by decide) rfl

theorem zih {w:World} {g j:Nat} {y:BV}:w.grownBy (((((((((((w.setCell ⟨g,j,none⟩ (.int .i64 y.B.id)).setCell ⟨g,j+1,none⟩ (.string y.B.name)).setCell ⟨g,j+2,none⟩ (.slice y.a y.n y.c)).setCell ⟨g,j+3,none⟩ (.slice y.fa y.fn y.fc)).setCell ⟨g,j+4,none⟩ (.slice y.ra y.rn y.rc)).setCell ⟨g,j+5,none⟩ (.slice y.oa y.on y.oc)).setCell ⟨g,j+6,none⟩ (.int .i64 y.B.ticks)).setCell ⟨g,j+7,none⟩ (.int .i64 y.B.parse)).setCell ⟨g,j+8,none⟩ (.int .i64 y.B.word)).setCell ⟨g,j+9,none⟩ (.int .i64 y.B.drops)).setCell ⟨g,j+10,none⟩ (.int .i64 y.B.vers)) (some g) :=
 zI (zI (zI (zI (zI (zI (zI (zI (zI (zI (zj _ _) (zj _ _)) (zj _ _)) (zj _ _)) (zj _ _)) (zj _ _)) (zj _ _)) (zj _ _)) (zj _ _)) (zj _ _)) (zj _ _)

theorem zal {w:World} {base g n cap:Nat} {T:TypeId} {l:List BV} (h:w.ownsRow base T 11 (.slice (some ⟨g,0,none⟩) n cap) n (brF.all l)) {i:Nat} {x:BV} (hx:l[i]? = some x) :
  (w.cell? ⟨g,i*11,none⟩=some (.int .i64 x.B.id)∧w.cell? ⟨g,i*11+1,none⟩=some (.string x.B.name)∧w.cell? ⟨g,i*11+2,none⟩=some (.slice x.a x.n x.c)∧w.cell? ⟨g,i*11+3,none⟩=some (.slice x.fa x.fn x.fc)∧w.cell? ⟨g,i*11+4,none⟩=some (.slice x.ra x.rn x.rc)∧w.cell? ⟨g,i*11+5,none⟩=some (.slice x.oa x.on x.oc)∧w.cell? ⟨g,i*11+6,none⟩=some (.int .i64 x.B.ticks)∧w.cell? ⟨g,i*11+7,none⟩=some (.int .i64 x.B.parse)∧w.cell? ⟨g,i*11+8,none⟩=some (.int .i64 x.B.word)∧w.cell? ⟨g,i*11+9,none⟩=some (.int .i64 x.B.drops)∧w.cell? ⟨g,i*11+10,none⟩=some (.int .i64 x.B.vers)) ∧
  (w.frozen? ⟨g,i*11,none⟩=false∧w.frozen? ⟨g,i*11+1,none⟩=false∧w.frozen? ⟨g,i*11+2,none⟩=false∧w.frozen? ⟨g,i*11+3,none⟩=false∧w.frozen? ⟨g,i*11+4,none⟩=false∧w.frozen? ⟨g,i*11+5,none⟩=false∧w.frozen? ⟨g,i*11+6,none⟩=false∧w.frozen? ⟨g,i*11+7,none⟩=false∧w.frozen? ⟨g,i*11+8,none⟩=false∧w.frozen? ⟨g,i*11+9,none⟩=false∧w.frozen? ⟨g,i*11+10,none⟩=false):=by
 have c0:=zaf (F:=brF) h hx (j:=0) (v:=.int .i64 x.B.id) rfl;have c1:=zaf (F:=brF) h hx (j:=1) (v:=.string x.B.name) rfl;have c2:=zaf (F:=brF) h hx (j:=2) (v:=.slice x.a x.n x.c) rfl;have c3:=zaf (F:=brF) h hx (j:=3) (v:=.slice x.fa x.fn x.fc) rfl;have c4:=zaf (F:=brF) h hx (j:=4) (v:=.slice x.ra x.rn x.rc) rfl;have c5:=zaf (F:=brF) h hx (j:=5) (v:=.slice x.oa x.on x.oc) rfl;have c6:=zaf (F:=brF) h hx (j:=6) (v:=.int .i64 x.B.ticks) rfl;have c7:=zaf (F:=brF) h hx (j:=7) (v:=.int .i64 x.B.parse) rfl;have c8:=zaf (F:=brF) h hx (j:=8) (v:=.int .i64 x.B.word) rfl;have c9:=zaf (F:=brF) h hx (j:=9) (v:=.int .i64 x.B.drops) rfl;have c10:=zaf (F:=brF) h hx (j:=10) (v:=.int .i64 x.B.vers) rfl;exact ⟨⟨c0.1,c1.1,c2.1,c3.1,c4.1,c5.1,c6.1,c7.1,c8.1,c9.1,c10.1⟩,c0.2,c1.2,c2.2,c3.2,c4.2,c5.2,c6.2,c7.2,c8.2,c9.2,c10.2⟩

abbrev BV.Own (w:World) (base:Nat) (x:BV):Prop:=BrOwn w base x.a x.n x.c x.fa x.fn x.fc x.ra x.rn x.rc x.oa x.on x.oc x.B

theorem BV.Own.other {w w':World} {base:Nat} {x:BV} (h:x.Own w base) {X:Nat} {cs:Array Value} {T:TypeId} (hX:w.heap[X]? = some (.cells cs T)) (h1:(53:Nat)≠T) (h2:(145:Nat)≠T) (h3:(167:Nat)≠T) (h4:(3:Nat)≠T) (hg:w.grownBy w' (some X)):x.Own w' base :=
 ⟨zt h.ports hg (zA h.ports hX h1),zt h.f hg (zA h.f hX h2),⟨zt h.v.rows hg (zA h.v.rows hX h3),zt h.v.own hg (zA h.v.own hX h4),h.v.i64⟩⟩

structure NV.Same (N M:NV):Prop where
 b:N.bs.map BV.B=M.bs.map BV.B
 l:N.ls=M.ls
 s:N.ss=M.ss

def BV.blks (x:BV):List Nat:=blkL x.a++(blkL x.fa++(blkL x.ra++blkL x.oa))

theorem zcE {x:BV} {b:Nat}:b∈x.blks↔b∈blkL x.a∨b∈blkL x.fa∨b∈blkL x.ra∨b∈blkL x.oa:=by
 unfold BV.blks; simp [List.mem_append]

theorem BV.Own.blk {w:World} {base:Nat} {x:BV} (h:x.Own w base):∀b∈x.blks,base≤b∧b < w.heap.size:=by
 intro b hb;rcases zcE.1 hb with hb | hb | hb | hb
 ·exact h.ports.lt b (zas.2 hb)
 ·exact h.f.lt b (zas.2 hb)
 ·exact h.v.rows.lt b (zas.2 hb)
 ·exact h.v.own.lt b (zas.2 hb)

theorem BV.Own.only {bs:List Nat} {w w':World} {base:Nat} {x:BV} (h:x.Own w base) (ho:Only bs w w') (hn:∀b∈x.blks,b∉bs):x.Own w' base :=
 ⟨ho.own h.ports (fun k hk=>hn k (zcE.2 (.inl (zas.1 hk)))),ho.own h.f (fun k hk=>hn k (zcE.2 (.inr (.inl (zas.1 hk))))),
  ⟨ho.own h.v.rows (fun k hk=>hn k (zcE.2 (.inr (.inr (.inl (zas.1 hk)))))),ho.own h.v.own (fun k hk=>hn k (zcE.2 (.inr (.inr (.inr (zas.1 hk)))))),h.v.i64⟩⟩

theorem zde (a:Option Addr):(blkL a).Nodup:=by cases a <;> simp [blkL]

theorem BV.Own.nd {w:World} {base:Nat} {x:BV} (h:x.Own w base):x.blks.Nodup:=by
 unfold BV.blks;have d:∀{e e':TypeId} {s s' n n' m m' c c':Nat} {a a':Option Addr} {xs xs':List Value},w.ownsRow base e s (.slice a n c) m xs→w.ownsRow base e' s' (.slice a' n' c') m' xs'→e≠e'→∀b∈blkL a,b∉blkL a':=fun h h' hne b hb hc=>zcm h h' hne (zas.2 hb) (zas.2 hc)
 have h12:=d h.ports h.f (by decide);have h13:=d h.ports h.v.rows (by decide);have h14:=d h.ports h.v.own (by decide);have h23:=d h.f h.v.rows (by decide);have h24:=d h.f h.v.own (by decide);have h34:=d h.v.rows h.v.own (by decide);refine List.nodup_append.2 ⟨zde _,List.nodup_append.2 ⟨zde _,List.nodup_append.2 ⟨zde _,zde _, ?_⟩, ?_⟩, ?_⟩
 ·intro a ha b hb e; subst e; exact h34 a ha hb
 ·intro a ha b hb e; subst e
  rcases List.mem_append.1 hb with hb | hb
  ·exact h23 a ha hb
  ·exact h24 a ha hb
 ·intro a ha b hb e; subst e
  rcases List.mem_append.1 hb with hb | hb
  ·exact h12 a ha hb
  ·rcases List.mem_append.1 hb with hb | hb
   ·exact h13 a ha hb
   ·exact h14 a ha hb

structure BOs (w:World) (base:Nat) (ao:Option Addr) (n cap:Nat) (l:List BV):Prop where
 row:w.ownsRow base 44 11 (.slice ao n cap) n (brF.all l)
 item:∀x∈l,x.Own w base
 apart:(l.flatMap BV.blks).Nodup

def allB (ao:Option Addr) (l:List BV):List Nat:=blkL ao++l.flatMap BV.blks

theorem BOs.grow {w:World} {base:Nat} {ao:Option Addr} {n cap:Nat} {l:List BV} (h:BOs w base ao n cap l):GRow brF w ao n cap l:=zC (F:=brF) h.row
theorem BOs.below {w w':World} {base:Nat} {ao:Option Addr} {n cap:Nat} {l:List BV} (h:BOs w base ao n cap l) (hb:Below w.heap.size w w'):BOs w' base ao n cap l :=
 ⟨zj8 h.row hb,fun x hx=>(h.item x hx).below hb,h.apart⟩
theorem BOs.lt {w:World} {base base':Nat} {ao:Option Addr} {n cap:Nat} {l:List BV} (h:BOs w base ao n cap l) (hb:base'≤base):BOs w base' ao n cap l :=
 ⟨zm8 h.row hb,fun x hx=>(h.item x hx).lt hb,h.apart⟩
theorem BOs.only {bs:List Nat} {w w':World} {base:Nat} {ao:Option Addr} {n cap:Nat} {l:List BV} (h:BOs w base ao n cap l) (ho:Only bs w w') (hn:∀b∈allB ao l,b∉bs):BOs w' base ao n cap l :=
 ⟨ho.own h.row (fun k hk=>hn k (List.mem_append_left _ (zas.1 hk))),fun x hx=>(h.item x hx).only ho (fun b hb=>hn b (List.mem_append_right _ (List.mem_flatMap.2 ⟨x,hx,hb⟩))),h.apart⟩
theorem BOs.blk {w:World} {base:Nat} {ao:Option Addr} {n cap:Nat} {l:List BV} (h:BOs w base ao n cap l):∀b∈allB ao l,base≤b∧b < w.heap.size:=by
 intro b hb;rcases List.mem_append.1 hb with hb | hb
 ·exact h.row.lt b (zas.2 hb)
 ·obtain ⟨x,hx,hb⟩:=List.mem_flatMap.1 hb;exact (h.item x hx).blk b hb

theorem BV.Own.row_apart {w:World} {base base':Nat} {ao:Option Addr} {n cap:Nat} {xs:List Value} (hr:w.ownsRow base' 44 11 (.slice ao n cap) n xs) {x:BV} (h:x.Own w base):∀b∈x.blks,b∉blkL ao:=by
 intro b hb hc;rcases zcE.1 hb with hb | hb | hb | hb
 ·exact zcm h.ports hr (by decide) (zas.2 hb) (zas.2 hc)
 ·exact zcm h.f hr (by decide) (zas.2 hb) (zas.2 hc)
 ·exact zcm h.v.rows hr (by decide) (zas.2 hb) (zas.2 hc)
 ·exact zcm h.v.own hr (by decide) (zas.2 hb) (zas.2 hc)

theorem zgd {pre post:List BV} {x:BV} (h:((pre++x::post).flatMap BV.blks).Nodup):∀y,y∈pre∨y∈post→∀b∈y.blks,b∉x.blks:=by
 rw [List.flatMap_append,List.flatMap_cons] at h;obtain ⟨h1,h2,h3⟩:=List.nodup_append.1 h;obtain ⟨h4,h5,h6⟩:=List.nodup_append.1 h2;intro y hy b hb hx;rcases hy with hy | hy
 ·exact h3 b (List.mem_flatMap.2 ⟨y,hy,hb⟩) b (List.mem_append_left _ hx) rfl
 ·exact h6 b hx b (List.mem_flatMap.2 ⟨y,hy,hb⟩) rfl

theorem ziI {pre post:List BV} {x y:BV} (h:y∈pre∨y∈post):y∈pre++x::post:=by
 rcases h with h | h
 ·exact List.mem_append_left _ h
 ·exact List.mem_append_right _ (List.mem_cons_of_mem _ h)

theorem BOs.turn {bs:List Nat} {w w':World} {base:Nat} {ao:Option Addr} {n cap:Nat} {pre post:List BV} {x x':BV} (h:BOs w base ao n cap (pre++x::post)) (hb:∀y,y∈pre∨y∈post→∀b∈y.blks,b∉x'.blks) (ho:Only bs w w') (hs:∀b∈bs,b∈x.blks∨b∈blkL ao)
  (hr:w'.ownsRow base 44 11 (.slice ao n cap) n (brF.all (pre++x'::post))) (hx:x'.Own w' base):BOs w' base ao n cap (pre++x'::post) where
 row:=hr
 item:=by
  intro y hy;have hm:=zgd h.apart;have keep:(y∈pre∨y∈post)→y.Own w' base:=fun hy=>(h.item y (ziI hy)).only ho (fun b hb hbs=>by
   rcases hs b hbs with h1 | h1
   ·exact hm y hy b hb h1
   ·exact BV.Own.row_apart h.row (h.item y (ziI hy)) b hb h1)
  rcases List.mem_append.1 hy with hy | hy
  ·exact keep (.inl hy)
  ·rcases List.mem_cons.1 hy with rfl | hy
   ·exact hx
   ·exact keep (.inr hy)
 apart:=by
  have ha:=h.apart;rw [List.flatMap_append,List.flatMap_cons] at ha ⊢;obtain ⟨h1,h2,h3⟩:=List.nodup_append.1 ha;obtain ⟨-,h5,-⟩:=List.nodup_append.1 h2;refine List.nodup_append.2 ⟨h1,List.nodup_append.2 ⟨hx.nd,h5, ?_⟩, ?_⟩
  ·intro a ha b hb' e;subst e;obtain ⟨z,hz,hb'⟩:=List.mem_flatMap.1 hb';exact hb z (.inr hz) a hb' ha
  ·intro a ha b hb' e;subst e;rcases List.mem_append.1 hb' with hb' | hb'
   ·obtain ⟨z,hz,ha⟩:=List.mem_flatMap.1 ha;exact hb z (.inl hz) a ha hb'
   ·exact h3 a ha a (List.mem_append_right _ hb') rfl

theorem BOs.put {w w1 w':World} {base g n cap:Nat} {pre post:List BV} {x y:BV} (h:BOs w base (some ⟨g,0,none⟩) n cap (pre++x::post)) (hb:Below w.heap.size w w1) (hy:y.Own w1 w.heap.size) (hbs:base≤w.heap.size) (hg:w1.grownBy w' (some g))
  (hr:w'.ownsRow base 44 11 (.slice (some ⟨g,0,none⟩) n cap) n (brF.all (pre++y::post))):BOs w' base (some ⟨g,0,none⟩) n cap (pre++y::post):=by
 have O:Only [g] w1 w':=by have:=Only.of_grown (ao:=some ⟨g,0,none⟩) (n:=n) (c:=cap) hg; simpa [blkL] using this
 have hgl:g < w.heap.size:=(h.row.lt g rfl).2;refine (h.below hb).turn (bs:=[g]) ?_ O (fun b hb'=>.inr (by simpa [blkL] using hb')) hr ((hy.only O (fun b hb' hc=>by have:=(hy.blk b hb').1; simp at hc; omega)).lt hbs);intro z hz b hb1 hb2;have h1:=((h.item z (ziI hz)).blk b hb1).2;have h2:=(hy.blk b hb2).1;omega

theorem BOs.push {w w1 w':World} {base:Nat} {ao ao':Option Addr} {n cap cap':Nat} {l:List BV} {y:BV} (h:BOs w base ao n cap l) (hb:Below w.heap.size w w1) (hy:y.Own w1 w.heap.size) (hbs:base≤w.heap.size) (hg:w1.grownBy w' (Value.slice ao n cap).ownBlock)
  (hr:w'.ownsRow base 44 11 (.slice ao' (n+1) cap') (n+1) (brF.all (l++[y]))):BOs w' base ao' (n+1) cap' (l++[y]):=by
 have O:=Only.of_grown hg;have hk:=h.below hb;have hlt:=h.row.lt;refine ⟨hr, ?_, ?_⟩
 ·intro z hz;rcases List.mem_append.1 hz with hz | hz
  ·exact (hk.item z hz).only O (BV.Own.row_apart hk.row (hk.item z hz))
  ·rw [List.mem_singleton.1 hz];exact (hy.only O (fun b hb' hc=>by have h1:=(hy.blk b hb').1; have h2:=(hlt b (zas.2 hc)).2; omega)).lt hbs
 ·rw [List.flatMap_append];refine List.nodup_append.2 ⟨h.apart,by simpa using hy.nd, ?_⟩;intro a ha b hb' e;subst e;obtain ⟨z,hz,ha⟩:=List.mem_flatMap.1 ha;have h1:=((h.item z hz).blk a ha).2;have h2:=(hy.blk a (by simpa using hb')).1;omega

theorem zaT (w:World) (base:Nat):BOs w base none 0 0 []:=⟨World.ownsRow_nil _ _ _ _,(by intro x hx; cases hx),List.nodup_nil⟩

structure zbH (w:World) (base:Nat) (M:NV):Prop where
 b:BOs w base M.ba M.bn M.bc M.bs
 l:w.ownsRow base 66 4 (.slice M.la M.ln M.lc) M.ln (linkF.all M.ls)
 s:M.sa=none∧M.sn=0∧M.sc=0∧M.ss=[]

theorem zbH.row {w:World} {base:Nat} {M:NV} (h:zbH w base M):zaa w M :=
 ⟨h.b.grow,fun x hx=>(h.b.item x hx).row,zC (F:=linkF) h.l,by rw [h.s.1,h.s.2.1,h.s.2.2.1,h.s.2.2.2]; exact zdh _ _⟩
theorem zbH.below {w w':World} {base:Nat} {M:NV} (h:zbH w base M) (hb:Below w.heap.size w w'):zbH w' base M:=⟨h.b.below hb,zh h.l hb,h.s⟩
theorem zbH.lt {w:World} {base base':Nat} {M:NV} (h:zbH w base M) (hb:base'≤base):zbH w base' M:=⟨h.b.lt hb,zH h.l hb,h.s⟩
theorem zbH.apart {w w':World} {base:Nat} {M:NV} (h:zbH w base M) {g:Nat} (hg:w.grownBy w' (some g)) (hlt:g < base):zbH w' base M:=by
 have O:Only [g] w w':=⟨hg.os,hg.tape,hg.output,hg.size,fun k hk hn=>hg.block k hk (by intro e; cases e; exact hn (by simp))⟩;exact ⟨h.b.only O (fun b hb hc=>by have:=(h.b.blk b hb).1; simp at hc; omega),O.own h.l (fun k hk hc=>by have:=(h.l.lt k hk).1; simp at hc; omega),h.s⟩

structure NOwn (w:World) (base:Nat) (M:NV):Prop where
 b:BOs w base M.ba M.bn M.bc M.bs
 l:w.ownsRow base 66 4 (.slice M.la M.ln M.lc) M.ln (linkF.all M.ls)
 s:w.ownsRow base 99 7 (.slice M.sa M.sn M.sc) M.sn (sayF.all M.ss)

theorem zbH.all {w:World} {base:Nat} {M:NV} (h:zbH w base M):NOwn w base M :=
 ⟨h.b,h.l,by rw [h.s.1,h.s.2.1,h.s.2.2.1,h.s.2.2.2]; exact World.ownsRow_nil _ _ _ _⟩
theorem NOwn.row {w:World} {base:Nat} {M:NV} (h:NOwn w base M):zaa w M :=
 ⟨h.b.grow,fun x hx=>(h.b.item x hx).row,zC (F:=linkF) h.l,zC (F:=sayF) h.s⟩
theorem NOwn.below {w w':World} {base:Nat} {M:NV} (h:NOwn w base M) (hb:Below w.heap.size w w'):NOwn w' base M:=⟨h.b.below hb,zh h.l hb,zh h.s hb⟩
theorem NOwn.lt {w:World} {base base':Nat} {M:NV} (h:NOwn w base M) (hb:base'≤base):NOwn w base' M:=⟨h.b.lt hb,zH h.l hb,zH h.s hb⟩

def za5 (b p:Int) (x:LK):Option (Int × Int):=if x.a=b∧x.p=p then some (x.b,x.q) else if x.b=b∧x.q=p then some (x.a,x.p) else none
def zbJ (ls:List LK) (b p:Int):Option (Int × Int):=ls.findSome? (za5 b p)
def zgH (o:Option (Int × Int)):Value:=match o with
 | some (x,y)=>.tuple #[.int .i64 x,.int .i64 y,.bool true]
 | none=>.tuple #[.int .i64 (-1),.int .i64 (-1),.bool false]

theorem zie {ls:List LK} {b p:Int} (h:∀x∈ls,za5 b p x=none):zbJ ls b p=none:=by
 unfold zbJ;exact List.findSome?_eq_none_iff.2 h

theorem zge {ls:List LK} {b p:Int} {k:Nat} {x:LK} (hx:ls[k]? = some x) (hn:∀y∈ls.take k,za5 b p y=none) {q:Int × Int} (hq:za5 b p x=some q):zbJ ls b p=some q:=by
 have hk:=(List.getElem?_eq_some_iff.1 hx).1;have e:ls=ls.take k++x::ls.drop (k+1):=by
  obtain ⟨h,rfl⟩:=List.getElem?_eq_some_iff.1 hx;rw [← List.drop_eq_getElem_cons h,List.take_append_drop]
 unfold zbJ;rw [e,List.findSome?_append,List.findSome?_eq_none_iff.2 hn,Option.none_or,List.findSome?_cons,hq]

theorem zls {ls:List LK} {b p:Int} {k:Nat} {x:LK} (hx:ls[k]? = some x) (hn:∀y∈ls.take k,za5 b p y=none) (hq:za5 b p x=none):∀y∈ls.take (k+1),za5 b p y=none:=by
 rw [List.take_add_one,hx];intro y hy;rcases List.mem_append.1 hy with hy | hy
 ·exact hn y hy
 ·have:=List.mem_singleton.1 (by simpa using hy); rw [this]; exact hq

theorem zE {w:World} {g:Nat} {T:TypeId} {c0 c1 c2 c3:Value} (h:w.heap[g]? = some (.cells #[c0,c1,c2,c3] T)):w.cell? ⟨g,0,none⟩=some c0∧w.cell? ⟨g,1,none⟩=some c1∧w.cell? ⟨g,2,none⟩=some c2∧w.cell? ⟨g,3,none⟩=some c3:=by
 simp [World.cell?,h]

theorem zm {w:World} {g:Nat} {T:TypeId} {c0 c1:Value} (h:w.heap[g]? = some (.cells #[c0,c1] T)):w.cell? ⟨g,0,none⟩=some c0∧w.cell? ⟨g,1,none⟩=some c1:=by
 simp [World.cell?,h]

theorem zd {w:World} {g:Nat} {T:TypeId} {c0 c1 c2:Value} (h:w.heap[g]? = some (.cells #[c0,c1,c2] T)):w.cell? ⟨g,0,none⟩=some c0∧w.cell? ⟨g,1,none⟩=some c1∧w.cell? ⟨g,2,none⟩=some c2:=by
 simp [World.cell?,h]

theorem zet (a b a' b':Int) (w:World):(binOp .eql 68 (.agg #[.int .i64 a,.int .i64 b]) (.agg #[.int .i64 a',.int .i64 b'])).run Tryz.prog w=.ok (.bool ((a == a') && (b == b'))) w:=by
 have u3:=Tryz.underlying3;have a3:=Tryz.isAgg3;have z3:=Tryz.sizeOf3;have hS:Tryz.prog.underlying 68=some (.struct (Tryz.prog.fieldsOf 68)):=by kernel_rfl
 have hp:Tryz.prog.stoodInHeld 68=false:=by kernel_rfl
 rw [run_eql_struct,show (10000:Nat)=9999+1 from rfl,run_equalIn_agg w 9999 68 _ _ hS hp];simp only [Program.fieldsOf,Tryz.underlying68];go_simp;by_cases h1:a=a' <;> by_cases h2:b=b' <;> simp [h1,h2]

theorem zco (x:LK) (w:World):Calls Tryz.prog 29 #[.agg #[.int .i64 x.a,.int .i64 x.p,.int .i64 x.b,.int .i64 x.q]] w fun e w'=>e=.returned (.agg #[.int .i64 x.a,.int .i64 x.p,.int .i64 x.b,.int .i64 x.q])∧Below w.heap.size w w':=by
 go_enter Tryz.func29,Tryz.ntmps29;go_wp2;exact bodyPost_ret (v:=.agg #[.int .i64 x.a,.int .i64 x.p,.int .i64 x.b,.int .i64 x.q]) (by simp [results,Tryz.results29,go_sem, *]) rfl ⟨rfl,zab _ _ _⟩

theorem zfZ (N:NV) (b p:Int) (w:World) (h:zaa w N) :
  Calls Tryz.prog 18 #[.agg #[.slice N.ba N.bn N.bc,.slice N.la N.ln N.lc,.slice N.sa N.sn N.sc],.int .i64 b,.int .i64 p] w fun e w'=>e=.returned (zgH (zbJ N.ls b p))∧Below w.heap.size w w':=by
 obtain ⟨ba,bn,bc,bs,la,ln,lc,ls,sa,sn,sc,ss⟩:=N;obtain ⟨-,-,hL,-⟩:=h;dsimp only at hL ⊢;have hle:=Nat.le_trans hL.le hL.top;unfold maxLen at hle;have hsz:=hide hL.size;generalize hw1:w.alloc (Obj.cells #[.slice ba bn bc,.slice la ln lc,.slice sa sn sc] 28)=w1;generalize hw2:w1.alloc (Obj.cells #[.int .i64 b,.int .i64 p] 68)=w2;have b01:=zb hw1;have b12:=zb hw2;have k1:=za (zk hw1) b12;have k2:=zk hw2;have b02:=zc b01 b12;obtain ⟨x0,x1,x2⟩:=zd k1;go_enter Tryz.func18,Tryz.ntmps18;go_wp2_with fail
 generalize hX:w1.heap.size=X at *;clear hw1 hw2 x0 x1 x2
 go_loopw [19] (fun i wr=>∃k:Nat,k≤ln∧i=.int .i64 k∧(∀y∈ls.take k,za5 b p y=none)∧wr.heap[X]? = some (.cells #[.int .i64 b,.int .i64 p] 68)∧Below w.heap.size w wr) (fun i _=>ln - (intOf i).toNat)
 case atStart=>exact ⟨0,Nat.zero_le _,rfl,by intro y hy; simp at hy,k2,b02⟩
 case round =>
  obtain ⟨k,hk,rfl,hn,hbox,hb⟩:=hrel;clear k1 k2 b02 b01 b12;by_cases hlt:k < ln
  ·obtain ⟨x,lb,off,hx,rfl,a0,a1,a2,a3⟩:=zao (hL.below hb) k hlt;have i1:(0:Int)≤(k:Int):=by omega
   have i2:(k:Int) < (ln:Int):=by omega
   have HX:=hide hx;have HN:=hide hn;generalize hwa:wr.alloc (Obj.cells #[.int .i64 x.a,.int .i64 x.p,.int .i64 x.b,.int .i64 x.q] 66)=wa;have ba:=zb hwa;have ka:=zk hwa;have hbx:=za hbox ba;have hba:=zc hb ba;obtain ⟨y0,y1,y2,y3⟩:=zE ka;clear hx hn hb hbox;(go_wp2_with fail);refine (zco x _).mono ?_;rintro e we ⟨rfl,hbe⟩;have ke:=za ka hbe;have hbx:=za hbx hbe;have hbe':=zc hba hbe;generalize hR:wr.heap.size=R at *;clear hwa y0 y1 y2 y3 ka ba hbe hba a0 a1 a2 a3;generalize hwq:we.alloc (Obj.cells #[.int .i64 x.a,.int .i64 x.p,.int .i64 x.b,.int .i64 x.q] 69)=wq;have bq:=zb hwq;have kq:=zk hwq;have ke:=za ke bq;have hbx:=za hbx bq;have HBQ:=hide (zc hbe' bq);obtain ⟨y0,y1,y2,y3⟩:=zE ke;obtain ⟨z0,z1,z2,z3⟩:=zE kq;obtain ⟨u0,u1⟩:=zm hbx;have HBX:=hide hbx;clear hbe' bq ke kq hbx;have hgd:Tryz.prog.eqGuardType Tryz.prog.depth 68=false:=by kernel_rfl
   by_cases e1:x.a=b∧x.p=p
   ·have HG:Hid (zbJ ls b p=some (x.b,x.q)):=hide (zge HX.out HN.out (by unfold za5; rw [if_pos e1]));have he:∀W,(binOp .eql 68 (.agg #[.int .i64 b,.int .i64 p]) (.agg #[.int .i64 x.a,.int .i64 x.p])).run Tryz.prog W=.ok (.bool true) W:=fun W=>by rw [zet,e1.1,e1.2]; simp
    clear e1;(go_wp2_with fail)
    go_region
    go_wp2;rw [HG.out];exact bodyPost_ret (v:=.tuple #[.int .i64 x.b,.int .i64 x.q,.bool true]) (by simp [results,Tryz.results18,go_sem, *]) rfl ⟨rfl,zq HBQ.out⟩
   ·have he:∀W,(binOp .eql 68 (.agg #[.int .i64 b,.int .i64 p]) (.agg #[.int .i64 x.a,.int .i64 x.p])).run Tryz.prog W=.ok (.bool false) W:=fun W=>by
     rw [zet,show ((b == x.a) && (p == x.p))=false by
      cases h1:(b == x.a) && (p == x.p)
      ·rfl
      ·simp at h1; exact absurd ⟨h1.1.symm,h1.2.symm⟩ e1]
    by_cases e2:x.b=b∧x.q=p
    ·have HG:Hid (zbJ ls b p=some (x.a,x.p)):=hide (zge HX.out HN.out (by unfold za5; rw [if_neg e1,if_pos e2]));have he2:∀W,(binOp .eql 68 (.agg #[.int .i64 b,.int .i64 p]) (.agg #[.int .i64 x.b,.int .i64 x.q])).run Tryz.prog W=.ok (.bool true) W:=fun W=>by rw [zet,e2.1,e2.2]; simp
     clear e1 e2;(go_wp2_with fail)
     go_region
     go_wp2;rw [HG.out];exact bodyPost_ret (v:=.tuple #[.int .i64 x.a,.int .i64 x.p,.bool true]) (by simp [results,Tryz.results18,go_sem, *]) rfl ⟨rfl,zq HBQ.out⟩
    ·have HT:=hide (zls HX.out HN.out (by unfold za5; rw [if_neg e1,if_neg e2]));have he2:∀W,(binOp .eql 68 (.agg #[.int .i64 b,.int .i64 p]) (.agg #[.int .i64 x.b,.int .i64 x.q])).run Tryz.prog W=.ok (.bool false) W:=fun W=>by
      rw [zet,show ((b == x.b) && (p == x.q))=false by
       cases h1:(b == x.b) && (p == x.q)
       ·rfl
       ·simp at h1; exact absurd ⟨h1.1.symm,h1.2.symm⟩ e2]
     clear e1 e2;go_wp2
     go_roundw
     case rel=>exact ⟨k+1,by omega,by go_num,HT.out,HBX.out,HBQ.out⟩
     case measure=>simp [intOf]; omega
  ·have hkn:k=ln:=by omega
   rw [List.take_of_length_le (by have:=hsz.out; omega)] at hn;have HG:=hide (zie hn);subst hkn;go_wp2;rw [HG.out];exact bodyPost_ret (v:=.tuple #[.int .i64 (-1),.int .i64 (-1),.bool false]) (by simp [results,Tryz.results18,go_sem, *]) rfl ⟨rfl,hb⟩

end Go.Proofs.YtkaefmfopejbaaaGreat
