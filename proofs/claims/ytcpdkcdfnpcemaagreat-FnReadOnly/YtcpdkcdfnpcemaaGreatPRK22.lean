/-
  Packed: BrInner ChgEx ChgTr ChgNum BrInner2.
-/
import Derived.Test.YtcpdkcdfnpcemaaGreatPRFdbImplA
import Derived.Test.YtcpdkcdfnpcemaaGreatPRK18
namespace Go.Proofs.YtcpdkcdfnpcemaaGreat
set_option maxRecDepth 100000
set_option maxHeartbeats 16000000
open Go.RowKit

theorem zcA {w:World} {g:Nat} {T:TypeId} {c0 c1 c2 c3 c4 c5 c6 c7 c8 c9 c10 c11:Value} (h:w.heap[g]? = some (.cells #[c0,c1,c2,c3,c4,c5,c6,c7,c8,c9,c10,c11] T)) :
  w.cell? ⟨g,0,none⟩=some c0∧w.cell? ⟨g,1,none⟩=some c1∧w.cell? ⟨g,2,none⟩=some c2∧w.cell? ⟨g,3,none⟩=some c3∧w.cell? ⟨g,4,none⟩=some c4∧w.cell? ⟨g,5,none⟩=some c5∧w.cell? ⟨g,6,none⟩=some c6∧w.cell? ⟨g,7,none⟩=some c7∧w.cell? ⟨g,8,none⟩=some c8∧w.cell? ⟨g,9,none⟩=some c9∧w.cell? ⟨g,10,none⟩=some c10∧w.cell? ⟨g,11,none⟩=some c11:=by
 simp [World.cell?,h]

structure IbSt (w wr:World) (R X:Nat) (zs cs:Array Value) (TR TX:TypeId):Prop where
 box:wr.heap[X]? = some (.cells cs TX)
 res:wr.heap[R]? = some (.cells zs TR)
 below:Below w.heap.size w wr
 hX:w.heap.size≤X
 hR:w.heap.size≤R
 ne:R≠X

theorem IbSt.later {w wr wx:World} {R X:Nat} {zs cs:Array Value} {TR TX:TypeId} (h:IbSt w wr R X zs cs TR TX) (hb:Below wr.heap.size wr wx):IbSt w wx R X zs cs TR TX :=
 ⟨ze h.box hb,ze h.res hb,zd h.below hb,h.hX,h.hR,h.ne⟩

theorem IbSt.put {w wr:World} {R X:Nat} {zs cs:Array Value} {TR TX:TypeId} (h:IbSt w wr R X zs cs TR TX) (j:Nat) (u:Value) {cs':Array Value} (he:cs.setIfInBounds j u=cs'):IbSt w (wr.setCell ⟨X,j,none⟩ u) R X zs cs' TR TX :=
 ⟨by rw [← he]; exact box11 h.box j u,zx h.res h.ne,zg h.below h.hX j u,h.hX,h.hR,h.ne⟩

theorem IbSt.grown {w wr wx:World} {R X:Nat} {zs cs:Array Value} {TR TX:TypeId} (h:IbSt w wr R X zs cs TR TX) {base k:Nat} {e:TypeId} {v:Value} {n:Nat} {ys:List Value} (ho:wr.ownsRow base e k v n ys) (h1:(e:Nat)≠TX) (h2:(e:Nat)≠TR) (hg:wr.grownBy wx v.ownBlock) (hb:Below w.heap.size wr wx):IbSt w wx R X zs cs TR TX :=
 ⟨zA h.box hg (fun i e=>zaf ho h.box h1 i e),zA h.res hg (fun i e=>zaf ho h.res h2 i e),h.below.trans hb,h.hX,h.hR,h.ne⟩

theorem IbSt.stay {w wr:World} {R X:Nat} {zs cs:Array Value} {TR TX:TypeId} (h:IbSt w wr R X zs cs TR TX) {base k:Nat} {e:TypeId} {v:Value} {n:Nat} {ys:List Value} (ho:wr.ownsRow base e k v n ys) (hne:(e:Nat)≠TX) (j:Nat) (u:Value):(wr.setCell ⟨X,j,none⟩ u).ownsRow base e k v n ys :=
 zC ho (zl (rb:=X) j u) (zaf ho h.box hne)

theorem BrOwn.other {w:World} {base:Nat} {a:Option Addr} {n c:Nat} {fa:Option Addr} {fn fc:Nat} {ra:Option Addr} {rn rc:Nat} {oa:Option Addr} {on oc:Nat} {B:BR} (h:BrOwn w base a n c fa fn fc ra rn rc oa on oc B) {X:Nat} {cs:Array Value} {T:TypeId} (hX:w.heap[X]? = some (.cells cs T)) (h1:(113:Nat)≠T) (h2:(116:Nat)≠T) (h3:(119:Nat)≠T) (h4:(3:Nat)≠T) (j:Nat) (u:Value):BrOwn (w.setCell ⟨X,j,none⟩ u) base a n c fa fn fc ra rn rc oa on oc B :=
 ⟨zC h.ports (zl (rb:=X) j u) (zaf h.ports hX h1),zC h.f (zl (rb:=X) j u) (zaf h.f hX h2),
  ⟨zC h.v.rows (zl (rb:=X) j u) (zaf h.v.rows hX h3),zC h.v.own (zl (rb:=X) j u) (zaf h.v.own hX h4),h.v.i64⟩⟩

theorem zdD (a:Option Addr) (n c:Nat) (port:Int) (w:World) (hn:n≤137438953472) :
  Calls Tryz.prog 76 #[.slice a n c,.int .i64 port] w fun e w'=>e=.returned (.bool (decide (0≤port) && decide (port≤(n:Int) - 1)))∧w'=w:=by
 go_enter Tryz.func76,Tryz.ntmps76;go_wp2_with fail
 refine (zz port 0 ((n:Int) - 1) _).mono ?_;rintro r w3 ⟨rfl,ew⟩;obtain rfl:=ew.symm;go_wp2;go_ret;exact ⟨rfl,rfl⟩

theorem zce (a:Option Addr) (n c:Nat) (fa:Option Addr) (fn fc:Nat) (ra:Option Addr) (rn rc:Nat) (oa:Option Addr) (on oc:Nat) (B:BR) (w:World) :
  Calls Tryz.prog 50 #[.agg #[.slice a n c,.int .i64 B.id,.string B.name,.slice none 0 0,.slice fa fn fc,.slice ra rn rc,.slice oa on oc,.int .i64 B.ticks,.int .i64 B.parse,.int .i64 B.word,.int .i64 B.drops,.int .i64 B.vers]] w fun e w'=>e=.returned (.agg #[.int .i64 B.id,.string B.name,.slice a n c,.slice fa fn fc,.slice ra rn rc,.slice oa on oc,.int .i64 B.ticks,.int .i64 B.parse,.int .i64 B.word,.int .i64 B.drops,.int .i64 B.vers])∧Below w.heap.size w w':=by
 generalize hw1:w.alloc (Obj.cells #[.slice a n c,.int .i64 B.id,.string B.name,.slice none 0 0,.slice fa fn fc,.slice ra rn rc,.slice oa on oc,.int .i64 B.ticks,.int .i64 B.parse,.int .i64 B.word,.int .i64 B.drops,.int .i64 B.vers] 99)=w1;generalize hw2:w1.alloc (Obj.cells #[.int .i64 0,.string ⟨#[]⟩,.slice none 0 0,.slice none 0 0,.slice none 0 0,.slice none 0 0,.int .i64 0,.int .i64 0,.int .i64 0,.int .i64 0,.int .i64 0] 31)=w2;generalize hw3:w2.alloc (Obj.cells #[.int .i64 B.id,.string B.name,.slice none 0 0,.slice fa fn fc,.slice ra rn rc,.slice oa on oc,.int .i64 B.ticks,.int .i64 B.parse,.int .i64 B.word,.int .i64 B.drops,.int .i64 B.vers] 31)=w3;have b01:=zb hw1;have b12:=zb hw2;have b23:=zb hw3;have z1:w.heap.size < w1.heap.size:=by rw [← hw1]; simp
 have z2:w1.heap.size < w2.heap.size:=by rw [← hw2]; simp
 have k1:=zk hw1;have kA:=ze (ze k1 b12) b23;obtain ⟨x0,x1,x2,x3,x4,x5,x6,x7,x8,x9,x10,x11⟩:=zcA (ze k1 b12);have st:BcSt w w3 w1.heap.size w2.heap.size #[.int .i64 B.id,.string B.name,.slice none 0 0,.slice fa fn fc,.slice ra rn rc,.slice oa on oc,.int .i64 B.ticks,.int .i64 B.parse,.int .i64 B.word,.int .i64 B.drops,.int .i64 B.vers]:=⟨by rw [← hw3]; exact zv _ _,ze (zk hw2) b23,zd (zd b01 b12) b23,by omega,Nat.le_of_lt z1,Nat.ne_of_lt z2⟩;have nAX:¬w.heap.size=w2.heap.size:=by omega
 have nXA:¬w2.heap.size=w.heap.size:=by omega
 have nRX:¬w1.heap.size=w2.heap.size:=by omega
 have nXR:¬w2.heap.size=w1.heap.size:=by omega
 clear z1 z2 b01 b12 b23 k1;go_enter Tryz.func50,Tryz.ntmps50;go_upto_region 2 with fail
 clear x0 x1 x2 x3 x4 x5 x6 x7 x8 x9 x10 x11
 try rw [hw3]
 clear hw1 hw2 hw3;generalize hX:w2.heap.size=X at *;generalize hR:w1.heap.size=R at *;have st5:=st.put 2 (.slice a n c) (cs':=#[.int .i64 B.id,.string B.name,.slice a n c,.slice fa fn fc,.slice ra rn rc,.slice oa on oc,.int .i64 B.ticks,.int .i64 B.parse,.int .i64 B.word,.int .i64 B.drops,.int .i64 B.vers]) rfl;have HB:=hide (za3 st5.below st5.hR (.int .i64 B.id) (.string B.name) (.slice a n c) (.slice fa fn fc) (.slice ra rn rc) (.slice oa on oc) (.int .i64 B.ticks) (.int .i64 B.parse) (.int .i64 B.word) (.int .i64 B.drops) (.int .i64 B.vers));obtain ⟨x0,x1,x2,x3,x4,x5,x6,x7,x8,x9,x10,x11⟩:=zcA kA;obtain ⟨y0,y1,y2,y3,y4,y5,y6,y7,y8,y9,y10⟩:=zj st.box;obtain ⟨u0,u1,u2,u3,u4,u5,u6,u7,u8,u9,u10⟩:=zj st.res;have g2:=zm st.box 2;have fr:=zm st.res;have fr0:=fr 0;have fr1:=fr 1;have fr2:=fr 2;have fr3:=fr 3;have fr4:=fr 4;have fr5:=fr 5;have fr6:=fr 6;have fr7:=fr 7;have fr8:=fr 8;have fr9:=fr 9;have fr10:=fr 10;clear fr st st5 kA;go_wp2;exact bodyPost_ret (v:=.agg #[.int .i64 B.id,.string B.name,.slice a n c,.slice fa fn fc,.slice ra rn rc,.slice oa on oc,.int .i64 B.ticks,.int .i64 B.parse,.int .i64 B.word,.int .i64 B.drops,.int .i64 B.vers]) (by simp [results,Tryz.results50,go_sem, *]) rfl ⟨rfl,HB.out⟩

structure CL where
 g:Nat
 wb:Nat
 rb:Nat
 b:Nat
 j:Nat
 v:Value

def CL.was (x:CL):WAS:=⟨x.b,x.j,x.v⟩
def CL.fn (x:CL):Value:=.func (.func x.g) #[] #[.pointer (some ⟨x.wb,0,none⟩),.pointer (some ⟨x.rb,0,none⟩)]

def CL.Ok (w:World) (x:CL):Prop :=
 (x.g=290∧(∃i:Int,x.v=.int .i64 i)∧w.heap[x.wb]? = some (.cells #[x.v] 3)∧w.heap[x.rb]? = some (.cells #[.pointer (some ⟨x.b,x.j,none⟩)] 290)) ∨
 (x.g=277∧(∃s:ByteArray,x.v=.string s)∧w.heap[x.wb]? = some (.cells #[x.v] 9)∧w.heap[x.rb]? = some (.cells #[.pointer (some ⟨x.b,x.j,none⟩)] 288)) ∨
 (x.g=297∧(∃(a:Option Addr) (n c:Nat),x.v=.slice a n c)∧w.heap[x.wb]? = some (.cells #[x.v] 26)∧w.heap[x.rb]? = some (.cells #[.pointer (some ⟨x.b,x.j,none⟩)] 306))

theorem CL.Ok.below {w w':World} {x:CL} (h:x.Ok w) (hb:Below w.heap.size w w'):x.Ok w':=by
 rcases h with ⟨h1,h2,h3,h4⟩ | ⟨h1,h2,h3,h4⟩ | ⟨h1,h2,h3,h4⟩
 ·exact .inl ⟨h1,h2,ze h3 hb,ze h4 hb⟩
 ·exact .inr (.inl ⟨h1,h2,ze h3 hb,ze h4 hb⟩)
 ·exact .inr (.inr ⟨h1,h2,ze h3 hb,ze h4 hb⟩)
theorem CL.Ok.only {w w':World} {x:CL} {bs:List Nat} (h:x.Ok w) (ho:Only bs w w') (h1:x.wb∉bs) (h2:x.rb∉bs):x.Ok w':=by
 rcases h with ⟨k1,k2,k3,k4⟩ | ⟨k1,k2,k3,k4⟩ | ⟨k1,k2,k3,k4⟩
 ·exact .inl ⟨k1,k2,ho.kept k3 h1,ho.kept k4 h2⟩
 ·exact .inr (.inl ⟨k1,k2,ho.kept k3 h1,ho.kept k4 h2⟩)
 ·exact .inr (.inr ⟨k1,k2,ho.kept k3 h1,ho.kept k4 h2⟩)
theorem CL.Ok.lt {w:World} {x:CL} (h:x.Ok w):x.wb < w.heap.size∧x.rb < w.heap.size:=by
 rcases h with ⟨k1,k2,k3,k4⟩ | ⟨k1,k2,k3,k4⟩ | ⟨k1,k2,k3,k4⟩
 all_goals exact ⟨(Array.getElem?_eq_some_iff.1 k3).1,(Array.getElem?_eq_some_iff.1 k4).1⟩

structure Exch (w w':World) (b j:Nat) (v u:Value) (x:CL) (wm:World):Prop where
 eb:x.b=b
 ej:x.j=j
 ev:x.v=v
 below:Below w.heap.size w wm
 ok:x.Ok wm
 hwb:w.heap.size≤x.wb
 hrb:w.heap.size≤x.rb
 set:w'=wm.setCell ⟨b,j,none⟩ u

theorem zeT (b j:Nat) (v u:Int) (w:World) (hc:w.cell? ⟨b,j,none⟩=some (.int .i64 v)) (hf:w.frozen? ⟨b,j,none⟩=false) :
  Calls Tryz.prog 280 #[.pointer (some ⟨b,j,none⟩),.int .i64 u] w fun e w'=>∃(x:CL) (wm:World),e=.returned x.fn∧Exch w w' b j (.int .i64 v) (.int .i64 u) x wm:=by
 have hbl:b < w.heap.size:=zu hc;generalize hw1:w.alloc (Obj.cells #[.pointer (some ⟨b,j,none⟩)] 290)=w1;have b1:=zb hw1;have k1:=zk hw1;have z1:w1.heap.size=w.heap.size+1:=by rw [← hw1]; simp
 generalize hw2:w1.alloc (Obj.cells #[.int .i64 0] 3)=w2;have b2:=zb hw2;have k2:=zk hw2;have b02:=zd b1 b2;have c1:=cell1 k1;have hc1:=(b1.cell (p:=⟨b,j,none⟩) hbl).trans hc;have hc2:=(b02.cell (p:=⟨b,j,none⟩) hbl).trans hc;have c2:=cell1 (ze k1 b2);have c3:=cell1 k2;have f3:w2.frozen? ⟨w1.heap.size,0,none⟩=false:=by simp [World.frozen?,k2]
 have HW3:Hid (w1.heap.size≠b):=hide (by omega);have HWA:Hid (w.heap.size≠w1.heap.size):=hide (by omega);have hff:=(b02.frozen (p:=⟨b,j,none⟩) hbl).trans hf;have K1:=hide (ze k1 b2);have HB:=hide b02;have HZ:=hide z1;clear z1;go_enter Tryz.func280,Tryz.ntmps280;go_upto_region 2 with fail
 try rw [hw2]
 generalize hw3:w2.setCell ⟨w1.heap.size,0,none⟩ (.int .i64 v)=w3;have b3:Below w.heap.size w w3:=by rw [← hw3]; exact HB.out.setCell (by show w.heap.size≤w1.heap.size; rw [HZ.out]; omega) _
 have k3:w3.heap[w1.heap.size]? = some (.cells #[.int .i64 v] 3):=by
  have:=zp (j:=0) k2 (.int .i64 v)
  rw [hw3] at this
  simpa using this
 have k4:w3.heap[w.heap.size]? = some (.cells #[.pointer (some ⟨b,j,none⟩)] 290):=by rw [← hw3]; exact zx K1.out HWA.out
 clear c1 c2 c3 f3 hff hc1 hc2 k1 k2 b1 b2 b02 hw1 hw2 hw3;have c4:=cell1 k4;have c5:=(b3.cell (p:=⟨b,j,none⟩) hbl).trans hc;have f5:=(b3.frozen (p:=⟨b,j,none⟩) hbl).trans hf;have HF:Hid (Exch w (w3.setCell ⟨b,j,none⟩ (.int .i64 u)) b j (.int .i64 v) (.int .i64 u) ⟨290,w1.heap.size,w.heap.size,b,j,.int .i64 v⟩ w3):=hide ⟨rfl,rfl,rfl,b3,.inl ⟨rfl,⟨_,rfl⟩,k3,k4⟩,by show w.heap.size≤w1.heap.size; rw [HZ.out]; omega,Nat.le_refl _,rfl⟩;clear k3 k4 b3 hc hf K1 HB;go_wp2;go_ret;exact ⟨_,_,rfl,HF.out⟩

theorem zeL (wb rb b j:Nat) (v:Int) (w:World) (k1:w.heap[wb]? = some (.cells #[.int .i64 v] 3)) (k2:w.heap[rb]? = some (.cells #[.pointer (some ⟨b,j,none⟩)] 290)) {cs:Array Value} {S:TypeId} (hb:w.heap[b]? = some (.cells cs S)) (hj:j < cs.size) :
  Calls Tryz.prog 290 #[.pointer (some ⟨wb,0,none⟩),.pointer (some ⟨rb,0,none⟩)] w fun e w'=>e=.returned (.tuple #[])∧w'=w.setCell ⟨b,j,none⟩ (.int .i64 v):=by
 have c1:=cell1 k1;have c2:=cell1 k2;have c3:w.cell? ⟨b,j,none⟩=some cs[j]:=by simp [World.cell?,hb,hj]
 have f3:w.frozen? ⟨b,j,none⟩=false:=by simp [World.frozen?,hb]
 go_enter Tryz.func290,Tryz.ntmps290;go_wp2;exact bodyPost_end (v:=.tuple #[]) (by simp [results,Tryz.results290,go_sem, *]) rfl ⟨rfl,rfl⟩

theorem zeU (b j:Nat) (v u:ByteArray) (w:World) (hc:w.cell? ⟨b,j,none⟩=some (.string v)) (hf:w.frozen? ⟨b,j,none⟩=false) :
  Calls Tryz.prog 260 #[.pointer (some ⟨b,j,none⟩),.string u] w fun e w'=>∃(x:CL) (wm:World),e=.returned x.fn∧Exch w w' b j (.string v) (.string u) x wm:=by
 have hbl:b < w.heap.size:=zu hc;generalize hw1:w.alloc (Obj.cells #[.pointer (some ⟨b,j,none⟩)] 288)=w1;have b1:=zb hw1;have k1:=zk hw1;have z1:w1.heap.size=w.heap.size+1:=by rw [← hw1]; simp
 generalize hw2:w1.alloc (Obj.cells #[.string ⟨#[]⟩] 9)=w2;have b2:=zb hw2;have k2:=zk hw2;have b02:=zd b1 b2;have c1:=cell1 k1;have hc1:=(b1.cell (p:=⟨b,j,none⟩) hbl).trans hc;have hc2:=(b02.cell (p:=⟨b,j,none⟩) hbl).trans hc;have c2:=cell1 (ze k1 b2);have c3:=cell1 k2;have f3:w2.frozen? ⟨w1.heap.size,0,none⟩=false:=by simp [World.frozen?,k2]
 have HW3:Hid (w1.heap.size≠b):=hide (by omega);have HWA:Hid (w.heap.size≠w1.heap.size):=hide (by omega);have hff:=(b02.frozen (p:=⟨b,j,none⟩) hbl).trans hf;have K1:=hide (ze k1 b2);have HB:=hide b02;have HZ:=hide z1;clear z1;go_enter Tryz.func260,Tryz.ntmps260;go_upto_region 2 with fail
 try rw [hw2]
 generalize hw3:w2.setCell ⟨w1.heap.size,0,none⟩ (.string v)=w3;have b3:Below w.heap.size w w3:=by rw [← hw3]; exact HB.out.setCell (by show w.heap.size≤w1.heap.size; rw [HZ.out]; omega) _
 have k3:w3.heap[w1.heap.size]? = some (.cells #[.string v] 9):=by
  have:=zp (j:=0) k2 (.string v)
  rw [hw3] at this
  simpa using this
 have k4:w3.heap[w.heap.size]? = some (.cells #[.pointer (some ⟨b,j,none⟩)] 288):=by rw [← hw3]; exact zx K1.out HWA.out
 clear c1 c2 c3 f3 hff hc1 hc2 k1 k2 b1 b2 b02 hw1 hw2 hw3;have c4:=cell1 k4;have c5:=(b3.cell (p:=⟨b,j,none⟩) hbl).trans hc;have f5:=(b3.frozen (p:=⟨b,j,none⟩) hbl).trans hf;have HF:Hid (Exch w (w3.setCell ⟨b,j,none⟩ (.string u)) b j (.string v) (.string u) ⟨277,w1.heap.size,w.heap.size,b,j,.string v⟩ w3):=hide ⟨rfl,rfl,rfl,b3,.inr <| .inl ⟨rfl,⟨_,rfl⟩,k3,k4⟩,by show w.heap.size≤w1.heap.size; rw [HZ.out]; omega,Nat.le_refl _,rfl⟩;clear k3 k4 b3 hc hf K1 HB;go_wp2;go_ret;exact ⟨_,_,rfl,HF.out⟩

theorem zeN (wb rb b j:Nat) (v:ByteArray) (w:World) (k1:w.heap[wb]? = some (.cells #[.string v] 9)) (k2:w.heap[rb]? = some (.cells #[.pointer (some ⟨b,j,none⟩)] 288)) {cs:Array Value} {S:TypeId} (hb:w.heap[b]? = some (.cells cs S)) (hj:j < cs.size) :
  Calls Tryz.prog 277 #[.pointer (some ⟨wb,0,none⟩),.pointer (some ⟨rb,0,none⟩)] w fun e w'=>e=.returned (.tuple #[])∧w'=w.setCell ⟨b,j,none⟩ (.string v):=by
 have c1:=cell1 k1;have c2:=cell1 k2;have c3:w.cell? ⟨b,j,none⟩=some cs[j]:=by simp [World.cell?,hb,hj]
 have f3:w.frozen? ⟨b,j,none⟩=false:=by simp [World.frozen?,hb]
 go_enter Tryz.func277,Tryz.ntmps277;go_wp2;exact bodyPost_end (v:=.tuple #[]) (by simp [results,Tryz.results277,go_sem, *]) rfl ⟨rfl,rfl⟩

theorem zc4 (b j:Nat) (va ua:Option Addr) (vn vc un uc:Nat) (w:World) (hc:w.cell? ⟨b,j,none⟩=some (.slice va vn vc)) (hf:w.frozen? ⟨b,j,none⟩=false) :
  Calls Tryz.prog 285 #[.pointer (some ⟨b,j,none⟩),.slice ua un uc] w fun e w'=>∃(x:CL) (wm:World),e=.returned x.fn∧Exch w w' b j (.slice va vn vc) (.slice ua un uc) x wm:=by
 have hbl:b < w.heap.size:=zu hc;generalize hw1:w.alloc (Obj.cells #[.pointer (some ⟨b,j,none⟩)] 306)=w1;have b1:=zb hw1;have k1:=zk hw1;have z1:w1.heap.size=w.heap.size+1:=by rw [← hw1]; simp
 generalize hw2:w1.alloc (Obj.cells #[.slice none 0 0] 26)=w2;have b2:=zb hw2;have k2:=zk hw2;have b02:=zd b1 b2;have c1:=cell1 k1;have hc1:=(b1.cell (p:=⟨b,j,none⟩) hbl).trans hc;have hc2:=(b02.cell (p:=⟨b,j,none⟩) hbl).trans hc;have c2:=cell1 (ze k1 b2);have c3:=cell1 k2;have f3:w2.frozen? ⟨w1.heap.size,0,none⟩=false:=by simp [World.frozen?,k2]
 have HW3:Hid (w1.heap.size≠b):=hide (by omega);have HWA:Hid (w.heap.size≠w1.heap.size):=hide (by omega);have hff:=(b02.frozen (p:=⟨b,j,none⟩) hbl).trans hf;have K1:=hide (ze k1 b2);have HB:=hide b02;have HZ:=hide z1;clear z1;go_enter Tryz.func285,Tryz.ntmps285;go_upto_region 2 with fail
 try rw [hw2]
 generalize hw3:w2.setCell ⟨w1.heap.size,0,none⟩ (.slice va vn vc)=w3;have b3:Below w.heap.size w w3:=by rw [← hw3]; exact HB.out.setCell (by show w.heap.size≤w1.heap.size; rw [HZ.out]; omega) _
 have k3:w3.heap[w1.heap.size]? = some (.cells #[.slice va vn vc] 26):=by
  have:=zp (j:=0) k2 (.slice va vn vc)
  rw [hw3] at this
  simpa using this
 have k4:w3.heap[w.heap.size]? = some (.cells #[.pointer (some ⟨b,j,none⟩)] 306):=by rw [← hw3]; exact zx K1.out HWA.out
 clear c1 c2 c3 f3 hff hc1 hc2 k1 k2 b1 b2 b02 hw1 hw2 hw3;have c4:=cell1 k4;have c5:=(b3.cell (p:=⟨b,j,none⟩) hbl).trans hc;have f5:=(b3.frozen (p:=⟨b,j,none⟩) hbl).trans hf;have HF:Hid (Exch w (w3.setCell ⟨b,j,none⟩ (.slice ua un uc)) b j (.slice va vn vc) (.slice ua un uc) ⟨297,w1.heap.size,w.heap.size,b,j,.slice va vn vc⟩ w3):=hide ⟨rfl,rfl,rfl,b3,.inr <| .inr ⟨rfl,⟨_,_,_,rfl⟩,k3,k4⟩,by show w.heap.size≤w1.heap.size; rw [HZ.out]; omega,Nat.le_refl _,rfl⟩;clear k3 k4 b3 hc hf K1 HB;go_wp2;go_ret;exact ⟨_,_,rfl,HF.out⟩

theorem zeM (wb rb b j:Nat) (va:Option Addr) (vn vc:Nat) (w:World) (k1:w.heap[wb]? = some (.cells #[.slice va vn vc] 26)) (k2:w.heap[rb]? = some (.cells #[.pointer (some ⟨b,j,none⟩)] 306)) {cs:Array Value} {S:TypeId} (hb:w.heap[b]? = some (.cells cs S)) (hj:j < cs.size) :
  Calls Tryz.prog 297 #[.pointer (some ⟨wb,0,none⟩),.pointer (some ⟨rb,0,none⟩)] w fun e w'=>e=.returned (.tuple #[])∧w'=w.setCell ⟨b,j,none⟩ (.slice va vn vc):=by
 have c1:=cell1 k1;have c2:=cell1 k2;have c3:w.cell? ⟨b,j,none⟩=some cs[j]:=by simp [World.cell?,hb,hj]
 have f3:w.frozen? ⟨b,j,none⟩=false:=by simp [World.frozen?,hb]
 go_enter Tryz.func297,Tryz.ntmps297;go_wp2;exact bodyPost_end (v:=.tuple #[]) (by simp [results,Tryz.results297,go_sem, *]) rfl ⟨rfl,rfl⟩

theorem CL.Ok.run {w:World} {x:CL} (h:x.Ok w) {cs:Array Value} {S:TypeId} (hb:w.heap[x.b]? = some (.cells cs S)) (hj:x.j < cs.size) :
  Calls Tryz.prog x.g #[.pointer (some ⟨x.wb,0,none⟩),.pointer (some ⟨x.rb,0,none⟩)] w fun e w'=>e=.returned (.tuple #[])∧w'=w.setCell ⟨x.b,x.j,none⟩ x.v:=by
 rcases h with ⟨k1,⟨i,k2⟩,k3,k4⟩ | ⟨k1,⟨s,k2⟩,k3,k4⟩ | ⟨k1,⟨a,n,c,k2⟩,k3,k4⟩
 ·rw [k1,k2];rw [k2] at k3;exact zeL _ _ _ _ _ _ k3 k4 hb hj
 ·rw [k1,k2];rw [k2] at k3;exact zeN _ _ _ _ _ _ k3 k4 hb hj
 ·rw [k1,k2];rw [k2] at k3;exact zeM _ _ _ _ _ _ _ _ k3 k4 hb hj

section
open Go.RowKit

theorem zaD {w:World} {g:Nat} {T:TypeId} {c0 c1 c2 c3 c4 c5 c6 c7 c8 c9 c10 c11 c12:Value} (h:w.heap[g]? = some (.cells #[c0,c1,c2,c3,c4,c5,c6,c7,c8,c9,c10,c11,c12] T)) :
  w.cell? ⟨g,0,none⟩=some c0∧w.cell? ⟨g,1,none⟩=some c1∧w.cell? ⟨g,2,none⟩=some c2∧w.cell? ⟨g,3,none⟩=some c3∧w.cell? ⟨g,4,none⟩=some c4∧w.cell? ⟨g,5,none⟩=some c5∧w.cell? ⟨g,6,none⟩=some c6∧w.cell? ⟨g,7,none⟩=some c7∧w.cell? ⟨g,8,none⟩=some c8∧w.cell? ⟨g,9,none⟩=some c9∧w.cell? ⟨g,10,none⟩=some c10∧w.cell? ⟨g,11,none⟩=some c11∧w.cell? ⟨g,12,none⟩=some c12:=by
 simp [World.cell?,h]

structure Tr (w:World) (base X:Nat) (a:Option Addr) (n c:Nat) (fa:Option Addr) (fn fc:Nat) (ra:Option Addr) (rn rc:Nat) (oa:Option Addr) (on oc:Nat) (B:BR) (ua:Option Addr) (un uc:Nat):Prop where
 box:w.heap[X]? = some (.cells #[.slice a n c,.int .i64 B.id,.string B.name,.slice none 0 0,.slice fa fn fc,.slice ra rn rc,.slice oa on oc,.int .i64 B.ticks,.int .i64 B.parse,.int .i64 B.word,.int .i64 B.drops,.int .i64 B.vers,.slice ua un uc] 103)
 own:BrOwn w base a n c fa fn fc ra rn rc oa on oc B
 hX:base≤X

theorem zfI {α:Type} {F:Flat α} {w:World} {base g n cap:Nat} {T:TypeId} {l:List α} (h:w.ownsRow base T F.k (.slice (some ⟨g,0,none⟩) n cap) n (F.all l)) {i:Nat} {x x':α} (hx:l[i]? = some x) (j:Nat) (u:Value) (hj:j < F.k) (hu:(F.cs x).set j u=F.cs x') :
  (w.setCell ⟨g,i*F.k+j,none⟩ u).ownsRow base T F.k (.slice (some ⟨g,0,none⟩) n cap) n (F.all (l.set i x')):=by
 obtain ⟨hi,hxe⟩:=List.getElem?_eq_some_iff.1 hx;have hL:l=l.take i++x::l.drop (i+1):=by rw [← hxe,List.getElem_cons_drop,List.take_append_drop]
 have hp:(l.take i).length=i:=by rw [List.length_take]; omega
 have hS:l.set i x'=l.take i++x'::l.drop (i+1):=by rw [List.set_eq_take_append_cons_drop,if_pos (by omega)]
 rw [hS];rw [hL] at h
 have:=zbX (pre:=l.take i) h j u hj hu
 rw [hp] at this;exact this

theorem zcf {α:Type} {F:Flat α} {w:World} {base g n cap:Nat} {T:TypeId} {l:List α} (h:w.ownsRow base T F.k (.slice (some ⟨g,0,none⟩) n cap) n (F.all l)) {i:Nat} {x:α} (hx:l[i]? = some x) {j:Nat} {v:Value} (hv:(F.cs x)[j]? = some v):∃cs:Array Value,w.heap[g]? = some (.cells cs T)∧cs[i*F.k+j]? = some v:=by
 have h1:=(zaB h hx hv).1;obtain ⟨-,⟨e,-⟩ | ⟨g',cap',cur,e,hg,hh,r⟩⟩:=h
 ·cases e
 ·cases e;refine ⟨cur,hh, ?_⟩
  simpa [World.cell?,hh] using h1

section
variable {w w':World} {base X:Nat} {a:Option Addr} {n c:Nat} {fa:Option Addr} {fn fc:Nat} {ra:Option Addr} {rn rc:Nat} {oa:Option Addr} {on oc:Nat} {B:BR} {ua:Option Addr} {un uc:Nat}

theorem Tr.below (h:Tr w base X a n c fa fn fc ra rn rc oa on oc B ua un uc) (hb:Below w.heap.size w w'):Tr w' base X a n c fa fn fc ra rn rc oa on oc B ua un uc :=
 ⟨ze h.box hb,h.own.below hb,h.hX⟩

theorem Tr.fr (h:Tr w base X a n c fa fn fc ra rn rc oa on oc B ua un uc) (j:Nat):w.frozen? ⟨X,j,none⟩=false:=zm h.box j

theorem Tr.boxed (h:Tr w base X a n c fa fn fc ra rn rc oa on oc B ua un uc) (j:Nat) (u:Value):BrOwn (w.setCell ⟨X,j,none⟩ u) base a n c fa fn fc ra rn rc oa on oc B :=
 h.own.other h.box (by decide) (by decide) (by decide) (by decide) j u

theorem Tr.name (h:Tr w base X a n c fa fn fc ra rn rc oa on oc B ua un uc) (S:ByteArray):Tr (w.setCell ⟨X,2,none⟩ (.string S)) base X a n c fa fn fc ra rn rc oa on oc { B with name:=S } ua un uc:=by
 have hb:=h.boxed 2 (.string S);refine ⟨?_,⟨hb.ports,hb.f,hb.v⟩,h.hX⟩
 have:=zp (j:=2) h.box (.string S)
 simpa using this

theorem Tr.rows (h:Tr w base X a n c fa fn fc ra rn rc oa on oc B ua un uc) {ra':Option Addr} {rn' rc':Nat} {l:List VR} (hr:w.ownsRow base 119 3 (.slice ra' rn' rc') rn' (vrowF.all l)):Tr (w.setCell ⟨X,5,none⟩ (.slice ra' rn' rc')) base X a n c fa fn fc ra' rn' rc' oa on oc { B with v:=⟨l,B.v.own⟩ } ua un uc:=by
 have hb:=h.boxed 5 (.slice ra' rn' rc');refine ⟨?_,⟨hb.ports,hb.f,⟨?_,hb.v.own,hb.v.i64⟩⟩,h.hX⟩
 ·have:=zp (j:=5) h.box (.slice ra' rn' rc')
  simpa using this
 ·exact zC hr (zl (rb:=X) 5 _) (zaf hr h.box (by decide))

theorem Tr.undone (h:Tr w base X a n c fa fn fc ra rn rc oa on oc B ua un uc) (ua':Option Addr) (un' uc':Nat):Tr (w.setCell ⟨X,12,none⟩ (.slice ua' un' uc')) base X a n c fa fn fc ra rn rc oa on oc B ua' un' uc':=by
 refine ⟨?_,h.boxed 12 _,h.hX⟩
 have:=zp (j:=12) h.box (.slice ua' un' uc')
 simpa using this

theorem Tr.off (h:Tr w base X a n c fa fn fc ra rn rc oa on oc B ua un uc) {base2 k2:Nat} {e2:TypeId} {v2:Value} {n2:Nat} {xs2:List Value} (h2:w.ownsRow base2 e2 k2 v2 n2 xs2) (hne:(e2:Nat)≠103) (hg:w.grownBy w' v2.ownBlock):w'.heap[X]? = some (.cells #[.slice a n c,.int .i64 B.id,.string B.name,.slice none 0 0,.slice fa fn fc,.slice ra rn rc,.slice oa on oc,.int .i64 B.ticks,.int .i64 B.parse,.int .i64 B.word,.int .i64 B.drops,.int .i64 B.vers,.slice ua un uc] 103) :=
 zA h.box hg (zaf h2 h.box hne)

theorem Tr.cost {g:Nat} (h:Tr w base X (some ⟨g,0,none⟩) n c fa fn fc ra rn rc oa on oc B ua un uc) {p:Nat} {x:PT} (hx:B.ports[p]? = some x) (N:Int):Tr (w.setCell ⟨g,p*8+1,none⟩ (.int .i64 N)) base X (some ⟨g,0,none⟩) n c fa fn fc ra rn rc oa on oc { B with ports:=B.ports.set p ⟨x.up,N,x.has,x.v⟩ } ua un uc:=by
 have hg:w.grownBy (w.setCell ⟨g,p*8+1,none⟩ (.int .i64 N)) (Value.slice (some ⟨g,0,none⟩) n c).ownBlock:=zl _ _;refine ⟨h.off h.own.ports (by decide) hg,⟨zfI (F:=ptF) h.own.ports hx 1 _ (by decide) rfl,zY h.own.f h.own.ports (by decide) hg,⟨zY h.own.v.rows h.own.ports (by decide) hg,zY h.own.v.own h.own.ports (by decide) hg,h.own.v.i64⟩⟩,h.hX⟩

theorem Tr.pvid {g:Nat} (h:Tr w base X a n c fa fn fc ra rn rc (some ⟨g,0,none⟩) on oc B ua un uc) {p:Nat} (hp:p < B.v.own.length) (N:Int) (hN:I64 N):Tr (w.setCell ⟨g,p,none⟩ (.int .i64 N)) base X a n c fa fn fc ra rn rc (some ⟨g,0,none⟩) on oc { B with v:=⟨B.v.rows,B.v.own.set p N⟩ } ua un uc:=by
 have hg:w.grownBy (w.setCell ⟨g,p,none⟩ (.int .i64 N)) (Value.slice (some ⟨g,0,none⟩) on oc).ownBlock:=zl _ _;have ho:=h.own.v.own;rw [← zF] at ho;have hx:B.v.own[p]? = some (B.v.own[p]'hp):=List.getElem?_eq_getElem hp;have h1:=zfI (F:=intF) ho hx 0 (.int .i64 N) (by decide) rfl;rw [show p*intF.k+0=p from by show p*1+0=p; omega,zF] at h1;refine ⟨h.off h.own.v.own (by decide) hg,⟨zY h.own.ports h.own.v.own (by decide) hg,zY h.own.f h.own.v.own (by decide) hg,⟨zY h.own.v.rows h.own.v.own (by decide) hg,h1, ?_⟩⟩,h.hX⟩;intro z hz;rcases List.mem_or_eq_of_mem_set hz with hz | rfl
 ·exact h.own.v.i64 z hz
 ·exact hN

theorem Tr.row {g:Nat} (h:Tr w base X a n c fa fn fc (some ⟨g,0,none⟩) rn rc oa on oc B ua un uc) {k:Nat} {x x':VR} (hx:B.v.rows[k]? = some x) (j:Nat) (u:Value) (hj:j < 3) (hu:(vrowF.cs x).set j u=vrowF.cs x'):Tr (w.setCell ⟨g,k*3+j,none⟩ u) base X a n c fa fn fc (some ⟨g,0,none⟩) rn rc oa on oc { B with v:=⟨B.v.rows.set k x',B.v.own⟩ } ua un uc:=by
 have hg:w.grownBy (w.setCell ⟨g,k*3+j,none⟩ u) (Value.slice (some ⟨g,0,none⟩) rn rc).ownBlock:=zl _ _;exact ⟨h.off h.own.v.rows (by decide) hg,⟨zY h.own.ports h.own.v.rows (by decide) hg,zY h.own.f h.own.v.rows (by decide) hg,⟨zfI (F:=vrowF) h.own.v.rows hx j u hj hu,zY h.own.v.own h.own.v.rows (by decide) hg,h.own.v.i64⟩⟩,h.hX⟩
end

def Cap (w:World) (tb X:Nat):Prop:=w.heap[tb]? = some (.cells #[.pointer (some ⟨X,0,none⟩)] 96)
theorem Cap.below {w w':World} {tb X:Nat} (h:Cap w tb X) (hb:Below w.heap.size w w'):Cap w' tb X:=ze h hb

section
variable {w:World} {base X:Nat} {a:Option Addr} {n c:Nat} {fa:Option Addr} {fn fc:Nat} {ra:Option Addr} {rn rc:Nat} {oa:Option Addr} {on oc:Nat} {B:BR} {ua:Option Addr} {un uc:Nat}
theorem zeH {g:Nat} (h:Tr w base X (some ⟨g,0,none⟩) n c fa fn fc ra rn rc oa on oc B ua un uc) (tb pb p:Nat) (ht:Cap w tb X) (hp:w.heap[pb]? = some (.cells #[.int .i64 (p:Int)] 3)) (hn:p < n) :
  Calls Tryz.prog 262 #[.pointer (some ⟨tb,0,none⟩),.pointer (some ⟨pb,0,none⟩)] w fun e w'=>e=.returned (.pointer (some ⟨g,p*8+1,none⟩))∧Below w.heap.size w w':=by
 have c1:=cell1 ht;have c2:=cell1 hp;obtain ⟨x0,-⟩:=zaD h.box;have hn':(p:Int) < (n:Int):=by omega
 go_enter Tryz.func262,Tryz.ntmps262;go_wp2_with fail
 go_quiet (fail)
 go_wp2;go_ret;exact ⟨by simp,zap (Below.refl _ _) _⟩

theorem zeI {g:Nat} (h:Tr w base X a n c fa fn fc ra rn rc (some ⟨g,0,none⟩) on oc B ua un uc) (tb pb p:Nat) (ht:Cap w tb X) (hp:w.heap[pb]? = some (.cells #[.int .i64 (p:Int)] 3)) (hn:p < on) :
  Calls Tryz.prog 263 #[.pointer (some ⟨tb,0,none⟩),.pointer (some ⟨pb,0,none⟩)] w fun e w'=>e=.returned (.pointer (some ⟨g,p,none⟩))∧Below w.heap.size w w':=by
 have c1:=cell1 ht;have c2:=cell1 hp;obtain ⟨-,-,-,-,-,-,x6,-⟩:=zaD h.box;have hn':(p:Int) < (on:Int):=by omega
 go_enter Tryz.func263,Tryz.ntmps263;go_wp2_with fail
 go_quiet (fail)
 go_wp2;go_ret;exact ⟨by simp,zap (Below.refl _ _) _⟩

theorem zft {g:Nat} (h:Tr w base X a n c fa fn fc (some ⟨g,0,none⟩) rn rc oa on oc B ua un uc) (tb pb p:Nat) (ht:Cap w tb X) (hp:w.heap[pb]? = some (.cells #[.int .i64 (p:Int)] 3)) (hn:p < rn) :
  Calls Tryz.prog 265 #[.pointer (some ⟨tb,0,none⟩),.pointer (some ⟨pb,0,none⟩)] w fun e w'=>e=.returned (.pointer (some ⟨g,p*3+1,none⟩))∧Below w.heap.size w w':=by
 have c1:=cell1 ht;have c2:=cell1 hp;obtain ⟨-,-,-,-,-,x5,-⟩:=zaD h.box;have hn':(p:Int) < (rn:Int):=by omega
 go_enter Tryz.func265,Tryz.ntmps265;go_wp2_with fail
 go_quiet (fail)
 go_wp2;go_ret;exact ⟨by simp,zap (Below.refl _ _) _⟩

theorem zeG {g:Nat} (h:Tr w base X a n c fa fn fc (some ⟨g,0,none⟩) rn rc oa on oc B ua un uc) (tb pb p:Nat) (ht:Cap w tb X) (hp:w.heap[pb]? = some (.cells #[.int .i64 (p:Int)] 3)) (hn:p < rn) :
  Calls Tryz.prog 266 #[.pointer (some ⟨tb,0,none⟩),.pointer (some ⟨pb,0,none⟩)] w fun e w'=>e=.returned (.pointer (some ⟨g,p*3+2,none⟩))∧Below w.heap.size w w':=by
 have c1:=cell1 ht;have c2:=cell1 hp;obtain ⟨-,-,-,-,-,x5,-⟩:=zaD h.box;have hn':(p:Int) < (rn:Int):=by omega
 go_enter Tryz.func266,Tryz.ntmps266;go_wp2_with fail
 go_quiet (fail)
 go_wp2;go_ret;exact ⟨by simp,zap (Below.refl _ _) _⟩
end

end

theorem zag {w:World} {g:Nat} {T:TypeId} {c0 c1 c2:Value} (h:w.heap[g]? = some (.cells #[c0,c1,c2] T)):w.cell? ⟨g,0,none⟩=some c0∧w.cell? ⟨g,1,none⟩=some c1∧w.cell? ⟨g,2,none⟩=some c2:=by
 simp [World.cell?,h]

theorem Exch.later {w0 w w':World} {b j:Nat} {v u:Value} {x:CL} {wm:World} (h:Exch w w' b j v u x wm) (hb:Below w0.heap.size w0 w):Exch w0 w' b j v u x wm :=
 ⟨h.eb,h.ej,h.ev,zd hb h.below,h.ok,Nat.le_trans hb.size h.hwb,Nat.le_trans hb.size h.hrb,h.set⟩

theorem zcN (F:Nat) (caps:Array Value) (lo hi:Int) (w:World) :
  Calls Tryz.prog 261 #[.func (.func F) #[] caps,.int .i64 lo,.int .i64 hi] w fun e w'=>∃wb lb hb:Nat,e=.returned (.agg #[.int .i64 2,.func (.func 278) #[] #[.pointer (some ⟨lb,0,none⟩),.pointer (some ⟨hb,0,none⟩)],.func (.func 279) #[] #[.pointer (some ⟨wb,0,none⟩)]]) ∧
   w'.heap[wb]? = some (.cells #[.func (.func F) #[] caps] 291)∧w'.heap[lb]? = some (.cells #[.int .i64 lo] 3)∧w'.heap[hb]? = some (.cells #[.int .i64 hi] 3)∧Below w.heap.size w w':=by
 generalize hw1:w.alloc (Obj.cells #[.func (.func F) #[] caps] 291)=w1;have b1:=zb hw1;have k1:=zk hw1;generalize hw2:w1.alloc (Obj.cells #[.int .i64 lo] 3)=w2;have b2:=zb hw2;have k2:=zk hw2;generalize hw3:w2.alloc (Obj.cells #[.int .i64 hi] 3)=w3;have b3:=zb hw3;have k3:=zk hw3;generalize hw4:w3.alloc (Obj.cells #[.int .i64 0,.nilFunc,.nilFunc] 199)=w4;have b4:=zb hw4;have k4:=zk hw4;have b04:=zd (zd (zd b1 b2) b3) b4;have q1:=ze (ze (ze k1 b2) b3) b4;have q2:=ze (ze k2 b3) b4;have q3:=ze k3 b4;have l1:=(Array.getElem?_eq_some_iff.1 k1).1;have l2:=(Array.getElem?_eq_some_iff.1 k2).1;have l3:=(Array.getElem?_eq_some_iff.1 k3).1;have s2:=b2.size;have s3:=b3.size;have HN:Hid (w.heap.size≠w3.heap.size∧w1.heap.size≠w3.heap.size∧w2.heap.size≠w3.heap.size∧w.heap.size≤w3.heap.size):=hide ⟨by omega,by omega,by omega,by omega⟩;have HB:=hide b04;obtain ⟨y0,y1,y2⟩:=zag k4;have f0:=zm k4 0;have f1:=zm k4 1;have f2:=zm k4 2;clear l1 l2 l3 s2 s3 b1 b2 b3 b4 b04 k1 k2 k3 k4;have Q:=hide (And.intro q1 (And.intro q2 q3));clear q1 q2 q3;go_enter Tryz.func261,Tryz.ntmps261;go_wp2;obtain ⟨n1,n2,n3,n4⟩:=HN.out;obtain ⟨q1,q2,q3⟩:=Q.out;exact bodyPost_ret (v:=.agg #[.int .i64 2,.func (.func 278) #[] #[.pointer (some ⟨w1.heap.size,0,none⟩),.pointer (some ⟨w2.heap.size,0,none⟩)],.func (.func 279) #[] #[.pointer (some ⟨w.heap.size,0,none⟩)]]) (by simp [results,Tryz.results261,go_sem, *]) rfl ⟨w.heap.size,w1.heap.size,w2.heap.size,rfl,zx (zx (zx q1 n1) n1) n1,zx (zx (zx q2 n2) n2) n2,zx (zx (zx q3 n3) n3) n3,zg (zg (zg HB.out n4 0 _) n4 1 _) n4 2 _⟩

theorem zhl (lb hb:Nat) (lo hi:Int) (K N:Int) (S:ByteArray) (za:Option Addr) (zn zc:Nat) (w:World) (k1:w.heap[lb]? = some (.cells #[.int .i64 lo] 3)) (k2:w.heap[hb]? = some (.cells #[.int .i64 hi] 3)) :
  Calls Tryz.prog 278 #[.agg #[.int .i64 K,.int .i64 N,.string S,.slice za zn zc],.pointer (some ⟨lb,0,none⟩),.pointer (some ⟨hb,0,none⟩)] w fun e w'=>e=.returned (.bool (in3 N lo hi))∧Below w.heap.size w w':=by
 generalize hw1:w.alloc (Obj.cells #[.int .i64 K,.int .i64 N,.string S,.slice za zn zc] 35)=w1;have b1:=zb hw1;have kv:=zk hw1;obtain ⟨⟨p0,p1,p2,p3⟩,-⟩:=zah kv;have c1:=cell1 (ze k1 b1);have c2:=cell1 (ze k2 b1);have HB:=hide b1;clear b1 kv k1 k2;go_enter Tryz.func278,Tryz.ntmps278;go_wp2_with fail
 refine (zz N lo hi _).mono ?_;rintro r w3 ⟨rfl,ew⟩;obtain rfl:=ew.symm;go_wp2;go_ret;exact ⟨rfl,HB.out⟩

theorem zcp (F:Nat) (caps:Array Value) (wb b j:Nat) (v:Int) (K N:Int) (S:ByteArray) (za:Option Addr) (zn zc:Nat) (w:World) (kw:w.heap[wb]? = some (.cells #[.func (.func F) #[] caps] 291)) (he:∀args w,(callFunc F args).run Tryz.prog w=.ok (.enter F args) w)
  (hwh:∀w1,Below w.heap.size w w1→Calls Tryz.prog F caps w1 fun e w'=>e=.returned (.pointer (some ⟨b,j,none⟩))∧Below w1.heap.size w1 w') (hc:w.cell? ⟨b,j,none⟩=some (.int .i64 v)) (hf:w.frozen? ⟨b,j,none⟩=false) (hne:wb≠b) :
  Calls Tryz.prog 279 #[.agg #[.int .i64 K,.int .i64 N,.string S,.slice za zn zc],.pointer (some ⟨wb,0,none⟩)] w fun e w'=>∃(x:CL) (wm:World),e=.returned x.fn∧Exch w w' b j (.int .i64 v) (.int .i64 N) x wm:=by
 have hbl:b < w.heap.size:=zu hc;have HBL:=hide hbl;have HC:=hide hc;have HF:=hide hf;have HNE:=hide hne;clear hbl hc hf hne;generalize hw1:w.alloc (Obj.cells #[.int .i64 K,.int .i64 N,.string S,.slice za zn zc] 35)=w1;have b1:=zb hw1;have k1:=zk hw1;have kw:=ze kw b1;go_enter Tryz.func279,Tryz.ntmps279;go_upto_region 1 with fail
 try rw [hw1]
 clear hw1;have vv:Below w1.heap.size w1 w1.drew:=zr (Below.refl _ _);refine wp_region_held_drew (S:=(fun W=>zcc W wb 0 (.func (.func F) #[] caps)∧zcc W w.heap.size 1 (.int .i64 N))) (by kernel_rfl) (⟨cell1 (ze kw vv),(zah (ze k1 vv)).1.2.1⟩) (fun hHeld => ?_);refine kK 0 ?_;refine kK 2 ?_;refine kK 3 ?_;refine kR 1 fun K hK => ?_
 go_simp;clear hHeld;refine (hwh _ (zd b1 vv)).mono ?_;rintro e z1 ⟨rfl,hz1⟩;have vv:=zd vv hz1;clear hz1;go_wp2_with fail
 refine kO hK (⟨cell1 (ze kw vv),(zah (ze k1 vv)).1.2.1⟩) fun hHeld => ?_
 clear hK K;refine kR 4 fun K hK => ?_
 go_simp;clear hHeld;have vw:=zd b1 vv;refine (zeT b j v N _ ((vw.cell (p:=⟨b,j,none⟩) HBL.out).trans HC.out) ((vw.frozen (p:=⟨b,j,none⟩) HBL.out).trans HF.out)).mono ?_;rintro e z2 ⟨x,wm,rfl,ex⟩;have hs:z2.cell? ⟨wb,0,none⟩=some (.func (.func F) #[] caps)∧z2.cell? ⟨w.heap.size,1,none⟩=some (.int .i64 N):=by
  have q:=zd vv ex.below;rw [ex.set];exact ⟨cell1 (zx (ze kw q) HNE.out),(zah (zx (ze k1 q) (fun e=>absurd e.symm (Nat.ne_of_lt HBL.out)))).1.2.1⟩
 have HX:=hide (ex.later vw);have HS2:=hide hs;clear ex hs;go_wp2_with fail
 refine kO hK (HS2.out) fun hHeld => ?_
 clear hK K;refine kK 5 ?_;refine wpAnyH_done (by kernel_rfl) ?_ _;have HQ:=hide (And.intro HX.out True.intro);clear hHeld vv kw k1 vw;go_wp2;go_ret;exact ⟨x,wm,rfl,HQ.out.1⟩

theorem zgA (X:Nat) (w:World) :
  Calls Tryz.prog 213 #[.pointer (some ⟨X,0,none⟩)] w fun e w'=>∃tb:Nat,e=.returned (.agg #[.int .i64 4,.func (.func 258) #[] #[],.func (.func 259) #[] #[.pointer (some ⟨tb,0,none⟩)]])∧Cap w' tb X∧Below w.heap.size w w':=by
 generalize hw1:w.alloc (Obj.cells #[.pointer (some ⟨X,0,none⟩)] 96)=w1;have b1:=zb hw1;have k1:=zk hw1;generalize hw4:w1.alloc (Obj.cells #[.int .i64 0,.nilFunc,.nilFunc] 199)=w4;have b4:=zb hw4;have k4:=zk hw4;have q1:=ze k1 b4;have l1:=(Array.getElem?_eq_some_iff.1 k1).1;have HN:Hid (w.heap.size≠w1.heap.size∧w.heap.size≤w1.heap.size):=hide ⟨by omega,by omega⟩;have HB:=hide (zd b1 b4);obtain ⟨y0,y1,y2⟩:=zag k4;have f0:=zm k4 0;have f1:=zm k4 1;have f2:=zm k4 2;have Q:=hide q1;clear l1 b1 b4 k1 k4 q1;go_enter Tryz.func213,Tryz.ntmps213;go_wp2;obtain ⟨n1,n4⟩:=HN.out;exact bodyPost_ret (v:=.agg #[.int .i64 4,.func (.func 258) #[] #[],.func (.func 259) #[] #[.pointer (some ⟨w.heap.size,0,none⟩)]]) (by simp [results,Tryz.results213,go_sem, *]) rfl ⟨w.heap.size,rfl,zx (zx (zx Q.out n1) n1) n1,zg (zg (zg HB.out n4 0 _) n4 1 _) n4 2 _⟩

theorem zgz (K N:Int) (S:ByteArray) (za:Option Addr) (zn zc:Nat) (w:World) (hS:S.size≤16777216) :
  Calls Tryz.prog 258 #[.agg #[.int .i64 K,.int .i64 N,.string S,.slice za zn zc]] w fun e w'=>e=.returned (.bool (decide ((S.size:Int)≤10)))∧Below w.heap.size w w':=by
 generalize hw1:w.alloc (Obj.cells #[.int .i64 K,.int .i64 N,.string S,.slice za zn zc] 35)=w1;have b1:=zb hw1;have kv:=zk hw1;obtain ⟨⟨p0,p1,p2,p3⟩,-⟩:=zah kv;have HB:=hide b1;have hS2:(S.size:Int)≤16777216:=by omega
 clear b1 kv hS;go_enter Tryz.func258,Tryz.ntmps258;go_wp2;go_ret;exact ⟨rfl,HB.out⟩

theorem zfG (tb X:Nat) (s:ByteArray) (K N:Int) (S:ByteArray) (za:Option Addr) (zn zc:Nat) (w:World) (kw:Cap w tb X) (hc:w.cell? ⟨X,2,none⟩=some (.string s)) (hf:w.frozen? ⟨X,2,none⟩=false) (hne:tb≠X) :
  Calls Tryz.prog 259 #[.agg #[.int .i64 K,.int .i64 N,.string S,.slice za zn zc],.pointer (some ⟨tb,0,none⟩)] w fun e w'=>∃(x:CL) (wm:World),e=.returned x.fn∧Exch w w' X 2 (.string s) (.string S) x wm:=by
 have hbl:X < w.heap.size:=zu hc;have HBL:=hide hbl;have HC:=hide hc;have HF:=hide hf;have HNE:=hide hne;clear hbl hc hf hne;generalize hw1:w.alloc (Obj.cells #[.int .i64 K,.int .i64 N,.string S,.slice za zn zc] 35)=w1;have b1:=zb hw1;have k1:=zk hw1;have kw:Cap w1 tb X:=kw.below b1;go_enter Tryz.func259,Tryz.ntmps259;go_upto_region 1 with fail
 try rw [hw1]
 clear hw1;have vv:Below w1.heap.size w1 w1.drew:=zr (Below.refl _ _);refine wp_region_held_drew (S:=(fun W=>zcc W tb 0 (.pointer (some ⟨X,0,none⟩))∧zcc W w.heap.size 2 (.string S))) (by kernel_rfl) (⟨cell1 (kw.below vv),(zah (ze k1 vv)).1.2.2.1⟩) (fun hHeld => ?_);refine kK 0 ?_;refine kK 1 ?_;refine kK 2 ?_;refine kK 3 ?_;refine kK 4 ?_;refine kK 5 ?_;refine kK 6 ?_;refine kR 7 fun K hK => ?_
 go_simp;clear hHeld;have vw:=zd b1 vv;refine (zeU X 2 s S _ ((vw.cell (p:=⟨X,2,none⟩) HBL.out).trans HC.out) ((vw.frozen (p:=⟨X,2,none⟩) HBL.out).trans HF.out)).mono ?_;rintro e z2 ⟨x,wm,rfl,ex⟩;have hs:z2.cell? ⟨tb,0,none⟩=some (.pointer (some ⟨X,0,none⟩))∧z2.cell? ⟨w.heap.size,2,none⟩=some (.string S):=by
  have q:=zd vv ex.below;rw [ex.set];exact ⟨cell1 (zx (kw.below q) HNE.out),(zah (zx (ze k1 q) (fun e=>absurd e.symm (Nat.ne_of_lt HBL.out)))).1.2.2.1⟩
 have HX:=hide (ex.later vw);have HS2:=hide hs;clear ex hs;go_wp2_with fail
 refine kO hK (HS2.out) fun hHeld => ?_
 clear hK K;refine kK 8 ?_;refine wpAnyH_done (by kernel_rfl) ?_ _;have HQ:=hide (And.intro HX.out True.intro);clear hHeld vv kw k1 vw;go_wp2;go_ret;exact ⟨x,wm,rfl,HQ.out.1⟩

theorem zgo (ao:Option Addr) (n cap:Nat) (l:List PT) (w:World) (h:GRow ptF w ao n cap l) (hn:n≤16777216) :
  Calls Tryz.prog 116 #[.slice ao n cap] w fun r w'=>∃ao' cap',r=.returned (.slice ao' n cap')∧w'.ownsRow w.heap.size 113 8 (.slice ao' n cap') n (ptF.all l)∧Below w.heap.size w w':=by
 cases ao with
 | none =>
  have hc0:=h.nil rfl;have hn0:n=0:=by have:=h.le; omega
  subst hc0 hn0;have hl:l=[]:=List.eq_nil_of_length_eq_zero h.size;subst hl;have heq:∀W,(binOp .eql 24 (.slice none 0 0) (.slice none 0 0)).run Tryz.prog W=.ok (.bool true) W:=fun _=>by kernel_rfl
  go_enter Tryz.func116,Tryz.ntmps116;go_wp2;go_ret;exact ⟨none,0,rfl,World.ownsRow_nil _ _ _ _,Below.refl _ _⟩
 | some a =>
  have heq:∀W,(binOp .eql 24 (.slice (some a) n cap) (.slice none 0 0)).run Tryz.prog W=.ok (.bool false) W:=fun _=>by kernel_rfl
  go_enter Tryz.func116,Tryz.ntmps116;go_wp2_with (at_builtin; refine zcg _ rfl _ _ rfl w.heap.size _ 0 [] rfl (zaL ptF w _ 113 w.heap.size (zv w _) (Nat.le_refl _)) (some a) n cap l rfl (h.below (zh _ _)) (by omega) (by simp) ?_)
  intro ao' cap' w' how hr hgr hb;have how:w'.ownsRow w.heap.size 113 8 (.slice ao' n cap') n (ptF.all l):=by simpa using how
  have HO:=hide how;have HB:=hide ((zh w _).trans hb);clear how hgr hb hr;go_wp2;go_ret;exact ⟨ao',cap',(by simp),HO.out,HB.out⟩

end Go.Proofs.YtcpdkcdfnpcemaaGreat
