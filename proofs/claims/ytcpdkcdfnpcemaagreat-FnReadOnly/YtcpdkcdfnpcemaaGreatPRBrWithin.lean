/-
  The program's bridge in memory of its own: how it is made of a bridge.
-/
import Derived.Test.YtcpdkcdfnpcemaaGreatPRK22
namespace Go.Proofs.YtcpdkcdfnpcemaaGreat
set_option maxRecDepth 100000
set_option maxHeartbeats 16000000
open Go.RowKit

theorem zhr {w:World} {base:Nat} {a:Option Addr} {n c:Nat} {fa:Option Addr} {fn fc:Nat} {ra:Option Addr} {rn rc:Nat} {oa:Option Addr} {on oc:Nat} {B:BR} (h:BrOwn w base a n c fa fn fc ra rn rc oa on oc B) {X:Nat} {cs:Array Value} {T:TypeId} (hX:w.heap[X]? = some (.cells cs T)) (h1:(113:Nat)≠T) (h2:(116:Nat)≠T) (h3:(119:Nat)≠T) (h4:(3:Nat)≠T) (u0 u1 u2 u3 u4 u5 u6 u7 u8 u9 u10 u11:Value):BrOwn ((((((((((((w.setCell ⟨X,0,none⟩ u0).setCell ⟨X,1,none⟩ u1).setCell ⟨X,2,none⟩ u2).setCell ⟨X,3,none⟩ u3).setCell ⟨X,4,none⟩ u4).setCell ⟨X,5,none⟩ u5).setCell ⟨X,6,none⟩ u6).setCell ⟨X,7,none⟩ u7).setCell ⟨X,8,none⟩ u8).setCell ⟨X,9,none⟩ u9).setCell ⟨X,10,none⟩ u10).setCell ⟨X,11,none⟩ u11) base a n c fa fn fc ra rn rc oa on oc B :=
 (BrOwn.other (BrOwn.other (BrOwn.other (BrOwn.other (BrOwn.other (BrOwn.other (BrOwn.other (BrOwn.other (BrOwn.other (BrOwn.other (BrOwn.other (BrOwn.other h hX h1 h2 h3 h4 0 u0) (box11 hX 0 u0) h1 h2 h3 h4 1 u1) (box11 (box11 hX 0 u0) 1 u1) h1 h2 h3 h4 2 u2) (box11 (box11 (box11 hX 0 u0) 1 u1) 2 u2) h1 h2 h3 h4 3 u3) (box11 (box11 (box11 (box11 hX 0 u0) 1 u1) 2 u2) 3 u3) h1 h2 h3 h4 4 u4) (box11 (box11 (box11 (box11 (box11 hX 0 u0) 1 u1) 2 u2) 3 u3) 4 u4) h1 h2 h3 h4 5 u5) (box11 (box11 (box11 (box11 (box11 (box11 hX 0 u0) 1 u1) 2 u2) 3 u3) 4 u4) 5 u5) h1 h2 h3 h4 6 u6) (box11 (box11 (box11 (box11 (box11 (box11 (box11 hX 0 u0) 1 u1) 2 u2) 3 u3) 4 u4) 5 u5) 6 u6) h1 h2 h3 h4 7 u7) (box11 (box11 (box11 (box11 (box11 (box11 (box11 (box11 hX 0 u0) 1 u1) 2 u2) 3 u3) 4 u4) 5 u5) 6 u6) 7 u7) h1 h2 h3 h4 8 u8) (box11 (box11 (box11 (box11 (box11 (box11 (box11 (box11 (box11 hX 0 u0) 1 u1) 2 u2) 3 u3) 4 u4) 5 u5) 6 u6) 7 u7) 8 u8) h1 h2 h3 h4 9 u9) (box11 (box11 (box11 (box11 (box11 (box11 (box11 (box11 (box11 (box11 hX 0 u0) 1 u1) 2 u2) 3 u3) 4 u4) 5 u5) 6 u6) 7 u7) 8 u8) 9 u9) h1 h2 h3 h4 10 u10) (box11 (box11 (box11 (box11 (box11 (box11 (box11 (box11 (box11 (box11 (box11 hX 0 u0) 1 u1) 2 u2) 3 u3) 4 u4) 5 u5) 6 u6) 7 u7) 8 u8) 9 u9) 10 u10) h1 h2 h3 h4 11 u11)

theorem zdp {K:Nat} {a w:World} (h:Below K a w) {g:Nat} (hB:K≤g) (u0 u1 u2 u3 u4 u5 u6 u7 u8 u9 u10 u11:Value):Below K a ((((((((((((w.setCell ⟨g,0,none⟩ u0).setCell ⟨g,1,none⟩ u1).setCell ⟨g,2,none⟩ u2).setCell ⟨g,3,none⟩ u3).setCell ⟨g,4,none⟩ u4).setCell ⟨g,5,none⟩ u5).setCell ⟨g,6,none⟩ u6).setCell ⟨g,7,none⟩ u7).setCell ⟨g,8,none⟩ u8).setCell ⟨g,9,none⟩ u9).setCell ⟨g,10,none⟩ u10).setCell ⟨g,11,none⟩ u11) :=
 (zg (zg (zg (zg (zg (zg (zg (zg (zg (zg (zg (zg h hB 0 u0) hB 1 u1) hB 2 u2) hB 3 u3) hB 4 u4) hB 5 u5) hB 6 u6) hB 7 u7) hB 8 u8) hB 9 u9) hB 10 u10) hB 11 u11)

theorem zc2 {W0 W:World} (hv:Below W0.heap.size W0 W):∃X,X=W.heap.size∧W0.heap.size≤X:=⟨_,rfl,hv.size⟩

theorem stay1 {w:World} {X:Nat} {cs:Array Value} {T:TypeId} {base k:Nat} {e:TypeId} {v:Value} {n:Nat} {ys:List Value} (ho:w.ownsRow base e k v n ys) (hX:w.heap[X]? = some (.cells cs T)) (hne:(e:Nat)≠T) (j:Nat) (u:Value):(w.setCell ⟨X,j,none⟩ u).ownsRow base e k v n ys :=
 zC ho (zl (rb:=X) j u) (zaf ho hX hne)

theorem zgx {W0 W:World} {X:Nat} {c0 c1 c2 c3 c4 c5 c6 c7 c8 c9 c10 c11:Value} {T:TypeId} {K:World→Prop} (hk:W.heap[X]? = some (.cells #[c0,c1,c2,c3,c4,c5,c6,c7,c8,c9,c10,c11] T)) (hv:Below W0.heap.size W0 W) (hX:W0.heap.size≤X) {base k:Nat} {e:TypeId} {v:Value} {n:Nat} {ys:List Value} (ho:W.ownsRow base e k v n ys) (hne:(e:Nat)≠T) (u0 u1 u2 u3 u4 u5 u6 u7 u8 u9 u10 u11:Value) (h:∀wq,wq.heap[X]? = some (.cells #[u0,u1,u2,u3,u4,u5,u6,u7,u8,u9,u10,u11] T)→wq.ownsRow base e k v n ys→Below W0.heap.size W0 wq→K wq):K ((((((((((((W.setCell ⟨X,0,none⟩ u0).setCell ⟨X,1,none⟩ u1).setCell ⟨X,2,none⟩ u2).setCell ⟨X,3,none⟩ u3).setCell ⟨X,4,none⟩ u4).setCell ⟨X,5,none⟩ u5).setCell ⟨X,6,none⟩ u6).setCell ⟨X,7,none⟩ u7).setCell ⟨X,8,none⟩ u8).setCell ⟨X,9,none⟩ u9).setCell ⟨X,10,none⟩ u10).setCell ⟨X,11,none⟩ u11):=by
 have hk':=(box11 (box11 (box11 (box11 (box11 (box11 (box11 (box11 (box11 (box11 (box11 (box11 hk 0 u0) 1 u1) 2 u2) 3 u3) 4 u4) 5 u5) 6 u6) 7 u7) 8 u8) 9 u9) 10 u10) 11 u11);simp only [lA,lB,lC] at hk';exact h _ hk' (stay1 (stay1 (stay1 (stay1 (stay1 (stay1 (stay1 (stay1 (stay1 (stay1 (stay1 (stay1 ho hk hne 0 u0) (box11 hk 0 u0) hne 1 u1) (box11 (box11 hk 0 u0) 1 u1) hne 2 u2) (box11 (box11 (box11 hk 0 u0) 1 u1) 2 u2) hne 3 u3) (box11 (box11 (box11 (box11 hk 0 u0) 1 u1) 2 u2) 3 u3) hne 4 u4) (box11 (box11 (box11 (box11 (box11 hk 0 u0) 1 u1) 2 u2) 3 u3) 4 u4) hne 5 u5) (box11 (box11 (box11 (box11 (box11 (box11 hk 0 u0) 1 u1) 2 u2) 3 u3) 4 u4) 5 u5) hne 6 u6) (box11 (box11 (box11 (box11 (box11 (box11 (box11 hk 0 u0) 1 u1) 2 u2) 3 u3) 4 u4) 5 u5) 6 u6) hne 7 u7) (box11 (box11 (box11 (box11 (box11 (box11 (box11 (box11 hk 0 u0) 1 u1) 2 u2) 3 u3) 4 u4) 5 u5) 6 u6) 7 u7) hne 8 u8) (box11 (box11 (box11 (box11 (box11 (box11 (box11 (box11 (box11 hk 0 u0) 1 u1) 2 u2) 3 u3) 4 u4) 5 u5) 6 u6) 7 u7) 8 u8) hne 9 u9) (box11 (box11 (box11 (box11 (box11 (box11 (box11 (box11 (box11 (box11 hk 0 u0) 1 u1) 2 u2) 3 u3) 4 u4) 5 u5) 6 u6) 7 u7) 8 u8) 9 u9) hne 10 u10) (box11 (box11 (box11 (box11 (box11 (box11 (box11 (box11 (box11 (box11 (box11 hk 0 u0) 1 u1) 2 u2) 3 u3) 4 u4) 5 u5) 6 u6) 7 u7) 8 u8) 9 u9) 10 u10) hne 11 u11) (zdp hv hX u0 u1 u2 u3 u4 u5 u6 u7 u8 u9 u10 u11)

theorem zd3 (a:Option Addr) (n c:Nat) (fa:Option Addr) (fn fc:Nat) (ra:Option Addr) (rn rc:Nat) (oa:Option Addr) (on oc:Nat) (B:BR) (w:World) (h:BrRow w a n c fa fn fc ra rn rc oa on oc B) (hn:n≤16777216) (hfn:fn≤16777216) (hrn:rn≤16777216) (hon:on≤16777216) :
  Calls Tryz.prog 49 #[.agg #[.int .i64 B.id,.string B.name,.slice a n c,.slice fa fn fc,.slice ra rn rc,.slice oa on oc,.int .i64 B.ticks,.int .i64 B.parse,.int .i64 B.word,.int .i64 B.drops,.int .i64 B.vers]] w fun e w'=>∃(a2:Option Addr) (c2:Nat) (fa2:Option Addr) (fc2:Nat) (ra2:Option Addr) (rc2:Nat) (oa2:Option Addr) (oc2:Nat),e=.returned (.agg #[.slice a2 n c2,.int .i64 B.id,.string B.name,.slice none 0 0,.slice fa2 fn fc2,.slice ra2 rn rc2,.slice oa2 on oc2,.int .i64 B.ticks,.int .i64 B.parse,.int .i64 B.word,.int .i64 B.drops,.int .i64 B.vers])∧BrOwn w' w.heap.size a2 n c2 fa2 fn fc2 ra2 rn rc2 oa2 on oc2 B∧Below w.heap.size w w':=by
 generalize hw1:w.alloc (Obj.cells #[.int .i64 B.id,.string B.name,.slice a n c,.slice fa fn fc,.slice ra rn rc,.slice oa on oc,.int .i64 B.ticks,.int .i64 B.parse,.int .i64 B.word,.int .i64 B.drops,.int .i64 B.vers] 31)=w1;generalize hw2:w1.alloc (Obj.cells #[.slice none 0 0,.int .i64 0,.string ⟨#[]⟩,.slice none 0 0,.slice none 0 0,.slice none 0 0,.slice none 0 0,.int .i64 0,.int .i64 0,.int .i64 0,.int .i64 0,.int .i64 0] 99)=w2;have b01:=zb hw1;have b12:=zb hw2;have z1:w.heap.size < w1.heap.size:=by rw [← hw1]; simp
 have z2:w1.heap.size < w2.heap.size:=by rw [← hw2]; simp
 have HZ1:=hide z1;have HZ2:=hide z2;have b02:=zd b01 b12;have kA:=ze (zk hw1) b12;have kJ:=zk hw2;have HS:Hid (∀W,Below w2.heap.size w2 W→(zcc W w.heap.size 0 (.int .i64 B.id)∧zcc W w.heap.size 1 (.string B.name)∧zcc W w.heap.size 2 (.slice a n c)∧zcc W w.heap.size 3 (.slice fa fn fc)∧zcc W w.heap.size 4 (.slice ra rn rc)∧zcc W w.heap.size 5 (.slice oa on oc)∧zcc W w.heap.size 6 (.int .i64 B.ticks)∧zcc W w.heap.size 7 (.int .i64 B.parse)∧zcc W w.heap.size 8 (.int .i64 B.word)∧zcc W w.heap.size 9 (.int .i64 B.drops)∧zcc W w.heap.size 10 (.int .i64 B.vers))):=hide (fun W hW=>zj (ze kA hW));have vv:Below w2.heap.size w2 w2.drew:=zr (Below.refl _ _);clear z1 z2 b01 b12;go_enter Tryz.func49,Tryz.ntmps49;go_wp2_with fail
 clear hw1 hw2;refine wp_region_held_drew (S:=(fun W=>(zcc W w.heap.size 0 (.int .i64 B.id)∧zcc W w.heap.size 1 (.string B.name)∧zcc W w.heap.size 2 (.slice a n c)∧zcc W w.heap.size 3 (.slice fa fn fc)∧zcc W w.heap.size 4 (.slice ra rn rc)∧zcc W w.heap.size 5 (.slice oa on oc)∧zcc W w.heap.size 6 (.int .i64 B.ticks)∧zcc W w.heap.size 7 (.int .i64 B.parse)∧zcc W w.heap.size 8 (.int .i64 B.word)∧zcc W w.heap.size 9 (.int .i64 B.drops)∧zcc W w.heap.size 10 (.int .i64 B.vers)))) (by kernel_rfl) (HS.out _ vv) (fun hHeld => ?_)
 repeat' first
 |
  with_reducible refine kLa ?_
  first
  |
   refine kLf 0 ?_;refine kK 0 ?_
  |
   refine kLf 1 ?_;refine kK 1 ?_
  |
   refine kLf 3 ?_;refine kK 3 ?_
  |
   refine kLf 4 ?_;refine kK 4 ?_
  |
   refine kLp [2,5] ?_
  |
   refine kLp [5] ?_
  |
   refine kLp [6] ?_
  |
   refine kLp [2] ?_
  |
   refine wpAnyH_done (by kernel_rfl) ?_ _;have b0q:=zd b02 vv;have st:IbSt w wq w1.heap.size X #[.slice none 0 0,.int .i64 0,.string ⟨#[]⟩,.slice none 0 0,.slice none 0 0,.slice none 0 0,.slice none 0 0,.int .i64 0,.int .i64 0,.int .i64 0,.int .i64 0,.int .i64 0] #[.slice a4 n c4,.int .i64 B.id,.string B.name,.slice a n c,.slice fa fn fc,.slice ra rn rc,.slice oa on oc,.int .i64 B.ticks,.int .i64 B.parse,.int .i64 B.word,.int .i64 B.drops,.int .i64 B.vers] 99 99:=⟨kX,ze kJ vv,b0q,Nat.le_trans b02.size HX.out,Nat.le_of_lt HZ1.out,by have:=HZ2.out; have:=HX.out; omega⟩;have o4:=zW o4 (base':=w.heap.size) b02.size;have kA:=ze kA vv;have nAX:¬w.heap.size=X:=by have:=HZ1.out; have:=HZ2.out; have:=HX.out; omega
   have nXA:¬X=w.heap.size:=fun e=>nAX e.symm
   generalize hR:w1.heap.size=R at *;clear HS vv kJ hHeld kX;obtain ⟨y0,y1,y2,y3,y4,y5,y6,y7,y8,y9,y10,y11⟩:=zcA st.box;have f3:=zm st.box 3;have f4:=zm st.box 4;have st3:=st.put 3 (.slice none 0 0) (cs':=#[.slice a4 n c4,.int .i64 B.id,.string B.name,.slice none 0 0,.slice fa fn fc,.slice ra rn rc,.slice oa on oc,.int .i64 B.ticks,.int .i64 B.parse,.int .i64 B.word,.int .i64 B.drops,.int .i64 B.vers]) rfl;have o4:=st.stay o4 (by decide) 3 (.slice none 0 0);have kA3:=zx (b:=X) (j:=3) (u:=.slice none 0 0) kA nAX;generalize hw3:wq.setCell ⟨X,3,none⟩ (.slice none 0 0)=wp at st3 o4 kA3;(go_upto_region 3 with fail);(try rw [hw3]);clear y0 y1 y2 y3 y4 y5 y6 y7 y8 y9 y10 y11 f3 f4 hw3 st kA;obtain ⟨x0,x1,x2,x3,x4,x5,x6,x7,x8,x9,x10⟩:=zj kA3;(go_wp2_with fail);refine (zg2 fa fn fc B.f _ (h.f.below st3.below) hfn).mono ?_;rintro e w6 ⟨fa6,fc6,rfl,oF,-,hb6⟩;have st6:=st3.later hb6;have o6:=zo o4 hb6;have oF:=zW oF (base':=w.heap.size) st3.below.size;have kA6:=ze kA3 hb6;clear x0 x1 x2 x3 x4 x5 x6 x7 x8 x9 x10 hb6 o4 st3 kA3;obtain ⟨y0,y1,y2,y3,y4,y5,y6,y7,y8,y9,y10,y11⟩:=zcA st6.box;have f4:=zm st6.box 4;have st7:=st6.put 4 (.slice fa6 fn fc6) (cs':=#[.slice a4 n c4,.int .i64 B.id,.string B.name,.slice none 0 0,.slice fa6 fn fc6,.slice ra rn rc,.slice oa on oc,.int .i64 B.ticks,.int .i64 B.parse,.int .i64 B.word,.int .i64 B.drops,.int .i64 B.vers]) rfl;have o7:=st6.stay o6 (by decide) 4 (.slice fa6 fn fc6);have oF7:=st6.stay oF (by decide) 4 (.slice fa6 fn fc6);have kA7:=zx (b:=X) (j:=4) (u:=.slice fa6 fn fc6) kA6 nAX;generalize hw7:w6.setCell ⟨X,4,none⟩ (.slice fa6 fn fc6)=w7 at st7 o7 oF7 kA7;(go_upto_region 4 with fail);(try rw [hw7]);clear y0 y1 y2 y3 y4 y5 y6 y7 y8 y9 y10 y11 f4 hw7 st6 kA6 o6 oF;obtain ⟨x0,x1,x2,x3,x4,x5,x6,x7,x8,x9,x10⟩:=zj kA7;(go_wp2_with fail);refine (zd2 ra rn rc oa on oc B.v _ (h.v.below st7.below) hrn hon).mono ?_;rintro e w8 ⟨ra8,rc8,oa8,oc8,rfl,oV,hb8⟩;have st8:=st7.later hb8;have own8:BrOwn w8 w.heap.size a4 n c4 fa6 fn fc6 ra8 rn rc8 oa8 on oc8 B:=⟨zo o7 hb8,zo oF7 hb8,oV.lt (base':=w.heap.size) st7.below.size⟩;clear x0 x1 x2 x3 x4 x5 x6 x7 x8 x9 x10 hb8 o7 oF7 kA7 st7 oV;have st9:=(st8.put 5 (.slice ra8 rn rc8) rfl).put 6 (.slice oa8 on oc8) (cs':=#[.slice a4 n c4,.int .i64 B.id,.string B.name,.slice none 0 0,.slice fa6 fn fc6,.slice ra8 rn rc8,.slice oa8 on oc8,.int .i64 B.ticks,.int .i64 B.parse,.int .i64 B.word,.int .i64 B.drops,.int .i64 B.vers]) rfl;have own9:=(own8.other st8.box (by decide) (by decide) (by decide) (by decide) 5 (.slice ra8 rn rc8)).other (st8.put 5 (.slice ra8 rn rc8) rfl).box (by decide) (by decide) (by decide) (by decide) 6 (.slice oa8 on oc8);obtain ⟨y0,y1,y2,y3,y4,y5,y6,y7,y8,y9,y10,y11⟩:=zcA st8.box;have f5:=zm st8.box 5;have f6:=zm st8.box 6;obtain ⟨u0,u1,u2,u3,u4,u5,u6,u7,u8,u9,u10,u11⟩:=zcA st8.res;have fr:=zm st8.res;have fr0:=fr 0;have fr1:=fr 1;have fr2:=fr 2;have fr3:=fr 3;have fr4:=fr 4;have fr5:=fr 5;have fr6:=fr 6;have fr7:=fr 7;have fr8:=fr 8;have fr9:=fr 9;have fr10:=fr 10;have fr11:=fr 11;have ne1:¬X=R:=fun e=>st8.ne e.symm
   have ne2:¬R=X:=st8.ne;have HO:=hide (zhr own9 st9.res (by decide) (by decide) (by decide) (by decide) (.slice a4 n c4) (.int .i64 B.id) (.string B.name) (.slice none 0 0) (.slice fa6 fn fc6) (.slice ra8 rn rc8) (.slice oa8 on oc8) (.int .i64 B.ticks) (.int .i64 B.parse) (.int .i64 B.word) (.int .i64 B.drops) (.int .i64 B.vers));have HB:=hide (zdp st9.below st9.hR (.slice a4 n c4) (.int .i64 B.id) (.string B.name) (.slice none 0 0) (.slice fa6 fn fc6) (.slice ra8 rn rc8) (.slice oa8 on oc8) (.int .i64 B.ticks) (.int .i64 B.parse) (.int .i64 B.word) (.int .i64 B.drops) (.int .i64 B.vers));clear fr st8 st9 own8 own9;go_wp2;exact bodyPost_ret (v:=.agg #[.slice a4 n c4,.int .i64 B.id,.string B.name,.slice none 0 0,.slice fa6 fn fc6,.slice ra8 rn rc8,.slice oa8 on oc8,.int .i64 B.ticks,.int .i64 B.parse,.int .i64 B.word,.int .i64 B.drops,.int .i64 B.vers]) (by simp [results,Tryz.results49,go_sem, *]) rfl ⟨a4,c4,fa6,fc6,ra8,rc8,oa8,oc8,rfl,HO.out,HB.out⟩
 |
  exact AllReadyH.nil
 |
  refine kLc 2 (fun K hK => ?_) ?_;go_simp;refine (zgo a n c B.ports _ ((h.ports.below b02).below vv) hn).mono ?_;rintro e wc ⟨a4,c4,rfl,o4,hbc⟩;have o4:=zW o4 (base':=w2.heap.size) vv.size;have vv:=zd vv hbc;(try have kX:=ze kX hbc);(go_wp2_with fail);refine kO hK (HS.out _ vv) fun hHeld => ?_
  clear hK K
 |
  refine kLc 5 (fun K hK => ?_) ?_;go_simp
  first
   | refine zac (K:=K _) (fun wx kX hbx => ?_)
   | refine zR (K:=K _) (fun wx kX hbx => ?_)
  obtain ⟨X,hXe,hXl⟩:=zc2 vv;have HX:=hide hXl;have kX:wx.heap[X]? = some (Obj.cells #[.slice none 0 0,.int .i64 0,.string ⟨#[]⟩,.slice none 0 0,.slice none 0 0,.slice none 0 0,.slice none 0 0,.int .i64 0,.int .i64 0,.int .i64 0,.int .i64 0,.int .i64 0] 99):=by rw [hXe]; exact kX
  first
   | rw [← hXe]
   | rw [← (show X=w2.heap.size from hXe)]
  clear hXe hXl;(try have o4:=zo o4 hbx);have vv:=zd vv hbx;refine kO hK (HS.out _ vv) fun hHeld => ?_
  clear hK K
 |
  refine kLc 6 (fun K hK => ?_) ?_;obtain ⟨y0,y1,y2,y3,y4,y5,y6,y7,y8,y9,y10,y11⟩:=zcA kX;have fr:=zm kX;have fr0:=fr 0;have fr1:=fr 1;have fr2:=fr 2;have fr3:=fr 3;have fr4:=fr 4;have fr5:=fr 5;have fr6:=fr 6;have fr7:=fr 7;have fr8:=fr 8;have fr9:=fr 9;have fr10:=fr 10;have fr11:=fr 11;go_simp;clear y0 y1 y2 y3 y4 y5 y6 y7 y8 y9 y10 y11 fr0 fr1 fr2 fr3 fr4 fr5 fr6 fr7 fr8 fr9 fr10 fr11 fr;refine zgx (K:=K _) kX vv HX.out o4 (by decide) _ _ _ _ _ _ _ _ _ _ _ _ (fun wq kX o4 vv => ?_);refine kO hK (HS.out _ vv) fun hHeld => ?_
  clear hK K

end Go.Proofs.YtcpdkcdfnpcemaaGreat
