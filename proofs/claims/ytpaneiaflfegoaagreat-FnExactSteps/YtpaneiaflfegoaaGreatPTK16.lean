/-
  Packed: VlanTab BrInner BrInner2 VlanCopy FdbTab BrCopyS BrTurnS.
-/
import Derived.Test.YtpaneiaflfegoaaGreatPTKW
import Derived.Test.YtpaneiaflfegoaaGreatPTFdbImplA
import Derived.Test.YtpaneiaflfegoaaGreatPTK01
import Derived.Test.YtpaneiaflfegoaaGreatPTK03
import Derived.Test.YtpaneiaflfegoaaGreatPTK04
import Derived.Test.YtpaneiaflfegoaaGreatPTK06
import Derived.Test.YtpaneiaflfegoaaGreatPTK07
import Derived.Test.YtpaneiaflfegoaaGreatPTK11
import Derived.Test.YtpaneiaflfegoaaGreatPTK15
import Derived.Test.YtpaneiaflfegoaaGreatPTVlanOk
import Derived.Test.YtpaneiaflfegoaaGreatPTVtabOkS
namespace Go.Proofs.YtpaneiaflfegoaaGreat
set_option maxRecDepth 100000
set_option maxHeartbeats 16000000
open Go.RowKit

theorem zle {l:List VR} {id:Int} (h:zbH l id=none):rowAt l id = -1:=by unfold rowAt; rw [h]
theorem zkg {l:List VR} {id:Int} {k:Nat} (h:zbH l id=some k):rowAt l id=k:=by unfold rowAt; rw [h]

theorem zb3 (a:Option Addr) (n c:Nat) (o:Option Addr) (p q:Nat) (v:VT) (ports:Int) (w:World) (h:VTab w a n c o p q v) (hR:∀r∈v.rows,r.Rng) :
  Calls Tryz.prog 150 #[.agg #[.slice a n c,.slice o p q],.int .i64 ports] w fun r w'=>r=.returned (.bool (zar v ports))∧Below w.heap.size w w':=by
 have hle:=h.rows.le;have htop:=h.rows.top;have hle2:=h.own.le;have htop2:=h.own.top;unfold maxLen at htop htop2;have hsz:=hide h.rows.size;have hsz2:=hide h.own.size;generalize hw1:w.alloc (Obj.cells #[Value.slice a n c,Value.slice o p q] 62)=w1;have hW:=zb hw1;obtain ⟨e0,e1⟩:=zai hw1 (Below.refl _ w1);have h:=h.below hW;generalize hV:zar v ports=V;have HV:=hide hV;clear hV;cases t1:(decide (1≤ports) && decide (ports≤6))
 ·have HN:=hide (zlW (v:=v) t1);have T1:=hide t1;clear t1;go_enter Tryz.func150,Tryz.ntmps150;go_wp2_with (refine (zaV ports 1 6 _).mono ?_; rintro r w2 ⟨rfl,e2⟩; obtain rfl:=e2.symm; rw [T1.out])
  go_ret;exact ⟨zK (by rw [← HV.out,HN.out]),hW⟩
 have T1:=hide t1;simp only [Bool.and_eq_true,decide_eq_true_eq] at t1;by_cases t2:(p:Int)=ports
 case neg =>
  have HN:=hide (zlo (v:=v) (ports:=ports) (by rw [hsz2.out]; exact t2));go_enter Tryz.func150,Tryz.ntmps150;go_wp2_with (refine (zaV ports 1 6 _).mono ?_; rintro r w2 ⟨rfl,e2⟩; obtain rfl:=e2.symm; rw [T1.out])
  go_ret;exact ⟨zK (by rw [← HV.out,HN.out]),hW⟩
 subst t2;by_cases t3:n≤6
 case neg =>
  have HN:=hide (zkA (v:=v) (ports:=p) (by rw [hsz.out]; exact t3));go_enter Tryz.func150,Tryz.ntmps150;go_wp2_with (refine (zaV (p:Int) 1 6 _).mono ?_; rintro r w2 ⟨rfl,e2⟩; obtain rfl:=e2.symm; rw [T1.out])
  go_ret;exact ⟨zK (by rw [← HV.out,HN.out]),hW⟩
 cases t4:vrises v.rows
 ·have HN:=hide (zkB (v:=v) (ports:=p) t4);have T4:=hide t4;clear t4;go_enter Tryz.func150,Tryz.ntmps150;go_wp2_with (refine (zaV (p:Int) 1 6 _).mono ?_; rintro r w2 ⟨rfl,e2⟩; obtain rfl:=e2.symm; rw [T1.out])
  refine (zb1 a n c o p q _).mono ?_;rintro r w2 ⟨rfl,hb2⟩;(go_wp2_with fail);refine (zct a n c v.rows _ (h.rows.below hb2)).mono ?_;rintro r w3 ⟨rfl,hb3⟩;rw [T4.out];have HB:=hide (zc hW (zc hb2 hb3));clear hb2 hb3;go_wp2;go_ret;exact ⟨zK (by rw [← HV.out,HN.out]),HB.out⟩
 have T4:=hide t4;clear t4;go_enter Tryz.func150,Tryz.ntmps150;go_wp2_with (refine (zaV (p:Int) 1 6 _).mono ?_; rintro r w2 ⟨rfl,e2⟩; obtain rfl:=e2.symm; rw [T1.out])
 refine (zb1 a n c o p q _).mono ?_;rintro r w2 ⟨rfl,hb2⟩;go_wp2_with fail
 refine (zct a n c v.rows _ (h.rows.below hb2)).mono ?_;rintro r w3 ⟨rfl,hb3⟩;rw [T4.out];have b13:=zc hb2 hb3;obtain ⟨x0,x1⟩:=zai hw1 b13;clear hb2 hb3 e0 e1;go_wp2
 go_loopw [34] (fun i wr=>∃k:Nat,k≤n∧i=.int .i64 k∧ziD (allOf p) v.rows k∧Below w1.heap.size w1 wr) (fun i _=>n - (intOf i).toNat)
 case atStart=>exact ⟨0,Nat.zero_le _,rfl,fun i x hi=>by omega,b13⟩
 case round =>
  obtain ⟨k,hk,rfl,hok,hb⟩:=hrel;by_cases hlt:k < n
  ·obtain ⟨x,b,off,hx,rfl,c0,c1,c2⟩:=zbC (h.rows.below hb) k hlt;have hxr:x.Rng:=hR x (List.mem_of_getElem? hx);cases t5:zbk (allOf p) x
   ·have HN:=hide (zlp (v:=v) (p:=p) hx t5);have T5:=hide t5;have HB:=hide hb;clear t5 hok hb hx x0 x1;(go_wp2_with fail);refine (zcM x p _ hxr (by omega) (by omega)).mono ?_;rintro r w5 ⟨rfl,hb5⟩;rw [T5.out];have HB1:=hide (zc hW (zc HB.out (zc (zl _ _) hb5)));clear hb5 c0 c1 c2;go_wp2;go_ret;exact ⟨zK (by rw [← HV.out,HN.out]),HB1.out⟩
   ·have HO:=hide (zhS hok hx t5);have T5:=hide t5;have HB:=hide hb;clear t5 hok hb hx x0 x1;(go_wp2_with fail);refine (zcM x p _ hxr (by omega) (by omega)).mono ?_;rintro r w5 ⟨rfl,hb5⟩;rw [T5.out];have HB1:=hide (zc HB.out (zc (zl _ _) hb5));clear hb5 c0 c1 c2;go_wp2
    go_roundw
    case rel=>exact ⟨k+1,by omega,by go_num,HO.out,HB1.out⟩
    case measure=>simp [intOf]; omega
  ·have HK:Hid (vokTo (allOf p) v.rows v.rows.length):=hide (zln (fun i x hi hx=>hok i x (by have:=hsz.out; omega) hx) T4.out);obtain ⟨y0,y1⟩:=zai hw1 hb;have HB:=hide hb;have hkn:k=n:=by omega
   clear hok hb x0 x1;subst hkn;go_wp2
   go_loopw [46] (fun i wr=>∃k:Nat,k≤p∧i=.int .i64 k∧ownTo v k∧Below w1.heap.size w1 wr) (fun i _=>p - (intOf i).toNat)
   case atStart=>exact ⟨0,Nat.zero_le _,rfl,fun i x hi=>by omega,HB.out⟩
   case round =>
    obtain ⟨j,hj,rfl,hto,hb⟩:=hrel;by_cases hlt:j < p
    ·obtain ⟨x,b,off,hx,rfl,c0⟩:=zjQ (h.own.below hb) j hlt;obtain ⟨z0,z1⟩:=zai hw1 hb;clear y0 y1;cases hr:zbH v.rows x with
     | none =>
      have HN:=hide (ziN (p:=p) (List.mem_of_getElem? hx) hr);have HA:=hide (zle hr);have HB3:=hide hb;clear hto hb hx hr;(go_wp2_with fail);refine (zdc a k c v.rows (some ⟨b,off,none⟩) p q x _ (h.rows.below HB3.out)).mono ?_;rintro r w5 ⟨rfl,hb5⟩;rw [HA.out];have HB1:=hide (zc hW (zc HB3.out hb5));clear hb5 c0 z0 z1;go_wp2;go_ret;exact ⟨zK (by rw [← HV.out,HN.out]),HB1.out⟩
     | some i =>
      have HO:=hide (zff hto hx (by rw [hr]; exact fun h=>by cases h));have HA:=hide (zkg hr);have HB3:=hide hb;have hneg:¬((i:Int) < 0):=by omega
      clear hto hb hx hr;(go_wp2_with fail);refine (zdc a k c v.rows (some ⟨b,off,none⟩) p q x _ (h.rows.below HB3.out)).mono ?_;rintro r w5 ⟨rfl,hb5⟩;rw [HA.out];have HB1:=hide (zc HB3.out hb5);clear hb5 c0 z0 z1;go_wp2
      go_roundw
      case rel=>exact ⟨j+1,by omega,by go_num,HO.out,HB1.out⟩
      case measure=>simp [intOf]; omega
    ·have HN:Hid (zar v p=true):=hide (ziO t1.1 t1.2 hsz2.out (by have:=hsz.out; omega) HK.out (zgI hto (by have:=hsz2.out; omega)));have HB3:=hide (zc hW hb);have hjn:j=p:=by omega
     clear hto hb y0 y1;subst hjn;go_wp2;go_ret;exact ⟨zK (by rw [← HV.out,HN.out]),HB3.out⟩

theorem zah {w:World} {g:Nat} {T:TypeId} {c0 c1 c2 c3 c4 c5 c6 c7 c8 c9 c10 c11:Value} (h:w.heap[g]?=some (.cells #[c0,c1,c2,c3,c4,c5,c6,c7,c8,c9,c10,c11] T)) :
  w.cell? ⟨g,0,none⟩=some c0∧w.cell? ⟨g,1,none⟩=some c1∧w.cell? ⟨g,2,none⟩=some c2∧w.cell? ⟨g,3,none⟩=some c3∧w.cell? ⟨g,4,none⟩=some c4∧w.cell? ⟨g,5,none⟩=some c5∧w.cell? ⟨g,6,none⟩=some c6∧w.cell? ⟨g,7,none⟩=some c7∧w.cell? ⟨g,8,none⟩=some c8∧w.cell? ⟨g,9,none⟩=some c9∧w.cell? ⟨g,10,none⟩=some c10∧w.cell? ⟨g,11,none⟩=some c11:=by
 simp [World.cell?,h]

structure IbSt (w wr:World) (R X:Nat) (zs cs:Array Value) (TR TX:TypeId):Prop where
 box:wr.heap[X]?=some (.cells cs TX)
 res:wr.heap[R]?=some (.cells zs TR)
 below:Below w.heap.size w wr
 hX:w.heap.size≤X
 hR:w.heap.size≤R
 ne:R≠X

theorem IbSt.later {w wr wx:World} {R X:Nat} {zs cs:Array Value} {TR TX:TypeId} (h:IbSt w wr R X zs cs TR TX) (hb:Below wr.heap.size wr wx):IbSt w wx R X zs cs TR TX :=
 ⟨za h.box hb,za h.res hb,zc h.below hb,h.hX,h.hR,h.ne⟩

theorem IbSt.put {w wr:World} {R X:Nat} {zs cs:Array Value} {TR TX:TypeId} (h:IbSt w wr R X zs cs TR TX) (j:Nat) (u:Value) {cs':Array Value} (he:cs.setIfInBounds j u=cs'):IbSt w (wr.setCell ⟨X,j,none⟩ u) R X zs cs' TR TX :=
 ⟨by rw [← he]; exact box11 h.box j u,z8 h.res h.ne,zn h.below h.hX j u,h.hX,h.hR,h.ne⟩

theorem IbSt.grown {w wr wx:World} {R X:Nat} {zs cs:Array Value} {TR TX:TypeId} (h:IbSt w wr R X zs cs TR TX) {base k:Nat} {e:TypeId} {v:Value} {n:Nat} {ys:List Value} (ho:wr.ownsRow base e k v n ys) (h1:(e:Nat)≠TX) (h2:(e:Nat)≠TR) (hg:wr.grownBy wx v.ownBlock) (hb:Below w.heap.size wr wx):IbSt w wx R X zs cs TR TX :=
 ⟨ze h.box hg (fun i e=>zy ho h.box h1 i e),ze h.res hg (fun i e=>zy ho h.res h2 i e),h.below.trans hb,h.hX,h.hR,h.ne⟩

theorem IbSt.stay {w wr:World} {R X:Nat} {zs cs:Array Value} {TR TX:TypeId} (h:IbSt w wr R X zs cs TR TX) {base k:Nat} {e:TypeId} {v:Value} {n:Nat} {ys:List Value} (ho:wr.ownsRow base e k v n ys) (hne:(e:Nat)≠TX) (j:Nat) (u:Value):(wr.setCell ⟨X,j,none⟩ u).ownsRow base e k v n ys :=
 zw ho (zg (rb:=X) j u) (zy ho h.box hne)

theorem BrOwn.other {w:World} {base:Nat} {a:Option Addr} {n c:Nat} {fa:Option Addr} {fn fc:Nat} {ra:Option Addr} {rn rc:Nat} {oa:Option Addr} {on oc:Nat} {B:BR} (h:BrOwn w base a n c fa fn fc ra rn rc oa on oc B) {X:Nat} {cs:Array Value} {T:TypeId} (hX:w.heap[X]?=some (.cells cs T)) (h1:(103:Nat)≠T) (h2:(149:Nat)≠T) (h3:(184:Nat)≠T) (h4:(3:Nat)≠T) (j:Nat) (u:Value):BrOwn (w.setCell ⟨X,j,none⟩ u) base a n c fa fn fc ra rn rc oa on oc B :=
 ⟨zw h.ports (zg (rb:=X) j u) (zy h.ports hX h1),zw h.f (zg (rb:=X) j u) (zy h.f hX h2),
  ⟨zw h.v.rows (zg (rb:=X) j u) (zy h.v.rows hX h3),zw h.v.own (zg (rb:=X) j u) (zy h.v.own hX h4),h.v.i64⟩⟩

theorem zei (n:Int) (w:World) (h:n≤1000000) (h0:0≤n) :
  Calls Tryz.prog 160 #[.int .i64 n] w fun e w'=>e=.returned (.int .i64 (zab n))∧w'=w:=by
 by_cases h1:n≥1000000
 ·have e:n=1000000:=by omega
  subst e;rw [show zab 1000000=1000000 from rfl];go_enter Tryz.func160,Tryz.ntmps160;go_wp2;go_ret;exact ⟨rfl,rfl⟩
 ·rw [show zab n=n+1 from if_neg h1];have h1':min (n+1) (1000000:Int)=n+1:=by omega
  go_enter Tryz.func160,Tryz.ntmps160;go_wp2;go_ret;exact ⟨rfl,rfl⟩

theorem zch (a:Option Addr) (n c:Nat) (port:Int) (w:World) (hn:n≤137438953472) :
  Calls Tryz.prog 153 #[.slice a n c,.int .i64 port] w fun e w'=>e=.returned (.bool (decide (0≤port) && decide (port≤(n:Int) - 1)))∧w'=w:=by
 go_enter Tryz.func153,Tryz.ntmps153;go_wp2_with fail
 refine (zI port 0 ((n:Int) - 1) _).mono ?_;rintro r w3 ⟨rfl,ew⟩;obtain rfl:=ew.symm;go_wp2;go_ret;exact ⟨rfl,rfl⟩

theorem zhs (a:Option Addr) (n c:Nat) (port:Int) (w:World) (hn:n≤137438953472) (h:(decide (0≤port) && decide (port≤(n:Int) - 1))=false) :
  Calls Tryz.prog 182 #[.slice a n c,.int .i64 port] w fun e w'=>e=.returned (.bool false)∧w'=w:=by
 have HH:=hide h;clear h;go_enter Tryz.func182,Tryz.ntmps182;go_wp2_with fail
 refine (zch a n c port _ hn).mono ?_;rintro r w3 ⟨rfl,ew⟩;obtain rfl:=ew.symm;rw [HH.out];go_wp2;go_ret;exact ⟨rfl,rfl⟩

theorem zgp (a:Option Addr) (n c:Nat) (k:Nat) (l:List PT) (x:PT) (w:World) (h:GRow ptF w a n c l) (hn:n≤137438953472) (hk:k < n) (hx:l[k]?=some x) :
  Calls Tryz.prog 182 #[.slice a n c,.int .i64 k] w fun e w'=>e=.returned (.bool x.up)∧w'=w:=by
 have HH:Hid ((decide (0≤(k:Int)) && decide ((k:Int)≤(n:Int) - 1))=true):=hide (by rw [decide_eq_true (by omega),decide_eq_true (by omega)]; rfl);obtain ⟨x',b,off,hx',rfl,c0,c1,c2,c3,c4,c5,c6,c7⟩:=pt_at h k hk;rw [hx] at hx';cases hx';have i1:(0:Int)≤(k:Int):=by omega
 have i2:(k:Int) < (n:Int):=by omega
 go_enter Tryz.func182,Tryz.ntmps182;go_wp2_with fail
 refine (zch _ n c (k:Int) _ hn).mono ?_;rintro r w3 ⟨rfl,ew⟩;obtain rfl:=ew.symm;rw [HH.out];go_wp2;go_ret;exact ⟨rfl,rfl⟩

theorem zav (a:Option Addr) (n c:Nat) (fa:Option Addr) (fn fc:Nat) (ra:Option Addr) (rn rc:Nat) (oa:Option Addr) (on oc:Nat) (B:BR) (w:World) :
  Calls Tryz.prog 65 #[.agg #[.slice a n c,.int .i64 B.id,.string B.name,.slice none 0 0,.slice fa fn fc,.slice ra rn rc,.slice oa on oc,.int .i64 B.ticks,.int .i64 B.parse,.int .i64 B.word,.int .i64 B.drops,.int .i64 B.vers]] w fun e w'=>e=.returned (.agg #[.int .i64 B.id,.string B.name,.slice a n c,.slice fa fn fc,.slice ra rn rc,.slice oa on oc,.int .i64 B.ticks,.int .i64 B.parse,.int .i64 B.word,.int .i64 B.drops,.int .i64 B.vers])∧Below w.heap.size w w':=by
 generalize hw1:w.alloc (Obj.cells #[.slice a n c,.int .i64 B.id,.string B.name,.slice none 0 0,.slice fa fn fc,.slice ra rn rc,.slice oa on oc,.int .i64 B.ticks,.int .i64 B.parse,.int .i64 B.word,.int .i64 B.drops,.int .i64 B.vers] 125)=w1;generalize hw2:w1.alloc (Obj.cells #[.int .i64 0,.string ⟨#[]⟩,.slice none 0 0,.slice none 0 0,.slice none 0 0,.slice none 0 0,.int .i64 0,.int .i64 0,.int .i64 0,.int .i64 0,.int .i64 0] 64)=w2;generalize hw3:w2.alloc (Obj.cells #[.int .i64 B.id,.string B.name,.slice none 0 0,.slice fa fn fc,.slice ra rn rc,.slice oa on oc,.int .i64 B.ticks,.int .i64 B.parse,.int .i64 B.word,.int .i64 B.drops,.int .i64 B.vers] 64)=w3;have b01:=zb hw1;have b12:=zb hw2;have b23:=zb hw3;have z1:w.heap.size < w1.heap.size:=by rw [← hw1]; simp
 have z2:w1.heap.size < w2.heap.size:=by rw [← hw2]; simp
 have k1:=zk hw1;have kA:=za (za k1 b12) b23;obtain ⟨x0,x1,x2,x3,x4,x5,x6,x7,x8,x9,x10,x11⟩:=zah (za k1 b12);have st:BcSt w w3 w1.heap.size w2.heap.size #[.int .i64 B.id,.string B.name,.slice none 0 0,.slice fa fn fc,.slice ra rn rc,.slice oa on oc,.int .i64 B.ticks,.int .i64 B.parse,.int .i64 B.word,.int .i64 B.drops,.int .i64 B.vers]:=⟨by rw [← hw3]; exact zr _ _,za (zk hw2) b23,zc (zc b01 b12) b23,by omega,Nat.le_of_lt z1,Nat.ne_of_lt z2⟩;have nAX:¬w.heap.size=w2.heap.size:=by omega
 have nXA:¬w2.heap.size=w.heap.size:=by omega
 have nRX:¬w1.heap.size=w2.heap.size:=by omega
 have nXR:¬w2.heap.size=w1.heap.size:=by omega
 clear z1 z2 b01 b12 b23 k1;go_enter Tryz.func65,Tryz.ntmps65;go_upto_region 2 with fail
 clear x0 x1 x2 x3 x4 x5 x6 x7 x8 x9 x10 x11
 try rw [hw3]
 clear hw1 hw2 hw3;generalize hX:w2.heap.size=X at *;generalize hR:w1.heap.size=R at *;have st5:=st.put 2 (.slice a n c) (cs':=#[.int .i64 B.id,.string B.name,.slice a n c,.slice fa fn fc,.slice ra rn rc,.slice oa on oc,.int .i64 B.ticks,.int .i64 B.parse,.int .i64 B.word,.int .i64 B.drops,.int .i64 B.vers]) rfl;have HB:=hide (zag st5.below st5.hR (.int .i64 B.id) (.string B.name) (.slice a n c) (.slice fa fn fc) (.slice ra rn rc) (.slice oa on oc) (.int .i64 B.ticks) (.int .i64 B.parse) (.int .i64 B.word) (.int .i64 B.drops) (.int .i64 B.vers));obtain ⟨x0,x1,x2,x3,x4,x5,x6,x7,x8,x9,x10,x11⟩:=zah kA;obtain ⟨y0,y1,y2,y3,y4,y5,y6,y7,y8,y9,y10⟩:=zo st.box;obtain ⟨u0,u1,u2,u3,u4,u5,u6,u7,u8,u9,u10⟩:=zo st.res;have g2:=zf st.box 2;have fr:=zf st.res;have fr0:=fr 0;have fr1:=fr 1;have fr2:=fr 2;have fr3:=fr 3;have fr4:=fr 4;have fr5:=fr 5;have fr6:=fr 6;have fr7:=fr 7;have fr8:=fr 8;have fr9:=fr 9;have fr10:=fr 10;clear fr st st5 kA;go_wp2;exact bodyPost_ret (v:=.agg #[.int .i64 B.id,.string B.name,.slice a n c,.slice fa fn fc,.slice ra rn rc,.slice oa on oc,.int .i64 B.ticks,.int .i64 B.parse,.int .i64 B.word,.int .i64 B.drops,.int .i64 B.vers]) (by simp [results,Tryz.results65,go_sem, *]) rfl ⟨rfl,HB.out⟩

theorem zhr (base g n cap k:Nat) (l:List PT) (x:PT) (v:VD) (w:World) (h:w.ownsRow base 103 8 (.slice (some ⟨g,0,none⟩) n cap) n (ptF.all (l))) (hx:l[k]?=some x) (hk:k < n) :
  Calls Tryz.prog 183 #[.slice (some ⟨g,0,none⟩) n cap,.int .i64 k,.agg #[.int .i64 v.r,.int .i64 v.c,.int .i64 v.h,.int .i64 v.b,.int .i64 v.p]] w fun e w'=>e=.returned (.tuple #[])∧w'.ownsRow base 103 8 (.slice (some ⟨g,0,none⟩) n cap) n (ptF.all (l.set k ⟨x.up,x.k,true,v⟩))∧w.grownBy w' (some g):=by
 generalize hw1:w.alloc (Obj.cells #[.int .i64 v.r,.int .i64 v.c,.int .i64 v.h,.int .i64 v.b,.int .i64 v.p] 101)=w1;have b01:=zb hw1;have g01:w.grownBy w1 (some g):=by rw [← hw1]; exact World.grownBy_alloc _ _ _
 have k1:=zk hw1;have o1:=zi h b01;have hgl:g < w.heap.size:=(h.lt g rfl).2;have ne1:¬g=w.heap.size:=by omega
 have ne2:¬w.heap.size=g:=by omega
 obtain ⟨⟨x0,x1,x2,x3,x4⟩,-⟩:=zC k1;have i1:(0:Int)≤(k:Int):=by omega
 have i2:(k:Int) < (n:Int):=by omega
 obtain ⟨⟨t0,t1,t2,t3,t4,t5,t6,t7⟩,f0,f1,f2,f3,f4,f5,f6,f7⟩:=zcG o1 hx;have HA:=hide (zio v o1 hx);have HGA:=hide (zz g01 (zcH (w:=w1) (g:=g) (k:=k) v));clear o1 g01 b01 hx h;go_enter Tryz.func183,Tryz.ntmps183;have HS:=(zC (zc9 k1)).1;go_wp2_with fail
 refine wp_region_held_drew (S:=(fun W=>W.cell? ⟨w.heap.size,0,none⟩=some (.int .i64 v.r)∧W.cell? ⟨w.heap.size,1,none⟩=some (.int .i64 v.c)∧W.cell? ⟨w.heap.size,2,none⟩=some (.int .i64 v.h)∧W.cell? ⟨w.heap.size,3,none⟩=some (.int .i64 v.b)∧W.cell? ⟨w.heap.size,4,none⟩=some (.int .i64 v.p))) (by kernel_rfl) (HS) (fun hHeld => ?_);refine kK 0 ⟨some 6,.move (.tmp 0),123,"l11_bridge.go:91",#[],none⟩ ?_;refine kK 1 ⟨some 7,.move (.tmp 1),3,"l11_bridge.go:91",#[],none⟩ ?_;refine kK 2 ⟨some 8,.move (.tmp 0),123,"l11_bridge.go:91",#[{ on:=7,ground:=Ground.gcOnly Departure.lateStores }],none⟩ ?_;refine kK 3 ⟨some 9,.move (.tmp 1),3,"l11_bridge.go:91",#[{ on:=7,ground:=Ground.gcOnly Departure.lateStores }],none⟩ ?_;refine kK 4 ⟨some 10,.load 101 (.tmp 5),101,"l11_bridge.go:91",#[{ on:=7,ground:=Ground.gcOnly Departure.lateStores }],none⟩ ?_;refine kK 5 ⟨some 11,.indexAddr 123 (.tmp 6) (.tmp 7),0,"l11_bridge.go:91",#[⟨0,.data⟩,⟨1,.data⟩,⟨0,.phase⟩,⟨1,.phase⟩,{ on:=2,ground:=Ground.textOnly Departure.lateStores },{ on:=3,ground:=Ground.textOnly Departure.lateStores },{ on:=4,ground:=Ground.textOnly Departure.lateStores }],none⟩ ?_;refine kK 6 ⟨some 12,.fieldAddr 103 (.tmp 11) 2,0,"l11_bridge.go:91",#[⟨5,.data⟩,⟨0,.phase⟩,⟨1,.phase⟩,{ on:=2,ground:=Ground.textOnly Departure.lateStores },{ on:=3,ground:=Ground.textOnly Departure.lateStores },{ on:=4,ground:=Ground.textOnly Departure.lateStores }],none⟩ ?_;refine kR 7 ⟨none,.store 4 (.tmp 12) (.const (.bool true)),0,"l11_bridge.go:91",#[⟨6,.data⟩,⟨0,.phase⟩,⟨1,.phase⟩,{ on:=2,ground:=Ground.textOnly Departure.lateStores },{ on:=3,ground:=Ground.textOnly Departure.lateStores },{ on:=4,ground:=Ground.textOnly Departure.lateStores }],none⟩ (fun K hK => ?_);go_simp;have HS:=(zC (zc9 (z8 (b:=g) (j:=k*8+2) (u:=.bool true) k1 ne2))).1;refine hK.out _ _ (HS) (fun hHeld => ?_);clear hK K
 try simp only [Act.put,lA,lB,lC]
 refine kK 8 ⟨some 13,.indexAddr 123 (.tmp 8) (.tmp 9),0,"l11_bridge.go:91",#[⟨2,.data⟩,⟨3,.data⟩,⟨0,.phase⟩,⟨1,.phase⟩,⟨2,.phase⟩,⟨3,.phase⟩,⟨4,.phase⟩,⟨5,.phase⟩,⟨6,.phase⟩,⟨7,.phase⟩],none⟩ ?_;refine kK 9 ⟨some 14,.fieldAddr 103 (.tmp 13) 3,0,"l11_bridge.go:91",#[⟨8,.data⟩,⟨0,.phase⟩,⟨1,.phase⟩,⟨2,.phase⟩,⟨3,.phase⟩,⟨4,.phase⟩,⟨5,.phase⟩,⟨6,.phase⟩,⟨7,.phase⟩],none⟩ ?_;refine kR 10 ⟨none,.store 101 (.tmp 14) (.tmp 10),0,"l11_bridge.go:91",#[⟨9,.data⟩,⟨4,.data⟩,⟨7,.chain⟩,⟨0,.phase⟩,⟨1,.phase⟩,⟨2,.phase⟩,⟨3,.phase⟩,⟨4,.phase⟩,⟨5,.phase⟩,⟨6,.phase⟩,⟨7,.phase⟩],none⟩ (fun K hK => ?_);go_simp;have HS:=(zC (zc9 (z8 (b:=g) (j:=k*8+7) (u:=.int .i64 v.p) (z8 (b:=g) (j:=k*8+6) (u:=.int .i64 v.b) (z8 (b:=g) (j:=k*8+5) (u:=.int .i64 v.h) (z8 (b:=g) (j:=k*8+4) (u:=.int .i64 v.c) (z8 (b:=g) (j:=k*8+3) (u:=.int .i64 v.r) (z8 (b:=g) (j:=k*8+2) (u:=.bool true) k1 ne2) ne2) ne2) ne2) ne2) ne2))).1;refine hK.out _ _ (HS) (fun hHeld => ?_);clear hK K
 try simp only [Act.put,lA,lB,lC]
 refine wpAnyH_done (by kernel_rfl) ?_ _;clear HS hHeld k1;go_wp2
 go_end0
 exact ⟨rfl,zi HA.out (zp (Below.refl _ _)),ze6 HGA.out⟩

theorem zht (base g n cap k:Nat) (l:List PT) (x:PT) (up:Bool) (w:World) (h:w.ownsRow base 103 8 (.slice (some ⟨g,0,none⟩) n cap) n (ptF.all (l))) (hx:l[k]?=some x) (hk:k < n) :
  Calls Tryz.prog 184 #[.slice (some ⟨g,0,none⟩) n cap,.int .i64 k,.bool up] w fun e w'=>e=.returned (.tuple #[])∧w'.ownsRow base 103 8 (.slice (some ⟨g,0,none⟩) n cap) n (ptF.all (l.set k ⟨up,x.k,false,⟨0,0,0,0,0⟩⟩))∧w.grownBy w' (some g):=by
 have i1:(0:Int)≤(k:Int):=by omega
 have i2:(k:Int) < (n:Int):=by omega
 obtain ⟨⟨t0,t1,t2,t3,t4,t5,t6,t7⟩,f0,f1,f2,f3,f4,f5,f6,f7⟩:=zcG h hx;have HA:=hide (zir up h hx);have HG:=hide (zcE (w:=w) (g:=g) (k*8) (k*8+1) (k*8+2) (k*8+3) (k*8+4) (k*8+5) (k*8+6) (k*8+7) (.bool up) (.int .i64 x.k) (.bool false) (.int .i64 0) (.int .i64 0) (.int .i64 0) (.int .i64 0) (.int .i64 0));clear hx h;go_enter Tryz.func184,Tryz.ntmps184;go_wp2
 go_end0
 exact ⟨rfl,HA.out,HG.out⟩

theorem zeZ (ao:Option Addr) (n cap:Nat) (l:List PT) (w:World) (h:GRow ptF w ao n cap l) (hn:n≤16777216) :
  Calls Tryz.prog 112 #[.slice ao n cap] w fun r w'=>∃ao' cap',r=.returned (.slice ao' n cap')∧w'.ownsRow w.heap.size 103 8 (.slice ao' n cap') n (ptF.all l)∧Below w.heap.size w w':=by
 cases ao with
 | none =>
  have hc0:=h.nil rfl;have hn0:n=0:=by have:=h.le; omega
  subst hc0 hn0;have hl:l=[]:=List.eq_nil_of_length_eq_zero h.size;subst hl;have heq:∀W,(binOp .eql 57 (.slice none 0 0) (.slice none 0 0)).run Tryz.prog W=.ok (.bool true) W:=fun _=>by kernel_rfl
  go_enter Tryz.func112,Tryz.ntmps112;go_wp2;go_ret;exact ⟨none,0,rfl,World.ownsRow_nil _ _ _ _,Below.refl _ _⟩
 | some a =>
  have heq:∀W,(binOp .eql 57 (.slice (some a) n cap) (.slice none 0 0)).run Tryz.prog W=.ok (.bool false) W:=fun _=>by kernel_rfl
  go_enter Tryz.func112,Tryz.ntmps112;go_wp2_with (at_builtin; refine zgK _ rfl _ _ rfl w.heap.size _ 0 [] rfl (zaO ptF w _ 103 w.heap.size (zr w _) (Nat.le_refl _)) (some a) n cap l rfl (h.below (zl _ _)) (by omega) (by simp) ?_)
  intro ao' cap' w' how hr hgr hb;have how:w'.ownsRow w.heap.size 103 8 (.slice ao' n cap') n (ptF.all l):=by simpa using how
  have HO:=hide how;have HB:=hide ((zl w _).trans hb);clear how hgr hb hr;go_wp2;go_ret;exact ⟨ao',cap',(by simp),HO.out,HB.out⟩

theorem ziS (ao:Option Addr) (n cap:Nat) (l:List Int) (w:World) (h:GRow intF w ao n cap l) (hn:n≤16777216) :
  Calls Tryz.prog 147 #[.slice ao n cap] w fun r w'=>∃ao' cap',r=.returned (.slice ao' n cap')∧w'.ownsRow w.heap.size 3 1 (.slice ao' n cap') n (intF.all l)∧Below w.heap.size w w':=by
 cases ao with
 | none =>
  have hc0:=h.nil rfl;have hn0:n=0:=by have:=h.le; omega
  subst hc0 hn0;have hl:l=[]:=List.eq_nil_of_length_eq_zero h.size;subst hl;have heq:∀W,(binOp .eql 60 (.slice none 0 0) (.slice none 0 0)).run Tryz.prog W=.ok (.bool true) W:=fun _=>by kernel_rfl
  go_enter Tryz.func147,Tryz.ntmps147;go_wp2;go_ret;exact ⟨none,0,rfl,World.ownsRow_nil _ _ _ _,Below.refl _ _⟩
 | some a =>
  have heq:∀W,(binOp .eql 60 (.slice (some a) n cap) (.slice none 0 0)).run Tryz.prog W=.ok (.bool false) W:=fun _=>by kernel_rfl
  go_enter Tryz.func147,Tryz.ntmps147;go_wp2_with (at_builtin; refine zaa (F:=intF) _ rfl _ _ 60 3 rfl w.heap.size Tryz.underlying60 Tryz.infoI64 rfl (by decide) _ 0 [] rfl (zaO intF w _ 3 w.heap.size (zr w _) (Nat.le_refl _)) (some a) n cap l rfl (h.below (zl _ _)) (by omega) (by simp) ?_)
  intro ao' cap' w' how hr hgr hb;have how:w'.ownsRow w.heap.size 3 1 (.slice ao' n cap') n (intF.all l):=by
   (try simp only [Nat.zero_add,List.nil_append] at how);exact how
  have HO:=hide how;have HB:=hide ((zl w _).trans hb);clear how hgr hb hr;go_wp2;go_ret;exact ⟨ao',cap',(by simp),HO.out,HB.out⟩

theorem ziV (ao:Option Addr) (n cap:Nat) (l:List VR) (w:World) (h:GRow vrowF w ao n cap l) (hn:n≤16777216) :
  Calls Tryz.prog 146 #[.slice ao n cap] w fun r w'=>∃ao' cap',r=.returned (.slice ao' n cap')∧w'.ownsRow w.heap.size 184 3 (.slice ao' n cap') n (vrowF.all l)∧Below w.heap.size w w':=by
 cases ao with
 | none =>
  have hc0:=h.nil rfl;have hn0:n=0:=by have:=h.le; omega
  subst hc0 hn0;have hl:l=[]:=List.eq_nil_of_length_eq_zero h.size;subst hl;have heq:∀W,(binOp .eql 59 (.slice none 0 0) (.slice none 0 0)).run Tryz.prog W=.ok (.bool true) W:=fun _=>by kernel_rfl
  go_enter Tryz.func146,Tryz.ntmps146;go_wp2;go_ret;exact ⟨none,0,rfl,World.ownsRow_nil _ _ _ _,Below.refl _ _⟩
 | some a =>
  have heq:∀W,(binOp .eql 59 (.slice (some a) n cap) (.slice none 0 0)).run Tryz.prog W=.ok (.bool false) W:=fun _=>by kernel_rfl
  go_enter Tryz.func146,Tryz.ntmps146;go_wp2_with (at_builtin; refine zaa (F:=vrowF) _ rfl _ _ 59 184 rfl w.heap.size Tryz.underlying59 zdZ rfl (by decide) _ 0 [] rfl (zaO vrowF w _ 184 w.heap.size (zr w _) (Nat.le_refl _)) (some a) n cap l rfl (h.below (zl _ _)) (by omega) (by simp) ?_)
  intro ao' cap' w' how hr hgr hb;have how:w'.ownsRow w.heap.size 184 3 (.slice ao' n cap') n (vrowF.all l):=by
   (try simp only [Nat.zero_add,List.nil_append] at how);exact how
  have HO:=hide how;have HB:=hide ((zl w _).trans hb);clear how hgr hb hr;go_wp2;go_ret;exact ⟨ao',cap',(by simp),HO.out,HB.out⟩

theorem zcJ (a:Option Addr) (n c:Nat) (o:Option Addr) (p q:Nat) (v:VT) (w:World) (h:VTab w a n c o p q v) (hn:n≤16777216) (hp:p≤16777216) :
  Calls Tryz.prog 114 #[.agg #[.slice a n c,.slice o p q]] w fun r w'=>∃a' c' o' q',r=.returned (.agg #[.slice a' n c',.slice o' p q'])∧VOwn w' w.heap.size a' n c' o' p q' v∧Below w.heap.size w w':=by
 generalize hw1:w.alloc (Obj.cells #[Value.slice a n c,Value.slice o p q] 62)=w1;generalize hw2:w1.alloc (Obj.cells #[Value.slice none 0 0,Value.slice none 0 0] 62)=w2;have s1:w1.heap.size=w.heap.size+1:=by subst hw1; simp
 have s2:w2.heap.size=w.heap.size+1+1:=by subst hw2; simp [s1]
 have hk1:=zk hw2;have b01:=zb hw1;have vb:Below w1.heap.size w1 w2.drew:=by subst hw2; exact zp (zl _ _)
 have bw:Below w.heap.size w w2:=by subst hw2; exact zc b01 (zl _ _)
 have vv:Below w2.heap.size w2 w2.drew:=zp (Below.refl _ _);have HL:Hid (∀b,some w1.heap.size=some b→b < w2.heap.size):=hide (by intro b hb; cases hb; omega);clear s1 s2;go_enter Tryz.func114,Tryz.ntmps114;go_wp2_with fail
 refine wp_region_held_drew (S:=(fun W=>W.cell? ⟨w.heap.size,0,none⟩=some (.slice a n c)∧W.cell? ⟨w.heap.size,1,none⟩=some (.slice o p q))) (by kernel_rfl) (zai hw1 vb) (fun hHeld => ?_);refine kK 0 ⟨some 3,.fieldAddr 62 (.tmp 1) 0,0,"l09_vlan.go:115",#[],none⟩ ?_;refine kK 1 ⟨some 4,.load 59 (.tmp 3),59,"l09_vlan.go:115",#[⟨0,.data⟩],none⟩ ?_;refine kK 3 ⟨some 6,.fieldAddr 62 (.tmp 1) 1,0,"l09_vlan.go:115",#[],none⟩ ?_;refine kK 4 ⟨some 7,.load 60 (.tmp 6),60,"l09_vlan.go:115",#[⟨3,.data⟩],none⟩ ?_;refine kR 2 ⟨some 5,.call ⟨.value (.func 146),#[.tmp 4],#[59]⟩,59,"l09_vlan.go:115",#[⟨1,.data⟩],none⟩ (fun K hK => ?_);go_simp;refine (ziV a n c v.rows _ (h.rows.below (zc bw vv)) hn).mono ?_;rintro e wx ⟨aR,cR,rfl,how,hbx⟩;have hR:=zD how (base':=w2.heap.size) vv.size
 try have hI:=zi hI hbx
 have vv:=zc vv hbx;have vb:=zc vb hbx;clear how hbx;go_wp2_with fail
 refine hK.out _ _ (zai hw1 vb) (fun hHeld => ?_);clear hK K
 try simp only [Act.put,lA,lB,lC]
 refine kR 5 ⟨some 8,.call ⟨.value (.func 147),#[.tmp 7],#[60]⟩,60,"l09_vlan.go:115",#[⟨4,.data⟩,⟨2,.chain⟩],none⟩ (fun K hK => ?_);go_simp;refine (ziS o p q v.own _ ((h.own.below (zc bw vv)).flat) hp).mono ?_;rintro e wx ⟨aI,cI',rfl,how,hbx⟩;have hI:=zD how (base':=w2.heap.size) vv.size
 try have hR:=zi hR hbx
 have vv:=zc vv hbx;have vb:=zc vb hbx;clear how hbx;go_wp2_with fail
 refine hK.out _ _ (zai hw1 vb) (fun hHeld => ?_);clear hK K
 try simp only [Act.put,lA,lB,lC]
 refine kK 6 ⟨some 9,.build 62 #[(0,.tmp 5),(1,.tmp 8)],62,"l09_vlan.go:115",#[⟨2,.data⟩,⟨5,.data⟩],none⟩ ?_;refine kR 7 ⟨none,.store 62 (.tmp 2) (.tmp 9),0,"l09_vlan.go:115",#[⟨6,.data⟩,⟨5,.chain⟩,⟨0,.phase⟩,⟨1,.phase⟩,⟨2,.phase⟩,⟨3,.phase⟩,⟨4,.phase⟩,⟨5,.phase⟩,⟨6,.phase⟩],none⟩ (fun K hK => ?_);obtain ⟨⟨g0,g1⟩,f0,f1⟩:=zau (za hk1 vv);go_simp;have hR:=zA (zA hR (zg (rb:=w1.heap.size) 0 (.slice aR n cR)) HL.out) (zg (rb:=w1.heap.size) 1 (.slice aI p cI')) HL.out;have hI:=zA (zA hI (zg (rb:=w1.heap.size) 0 (.slice aR n cR)) HL.out) (zg (rb:=w1.heap.size) 1 (.slice aI p cI')) HL.out;have vb:=zn (zn vb (Nat.le_refl _) 0 (.slice aR n cR)) (Nat.le_refl _) 1 (.slice aI p cI');refine hK.out _ _ (zai hw1 vb) (fun hHeld => ?_);clear hK K
 try simp only [Act.put,lA,lB,lC]
 refine wpAnyH_done (by kernel_rfl) ?_ _;have HR:=hide hR;have HI:=hide hI;clear hR hI;go_wp2;refine bodyPost_ret (v:=.agg #[.slice aR n cR,.slice aI p cI']) (by simp [results,Tryz.results114,go_sem, *]) rfl ⟨_,_,_,_,rfl,⟨zD HR.out bw.size,zD (by rw [← zdd]; exact HI.out) bw.size,h.own.byte⟩,zc b01 vb⟩

section
open Go.RowKit Go.Maps

def fkF:Flat FK where
 k:=3
 cs:=fun k=>[.int .i64 k.1,.int .i64 k.2.1,.int .i64 k.2.2]
 len:=fun _=>rfl
 pos:=by decide
 one:=fun _ v hv=>by
  simp only [List.mem_cons,List.not_mem_nil,or_false] at hv;rcases hv with rfl | rfl | rfl <;> rfl

theorem wf_of {n:Int} (h : -9223372036854775808≤n∧n≤9223372036854775807):(Lit.int .i64 n).wf=true:=by
 simp [Lit.wf,IntKind.min,IntKind.max,IntKind.bits,IntKind.signed]
 omega

theorem zlE:laidOutB Tryz.prog=true:=by kernel_rfl
theorem zl6:(233:TypeId) < Tryz.prog.types.size:=of_decide_eq_true (by kernel_rfl)
theorem zlF:(match Tryz.prog.underlying 233 with | some (.array _ _) | some (.struct _)=>true | _=>false)=true:=by kernel_rfl
theorem zlu:Keyed Tryz.prog 233:=Keyed.of_law (deep_law_laid zlE (m:=2) (by omega) zl6 (by kernel_rfl) zlF)

def fkV (k:FK):Value:=.agg #[.int .i64 k.1,.int .i64 k.2.1,.int .i64 k.2.2]
def feV (e:FE):Value:=.agg #[.int .i64 e.t,.int .i64 e.m,.int .i64 e.p,.int .i64 e.a,.bool e.s]

theorem zlt (k:FK) (h:FKok k):∃l,keyOf Tryz.prog 233 (fkV k)=some l:=by
 have w1:=wf_of h.1;have w2:=wf_of h.2.1;have w3:=wf_of h.2.2;have h1:Tryz.prog.keyType 233=true:=by kernel_rfl
 have hc3:Tryz.prog.cellsOf 233=3:=by kernel_rfl
 have hc1:Tryz.prog.cellsOf 3=1:=by kernel_rfl
 have h2:(fkV k).formed Tryz.prog 233=true:=by simp [fkV,Value.formed,Tryz.underlying233,hc3]
 obtain ⟨q,hq⟩:∃q,Tryz.prog.types.size=q+1:=⟨Tryz.prog.types.size - 1,by have:0 < Tryz.prog.types.size:=of_decide_eq_true (by kernel_rfl); omega⟩;have h3:Tryz.prog.keyLits (Tryz.prog.types.size+1) 233 (fkV k).cells.toList=some [.int .i64 k.1,.int .i64 k.2.1,.int .i64 k.2.2]:=by
  rw [hq]
  simp [Program.keyLits,fkV,Value.cells,Tryz.underlying233,Tryz.underlying3,hc3,hc1,w1,w2,w3]
 refine ⟨.string (keyBytes [.int .i64 k.1,.int .i64 k.2.1,.int .i64 k.2.2]), ?_⟩;unfold keyOf;rw [Tryz.underlying233];simp only [h1,h2,h3,Bool.and_self,if_true,Option.map_some]

theorem zjG (a b:FK) (h:fkV a=fkV b):a=b:=by
 obtain ⟨a1,a2,a3⟩:=a;obtain ⟨b1,b2,b3⟩:=b
 simp [fkV] at h
 obtain ⟨rfl,rfl,rfl⟩:=h
 rfl

def mE:MK Tryz.prog FK FE where
 T:=229
 K:=233
 E:=149
 law:=zlu
 und:=Tryz.underlying229
 kv:=fkV
 vv:=feV
 ok:=FKok
 key:=zlt
 inj:=zjG
 z:=⟨0,0,0,0,false⟩
 zero:=fun _=>by kernel_rfl

def mC:MK Tryz.prog FK Int where
 T:=239
 K:=233
 E:=3
 law:=zlu
 und:=Tryz.underlying239
 kv:=fkV
 vv:=fun n=>.int .i64 n
 ok:=FKok
 key:=zlt
 inj:=zjG
 z:=0
 zero:=fun _=>by kernel_rfl

structure TabN (N:Nat) (w:World) (base p bm:Nat) (ks:List FK) (g:FK→Option FE):Prop where
 box:∃ao cap,w.heap[p]?=some (.cells #[.slice ao ks.length cap,.map (some bm)] 231)∧w.ownsRow base 233 3 (.slice ao ks.length cap) ks.length (fkF.all ks)
 map:MapIs mE w bm N g
 lp:base≤p
 lb:base≤bm
 oks:∀k∈ks,FKok k
 few:ks.length≤16777216

abbrev Tab:=TabN 16777216

theorem fk_at {w:World} {ao:Option Addr} {len cap:Nat} {l:List FK} (h:GRow fkF w ao len cap l) (i:Nat) (hi:i < len):∃(x:FK) (b off:Nat),l[i]?=some x∧ao=some ⟨b,off,none⟩ ∧
  w.cell? ⟨b,off+i*3,none⟩=some (.int .i64 x.1)∧w.cell? ⟨b,off+i*3+1,none⟩=some (.int .i64 x.2.1)∧w.cell? ⟨b,off+i*3+2,none⟩=some (.int .i64 x.2.2):=by
 obtain ⟨x,b,off,hx,ha,hc⟩:=h.at i hi;exact ⟨x,b,off,hx,ha,hc 0 _ rfl,hc 1 _ rfl,hc 2 _ rfl⟩

theorem zl5:(Tryz.prog.info? 233).map (fun i=>(i.zero,i.size,i.bytes))=some (some (.agg #[.int .i64 0,.int .i64 0,.int .i64 0]),fkF.k,24):=by kernel_rfl

theorem zgk (e:FE) (w:World) :
  Calls Tryz.prog 196 #[.agg #[.int .i64 e.t,.int .i64 e.m,.int .i64 e.p,.int .i64 e.a,.bool e.s]] w fun r w'=>r=.returned (.agg #[.int .i64 e.t,.int .i64 e.m,.int .i64 0])∧Below w.heap.size w w':=by
 go_enter Tryz.func196,Tryz.ntmps196;go_wp2;exact bodyPost_ret (v:=.agg #[.int .i64 e.t,.int .i64 e.m,.int .i64 0]) (by simp [results,Tryz.results196,go_sem, *]) rfl ⟨rfl,zL _ _ _⟩

end

theorem zba (a:Option Addr) (n c:Nat) (fa:Option Addr) (fn fc:Nat) (ra:Option Addr) (rn rc:Nat) (oa:Option Addr) (on oc:Nat) (B:BR) (w:World) (h:BrRow w a n c fa fn fc ra rn rc oa on oc B) (hn:n≤16777216) (hfn:fn≤16777216) (hrn:rn≤16777216) (hon:on≤16777216) :
  Calls Tryz.prog 47 #[.agg #[.int .i64 B.id,.string B.name,.slice a n c,.slice fa fn fc,.slice ra rn rc,.slice oa on oc,.int .i64 B.ticks,.int .i64 B.parse,.int .i64 B.word,.int .i64 B.drops,.int .i64 B.vers]] w fun e w'=>∃(a2:Option Addr) (c2:Nat) (fa2:Option Addr) (fc2:Nat) (ra2:Option Addr) (rc2:Nat) (oa2:Option Addr) (oc2:Nat),e=.returned (.agg #[.int .i64 B.id,.string B.name,.slice a2 n c2,.slice fa2 fn fc2,.slice ra2 rn rc2,.slice oa2 on oc2,.int .i64 B.ticks,.int .i64 B.parse,.int .i64 B.word,.int .i64 B.drops,.int .i64 B.vers])∧BrOwn w' w.heap.size a2 n c2 fa2 fn fc2 ra2 rn rc2 oa2 on oc2 B∧Below w.heap.size w w':=by
 generalize hw1:w.alloc (Obj.cells #[.int .i64 B.id,.string B.name,.slice a n c,.slice fa fn fc,.slice ra rn rc,.slice oa on oc,.int .i64 B.ticks,.int .i64 B.parse,.int .i64 B.word,.int .i64 B.drops,.int .i64 B.vers] 64)=w1;generalize hw2:w1.alloc (Obj.cells #[.int .i64 0,.string ⟨#[]⟩,.slice none 0 0,.slice none 0 0,.slice none 0 0,.slice none 0 0,.int .i64 0,.int .i64 0,.int .i64 0,.int .i64 0,.int .i64 0] 64)=w2;generalize hw3:w2.alloc (Obj.cells #[.int .i64 B.id,.string B.name,.slice a n c,.slice fa fn fc,.slice ra rn rc,.slice oa on oc,.int .i64 B.ticks,.int .i64 B.parse,.int .i64 B.word,.int .i64 B.drops,.int .i64 B.vers] 64)=w3;generalize hw4:w3.alloc (Obj.cells #[] 103)=w4;have b01:=zb hw1;have b12:=zb hw2;have b23:=zb hw3;have b34:=zb hw4;have z1:w.heap.size < w1.heap.size:=by rw [← hw1]; simp
 have z2:w1.heap.size < w2.heap.size:=by rw [← hw2]; simp
 have k1:=zk hw1;have kA2:=za k1 b12;have kA4:=za (za kA2 b23) b34;have st4:BcSt w w4 w1.heap.size w2.heap.size #[.int .i64 B.id,.string B.name,.slice a n c,.slice fa fn fc,.slice ra rn rc,.slice oa on oc,.int .i64 B.ticks,.int .i64 B.parse,.int .i64 B.word,.int .i64 B.drops,.int .i64 B.vers]:=BcSt.later ⟨by rw [← hw3]; exact zr _ _,za (zk hw2) b23,zc (zc b01 b12) b23,by omega,Nat.le_of_lt z1,Nat.ne_of_lt z2⟩ b34;have k4:=zk hw4;have b03:=zc (zc b01 b12) b23;have nil4:w4.ownsRow w.heap.size 103 8 (.slice (some ⟨w3.heap.size,0,none⟩) 0 0) 0 (ptF.all []):=zaO ptF w w4 103 w3.heap.size k4 b03.size;have HZ1:=hide z1;have HZ2:=hide z2;have nAX:¬w.heap.size=w2.heap.size:=by omega
 have nXA:¬w2.heap.size=w.heap.size:=by omega
 obtain ⟨x0,x1,x2,x3,x4,x5,x6,x7,x8,x9,x10⟩:=zo kA2;have SZ23:=hide b23.size;clear z1 z2 b01 b12 b23 b34 k1 b03;go_enter Tryz.func47,Tryz.ntmps47;go_upto_region 2 with fail
 clear x0 x1 x2 x3 x4 x5 x6 x7 x8 x9 x10 hw1 hw2 hw3;obtain ⟨x0,x1,x2,x3,x4,x5,x6,x7,x8,x9,x10⟩:=zo kA4;have HST:=hide st4;have HKA:=hide kA4;have HN4:=hide nil4;have hp4:=h.ports.below st4.below;have hs4:=st4.below.size;clear st4 kA4 kA2;go_wp2_with (at_builtin; refine zgK _ rfl _ _ rfl w.heap.size _ 0 [] rfl nil4 a n c B.ports rfl hp4 (by omega) hs4 ?_)
 intro a4 c4 w5 o5 hr5 hg5 hb5;have o5:w5.ownsRow w.heap.size 103 8 (.slice a4 n c4) n (ptF.all B.ports):=by simpa using o5
 have st5:=HST.out.grown HN4.out (by decide) hg5 hb5;have kA5:=ze HKA.out hg5 (fun i e=>by have h1:=(HN4.out.lt i e).1; have h2:i=w3.heap.size:=(Option.some.inj e).symm; have h3:=HZ2.out; have h4:=HZ1.out; have h5:w2.heap.size≤w3.heap.size:=SZ23.out; omega)
 try simp only [Nat.zero_add]
 clear x0 x1 x2 x3 x4 x5 x6 x7 x8 x9 x10 hr5 hg5 hb5 nil4 hp4 hs4 HST HKA HN4;generalize hX:w2.heap.size=X at *;generalize hR:w1.heap.size=R at *;have st6:=st5.put 2 (.slice a4 n c4) (cs':=#[.int .i64 B.id,.string B.name,.slice a4 n c4,.slice fa fn fc,.slice ra rn rc,.slice oa on oc,.int .i64 B.ticks,.int .i64 B.parse,.int .i64 B.word,.int .i64 B.drops,.int .i64 B.vers]) rfl;have o6:=st5.stay o5 (by decide) 2 (.slice a4 n c4);have kA6:=z8 (b:=X) (j:=2) (u:=.slice a4 n c4) kA5 nAX;obtain ⟨y0,y1,y2,y3,y4,y5,y6,y7,y8,y9,y10⟩:=zo st5.box;have f2:=zf st5.box 2;generalize hw6:w5.setCell ⟨X,2,none⟩ (.slice a4 n c4)=w6 at st6 o6 kA6;go_upto_region 3 with fail
 try rw [hw6]
 clear y0 y1 y2 y3 y4 y5 y6 y7 y8 y9 y10 f2 hw6 st5 o5 kA5;obtain ⟨x0,x1,x2,x3,x4,x5,x6,x7,x8,x9,x10⟩:=zo kA6;go_wp2_with fail
 refine (zfW fa fn fc B.f _ (h.f.below st6.below) hfn).mono ?_;rintro e w7 ⟨fa6,fc6,rfl,oF,-,hb7⟩;have st7:=st6.later hb7;have o7:=zi o6 hb7;have oF:=zD oF (base':=w.heap.size) st6.below.size;have kA7:=za kA6 hb7;clear x0 x1 x2 x3 x4 x5 x6 x7 x8 x9 x10 hb7 o6 st6 kA6;obtain ⟨y0,y1,y2,y3,y4,y5,y6,y7,y8,y9,y10⟩:=zo st7.box;have f3:=zf st7.box 3;have st8:=st7.put 3 (.slice fa6 fn fc6) (cs':=#[.int .i64 B.id,.string B.name,.slice a4 n c4,.slice fa6 fn fc6,.slice ra rn rc,.slice oa on oc,.int .i64 B.ticks,.int .i64 B.parse,.int .i64 B.word,.int .i64 B.drops,.int .i64 B.vers]) rfl;have o8:=st7.stay o7 (by decide) 3 (.slice fa6 fn fc6);have oF8:=st7.stay oF (by decide) 3 (.slice fa6 fn fc6);have kA8:=z8 (b:=X) (j:=3) (u:=.slice fa6 fn fc6) kA7 nAX;generalize hw8:w7.setCell ⟨X,3,none⟩ (.slice fa6 fn fc6)=w8 at st8 o8 oF8 kA8;go_upto_region 4 with fail
 try rw [hw8]
 clear y0 y1 y2 y3 y4 y5 y6 y7 y8 y9 y10 f3 hw8 st7 o7 oF kA7;obtain ⟨x0,x1,x2,x3,x4,x5,x6,x7,x8,x9,x10⟩:=zo kA8;go_wp2_with fail
 refine (zeR ra rn rc oa on oc B.v _ (h.v.below st8.below) hrn hon).mono ?_;rintro e w9 ⟨ra8,rc8,oa8,oc8,rfl,oV,hb9⟩;have st9:=st8.later hb9;have own9:BrOwn w9 w.heap.size a4 n c4 fa6 fn fc6 ra8 rn rc8 oa8 on oc8 B:=⟨zi o8 hb9,zi oF8 hb9,oV.lt (base':=w.heap.size) st8.below.size⟩;clear x0 x1 x2 x3 x4 x5 x6 x7 x8 x9 x10 hb9 o8 oF8 kA8 st8 oV;have st10:=(st9.put 4 (.slice ra8 rn rc8) rfl).put 5 (.slice oa8 on oc8) (cs':=#[.int .i64 B.id,.string B.name,.slice a4 n c4,.slice fa6 fn fc6,.slice ra8 rn rc8,.slice oa8 on oc8,.int .i64 B.ticks,.int .i64 B.parse,.int .i64 B.word,.int .i64 B.drops,.int .i64 B.vers]) rfl;have own10:=(own9.boxed st9.box 4 (.slice ra8 rn rc8)).boxed (st9.put 4 (.slice ra8 rn rc8) rfl).box 5 (.slice oa8 on oc8);obtain ⟨y0,y1,y2,y3,y4,y5,y6,y7,y8,y9,y10⟩:=zo st9.box;have f4:=zf st9.box 4;have f5:=zf st9.box 5;obtain ⟨u0,u1,u2,u3,u4,u5,u6,u7,u8,u9,u10⟩:=zo st9.res;have fr:=zf st9.res;have fr0:=fr 0;have fr1:=fr 1;have fr2:=fr 2;have fr3:=fr 3;have fr4:=fr 4;have fr5:=fr 5;have fr6:=fr 6;have fr7:=fr 7;have fr8:=fr 8;have fr9:=fr 9;have fr10:=fr 10;have ne1:¬X=R:=fun e=>st9.ne e.symm
 have ne2:¬R=X:=st9.ne;obtain ⟨HO0,HB0⟩:=st10.out own10 (.int .i64 B.id) (.string B.name) (.slice a4 n c4) (.slice fa6 fn fc6) (.slice ra8 rn rc8) (.slice oa8 on oc8) (.int .i64 B.ticks) (.int .i64 B.parse) (.int .i64 B.word) (.int .i64 B.drops) (.int .i64 B.vers);have HO:=hide HO0;have HB:=hide HB0;clear fr st9 st10 own9 own10 HO0 HB0;go_wp2;exact bodyPost_ret (v:=.agg #[.int .i64 B.id,.string B.name,.slice a4 n c4,.slice fa6 fn fc6,.slice ra8 rn rc8,.slice oa8 on oc8,.int .i64 B.ticks,.int .i64 B.parse,.int .i64 B.word,.int .i64 B.drops,.int .i64 B.vers]) (by simp [results,Tryz.results47,go_sem, *]) rfl ⟨a4,c4,fa6,fc6,ra8,rc8,oa8,oc8,rfl,HO.out,HB.out⟩

theorem zcn (a:Option Addr) (n c:Nat) (fa:Option Addr) (fn fc:Nat) (ra:Option Addr) (rn rc:Nat) (oa:Option Addr) (on oc:Nat) (B:BR) (port:Int) (w:World) (h:BrRow w a n c fa fn fc ra rn rc oa on oc B) :
  Calls Tryz.prog 107 #[.agg #[.int .i64 B.id,.string B.name,.slice a n c,.slice fa fn fc,.slice ra rn rc,.slice oa on oc,.int .i64 B.ticks,.int .i64 B.parse,.int .i64 B.word,.int .i64 B.drops,.int .i64 B.vers],.int .i64 port] w fun e w'=>e=.returned (.bool (zbr B port))∧Below w.heap.size w w':=by
 have hle:=h.ports.le;have htop:=h.ports.top;unfold maxLen at htop;have HTB:Hid (zbr B port=(zG B && (decide (0≤port) && decide (port≤(n:Int) - 1)))):=hide (by unfold zbr; rw [h.ports.size]);generalize hw1:w.alloc (Obj.cells #[.int .i64 B.id,.string B.name,.slice a n c,.slice fa fn fc,.slice ra rn rc,.slice oa on oc,.int .i64 B.ticks,.int .i64 B.parse,.int .i64 B.word,.int .i64 B.drops,.int .i64 B.vers] 64)=w1;have b01:=zb hw1;have k1:=zk hw1;obtain ⟨x0,x1,x2,x3,x4,x5,x6,x7,x8,x9,x10⟩:=zo k1;cases hok:zG B
 ·have HQ:Hid (zbr B port=false):=hide (by rw [HTB.out,hok]; rfl);have HOK:=hide hok;clear hok;go_enter Tryz.func107,Tryz.ntmps107;(go_wp2_with fail);refine (zbd a n c fa fn fc ra rn rc oa on oc B _ (h.below b01)).mono ?_;rintro e w2 ⟨rfl,hb2⟩;rw [HOK.out];have HB:=hide (zc b01 hb2);clear x0 x1 x2 x3 x4 x5 x6 x7 x8 x9 x10 hb2;go_wp2;go_ret;exact ⟨(by rw [HQ.out]; rfl),HB.out⟩
 ·have HOK:=hide hok;have HQ:Hid (zbr B port=(decide (0≤port) && decide (port≤(n:Int) - 1))):=hide (by rw [HTB.out,hok]; rfl);clear hok;go_enter Tryz.func107,Tryz.ntmps107;(go_wp2_with fail);refine (zbd a n c fa fn fc ra rn rc oa on oc B _ (h.below b01)).mono ?_;rintro e w2 ⟨rfl,hb2⟩;rw [HOK.out];have HB:=hide (zc b01 hb2);have k2:=za k1 hb2;clear x0 x1 x2 x3 x4 x5 x6 x7 x8 x9 x10 hb2;obtain ⟨x0,x1,x2,x3,x4,x5,x6,x7,x8,x9,x10⟩:=zo k2;(go_wp2_with fail);refine (zh port 0 ((n:Int) - 1) _).mono ?_;rintro r w3 ⟨rfl,ew⟩;obtain rfl:=ew.symm;go_wp2;go_ret;exact ⟨(by rw [HQ.out]; rfl),HB.out⟩

theorem zeB (n:Int) (w:World) (h:n≤9223372036854775806) (h0 : -9223372036854775808≤n) :
  Calls Tryz.prog 52 #[.int .i64 n] w fun e w'=>e=.returned (.int .i64 (zab n))∧w'=w:=by
 by_cases h1:n≥1000000
 ·rw [show zab n=n from if_pos h1];have h1':(1000000:Int)≤n:=h1;go_enter Tryz.func52,Tryz.ntmps52;go_wp2;go_ret;exact ⟨rfl,rfl⟩
 ·rw [show zab n=n+1 from if_neg h1];have h1':¬(1000000:Int)≤n:=h1;go_enter Tryz.func52,Tryz.ntmps52;go_wp2;go_ret;exact ⟨rfl,rfl⟩

theorem zhl (bits:Int) (l:List FE) (k:Nat):(zaA bits l k).length≤l.length:=(zcV bits l k).length_le

theorem zbX (base:Nat) (a:Option Addr) (n c:Nat) (fa:Option Addr) (fn fc:Nat) (ra:Option Addr) (rn rc:Nat) (oa:Option Addr) (on oc:Nat) (B:BR) (w:World) (h:BrOwn w base a n c fa fn fc ra rn rc oa on oc B) (hbase:base≤w.heap.size) (hn:n≤1048576) (hfn:fn≤16777216) (hv : -9223372036854775808≤B.vers∧B.vers≤9223372036854775806) :
  Calls Tryz.prog 54 #[.agg #[.int .i64 B.id,.string B.name,.slice a n c,.slice fa fn fc,.slice ra rn rc,.slice oa on oc,.int .i64 B.ticks,.int .i64 B.parse,.int .i64 B.word,.int .i64 B.drops,.int .i64 B.vers]] w fun e w'=>∃(fa2:Option Addr) (fn2 fc2:Nat),e=.returned (.agg #[.int .i64 B.id,.string B.name,.slice a n c,.slice fa2 fn2 fc2,.slice ra rn rc,.slice oa on oc,.int .i64 B.ticks,.int .i64 B.parse,.int .i64 B.word,.int .i64 B.drops,.int .i64 (zab B.vers)])∧BrOwn w' base a n c fa2 fn2 fc2 ra rn rc oa on oc (turned B)∧Below w.heap.size w w':=by
 have hpl:B.ports.length=n:=(zB (F:=ptF) h.ports).size;have hfl:B.f.length=fn:=(zB (F:=fentF) h.f).size;generalize hw1:w.alloc (Obj.cells #[.int .i64 B.id,.string B.name,.slice a n c,.slice fa fn fc,.slice ra rn rc,.slice oa on oc,.int .i64 B.ticks,.int .i64 B.parse,.int .i64 B.word,.int .i64 B.drops,.int .i64 B.vers] 64)=w1;generalize hw2:w1.alloc (Obj.cells #[.int .i64 0,.string ⟨#[]⟩,.slice none 0 0,.slice none 0 0,.slice none 0 0,.slice none 0 0,.int .i64 0,.int .i64 0,.int .i64 0,.int .i64 0,.int .i64 0] 64)=w2;have b01:=zb hw1;have b12:=zb hw2;have z1:w.heap.size < w1.heap.size:=by rw [← hw1]; simp
 have st2:BcSt w w2 w1.heap.size w.heap.size #[.int .i64 B.id,.string B.name,.slice a n c,.slice fa fn fc,.slice ra rn rc,.slice oa on oc,.int .i64 B.ticks,.int .i64 B.parse,.int .i64 B.word,.int .i64 B.drops,.int .i64 B.vers]:=⟨za (zk hw1) b12,by rw [← hw2]; exact zr _ _,zc b01 b12,Nat.le_refl _,Nat.le_of_lt z1,Nat.ne_of_gt z1⟩;have own2:=h.below (zc b01 b12);obtain ⟨x0,x1,x2,x3,x4,x5,x6,x7,x8,x9,x10⟩:=zo st2.box;have f10:=zf st2.box 10;obtain ⟨V,hV⟩:∃V,V=zab B.vers:=⟨_,rfl⟩;have HV:=hide hV;have HVR:=hide hv;clear hv;go_enter Tryz.func54,Tryz.ntmps54;go_wp2_with fail
 refine (zeB B.vers _ HVR.out.2 HVR.out.1).mono ?_;rintro e w3 ⟨rfl,e3⟩;obtain rfl:=e3.symm;rw [← hV];clear hV hw1 hw2;generalize hR:w1.heap.size=R at *;generalize hw4:w2.setCell ⟨w.heap.size,10,none⟩ (.int .i64 V)=w4;have st4:=st2.put 10 (.int .i64 V) (cs':=#[.int .i64 B.id,.string B.name,.slice a n c,.slice fa fn fc,.slice ra rn rc,.slice oa on oc,.int .i64 B.ticks,.int .i64 B.parse,.int .i64 B.word,.int .i64 B.drops,.int .i64 V]) rfl;have own4:=own2.boxed st2.box 10 (.int .i64 V);rw [hw4] at st4 own4;go_upto_region 2 with fail
 clear x0 x1 x2 x3 x4 x5 x6 x7 x8 x9 x10 f10 st2 own2 hw4;obtain ⟨x0,x1,x2,x3,x4,x5,x6,x7,x8,x9,x10⟩:=zo st4.box;go_wp2_with fail
 refine (zfZ B.id a n c B.ports _ (zB (F:=ptF) own4.ports)).mono ?_;rintro e w5 ⟨rfl,hb5⟩;have st5:=st4.later hb5;have own5:=own4.below hb5;generalize hbits:zbh B.id B.ports=bits;have HBI:=hide hbits;clear x0 x1 x2 x3 x4 x5 x6 x7 x8 x9 x10 st4 own4 hb5 hbits;have HFL:=hide hfl;clear hfl;go_wp2_with fail
 go_loopw [4] (fun i wr=>∃(k:Nat) (fa2:Option Addr) (fn2 fc2:Nat),k≤n∧i=.int .i64 k∧fn2≤fn∧BcSt w wr R w.heap.size #[.int .i64 B.id,.string B.name,.slice a n c,.slice fa2 fn2 fc2,.slice ra rn rc,.slice oa on oc,.int .i64 B.ticks,.int .i64 B.parse,.int .i64 B.word,.int .i64 B.drops,.int .i64 V]∧BrOwn wr base a n c fa2 fn2 fc2 ra rn rc oa on oc { B with f:=zaA bits B.f k }) (fun i _=>n - (intOf i).toNat)
 case atStart=>exact ⟨0,fa,fn,fc,Nat.zero_le _,rfl,Nat.le_refl _,st5,own5⟩
 case round =>
  obtain ⟨k,fa2,fn2,fc2,hk,rfl,hf2,st,own⟩:=hrel;clear st5 own5;obtain ⟨x0,x1,x2,x3,x4,x5,x6,x7,x8,x9,x10⟩:=zo st.box;by_cases hlt:k < n
  ·have i1:(0:Int)≤(k:Int):=by omega
   have i2:(k:Int) < (n:Int):=by omega
   (go_wp2_with fail);refine (zhV bits (k:Int) _).mono ?_;rintro e w6 ⟨rfl,e6⟩;obtain rfl:=e6.symm;cases hb:bitOf bits (k:Int)
   ·have HF:Hid (zaA bits B.f (k+1)=zY (zaA bits B.f k) (k:Int)):=hide (by rw [zaA,if_neg (by rw [hb]; decide)]);clear hb;(go_wp2_with fail);refine (zfX fa2 fn2 fc2 (zaA bits B.f k) (k:Int) _ (zB (F:=fentF) own.f) (by omega)).mono ?_;rintro e w7 ⟨fa7,fc7,rfl,o7,-,hb7⟩;have hlen:(zY (zaA bits B.f k) (k:Int)).length≤fn:=by
     have h1:(zY (zaA bits B.f k) (k:Int)).length≤(zaA bits B.f k).length:=List.length_filter_le _ _;have h2:=zhl bits B.f k;have h3:=HFL.out;omega
    have st7:=st.later hb7;have o7:=zD o7 (base':=base) (Nat.le_trans hbase st.below.size);have own7:=(own.below hb7).putF (Below.refl _ _) o7;clear x0 x1 x2 x3 x4 x5 x6 x7 x8 x9 x10 hb7 o7 st own;obtain ⟨x0,x1,x2,x3,x4,x5,x6,x7,x8,x9,x10⟩:=zo st7.box;have f3:=zf st7.box 3;rw [← HF.out] at own7 hlen ⊢;generalize hL:(zaA bits B.f (k+1)).length=L at *;have HST:=hide (st7.put 3 (.slice fa7 L fc7) (cs':=#[.int .i64 B.id,.string B.name,.slice a n c,.slice fa7 L fc7,.slice ra rn rc,.slice oa on oc,.int .i64 B.ticks,.int .i64 B.parse,.int .i64 B.word,.int .i64 B.drops,.int .i64 V]) rfl);have HOW:=hide (own7.boxed st7.box 3 (.slice fa7 L fc7));clear st7 own7;go_wp2
    go_roundw
    case rel=>exact ⟨k+1,fa7,L,fc7,by omega,by go_num,hlen,HST.out,HOW.out⟩
    case measure=>simp [intOf]; omega
   ·have HF:Hid (zaA bits B.f (k+1)=zaA bits B.f k):=hide (by rw [zaA,if_pos hb]);have HOW:Hid (BrOwn wr base a n c fa2 fn2 fc2 ra rn rc oa on oc { B with f:=zaA bits B.f (k+1) }):=hide (by rw [HF.out]; exact own);have HST:=hide st;clear hb st own x0 x1 x2 x3 x4 x5 x6 x7 x8 x9 x10;go_wp2
    go_roundw
    case rel=>exact ⟨k+1,fa2,fn2,fc2,by omega,by go_num,hf2,HST.out,HOW.out⟩
    case measure=>simp [intOf]; omega
  ·obtain rfl:n=k:=by omega
   obtain ⟨y0,y1,y2,y3,y4,y5,y6,y7,y8,y9,y10⟩:=zo st.res;have fr:=zf st.res;have f0:=fr 0;have f1:=fr 1;have f2:=fr 2;have f3:=fr 3;have f4:=fr 4;have f5:=fr 5;have f6:=fr 6;have f7:=fr 7;have f8:=fr 8;have f9:=fr 9;have f10:=fr 10;have ne1:¬R=w.heap.size:=st.ne;have ne2:¬w.heap.size=R:=fun e=>st.ne e.symm
   have HT:Hid (turned B={ B with vers:=V,f:=zaA bits B.f n }):=hide (by unfold turned; rw [HBI.out,hpl,HV.out]);obtain ⟨HO0,HB0⟩:=st.out own (.int .i64 B.id) (.string B.name) (.slice a n c) (.slice fa2 fn2 fc2) (.slice ra rn rc) (.slice oa on oc) (.int .i64 B.ticks) (.int .i64 B.parse) (.int .i64 B.word) (.int .i64 B.drops) (.int .i64 V);have HO:=hide HO0;have HB:=hide HB0;clear st own fr HO0 HB0;go_wp2;exact bodyPost_ret (v:=.agg #[.int .i64 B.id,.string B.name,.slice a n c,.slice fa2 fn2 fc2,.slice ra rn rc,.slice oa on oc,.int .i64 B.ticks,.int .i64 B.parse,.int .i64 B.word,.int .i64 B.drops,.int .i64 V]) (by simp [results,Tryz.results54,go_sem, *]) rfl ⟨fa2,fn2,fc2,(by rw [HV.out]),(by rw [HT.out]; exact ⟨HO.out.ports,HO.out.f,HO.out.v⟩),HB.out⟩

end Go.Proofs.YtpaneiaflfegoaaGreat
