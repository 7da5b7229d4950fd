/-
  Packed: PtRole BrList0 L3Int MibBox MadeSet OidSame OidLess MibFind Draw Drawb DrawVec DrawPt DrawStr FdbEnt.
-/
import Derived.Test.YtcpdkcdfnpcemaaGreatPRK04
namespace Go.Proofs.YtcpdkcdfnpcemaaGreat
set_option maxRecDepth 100000
set_option maxHeartbeats 16000000
open Go.RowKit

theorem zcy (id:Int) (a:Option Addr) (n c:Nat) (l:List PT) (port:Int) (w:World) (h:GRow ptF w a n c l) :
  Calls Tryz.prog 229 #[.int .i64 id,.slice a n c,.int .i64 port] w fun e w'=>e=.returned (.agg #[.int .i64 (sayV id l port).r,.int .i64 (sayV id l port).c,.int .i64 (sayV id l port).h,.int .i64 (sayV id l port).b,.int .i64 (sayV id l port).p])∧Below w.heap.size w w':=by
 generalize hw1:w.alloc (Obj.cells #[.int .i64 0,.int .i64 0,.int .i64 0,.int .i64 0,.int .i64 0] 111)=w1;have q1:=zb hw1;have k1:=zk hw1;have hsb:(sayV id l port)=⟨(bestV id (zK id l)).r,(bestV id (zK id l)).c,(bestV id (zK id l)).h,(bestV id (zK id l)).b,port⟩:=by
  unfold sayV;cases zK id l <;> rfl
 rw [hsb];clear hsb;go_enter Tryz.func229,Tryz.ntmps229;go_wp2_with fail
 refine (zbJ id a n c l _ (h.below q1)).mono ?_;rintro e w2 ⟨rfl,hb2⟩;generalize hv:bestV id (zK id l)=v;have HV:=hide hv;clear hv;generalize hw3:w2.alloc (Obj.cells #[.int .i64 v.r,.int .i64 v.c,.int .i64 v.h,.int .i64 v.b,.int .i64 v.p] 111)=w3;have hb3:=zb hw3;have k3:=zk hw3;have k1:=ze (ze k1 hb2) hb3;have lt1:=(Array.getElem?_eq_some_iff.1 (ze (by rw [← hw1]; exact zv _ _:w1.heap[w.heap.size]? = some (.cells #[.int .i64 0,.int .i64 0,.int .i64 0,.int .i64 0,.int .i64 0] 111)) hb2)).1;have ne1:¬w2.heap.size=w.heap.size:=by omega
 have ne2:¬w.heap.size=w2.heap.size:=by omega
 have HB:=hide (zZ (zg (zd (zd q1 hb2) hb3) (g:=w2.heap.size) (by omega) 4 (.int .i64 port)) (Nat.le_refl w.heap.size) (.int .i64 v.r) (.int .i64 v.c) (.int .i64 v.h) (.int .i64 v.b) (.int .i64 port));obtain ⟨⟨x0,x1,x2,x3,x4⟩,y0,y1,y2,y3,y4⟩:=zt k3;obtain ⟨⟨r0,r1,r2,r3,r4⟩,z0,z1,z2,z3,z4⟩:=zt k1;clear hb2 hb3 k1 k3 q1 lt1;go_wp2;exact bodyPost_ret (v:=.agg #[.int .i64 v.r,.int .i64 v.c,.int .i64 v.h,.int .i64 v.b,.int .i64 port]) (by simp [results,Tryz.results229,go_sem, *]) rfl ⟨(by rw [HV.out]),HB.out⟩

theorem zfo (id:Int) (a:Option Addr) (n c:Nat) (l:List PT) (port:Int) (w:World) (h:GRow ptF w a n c l) :
  Calls Tryz.prog 170 #[.int .i64 id,.slice a n c,.int .i64 port] w fun e w'=>e=.returned (.int .i64 (zaC id l port))∧Below w.heap.size w w':=by
 have hle:=h.le;have htop:=h.top;unfold maxLen at htop;have hsz:=hide h.size;cases hin:(decide (0≤port) && decide (port≤(n:Int) - 1))
 ·have HIN:=hide hin;have HR:Hid (zaC id l port=4):=hide (by unfold zaC; rw [hsz.out,hin]; rfl);clear hin;go_enter Tryz.func170,Tryz.ntmps170;(go_wp2_with fail);refine (zi port 0 ((n:Int) - 1) _).mono ?_;rintro e w1 ⟨rfl,ew⟩;obtain rfl:=ew.symm;rw [HIN.out];go_wp2;go_ret;exact ⟨(by rw [HR.out]; rfl),Below.refl _ _⟩
 obtain ⟨k,rfl⟩:∃k:Nat,port=(k:Int):=⟨port.toNat,by simp at hin; omega⟩;have hlt:k < n:=by simp at hin; omega
 have HIN:=hide hin;have i1:(0:Int)≤(k:Int):=by omega
 have i2:(k:Int) < (n:Int):=by omega
 obtain ⟨x,b,off,hx,rfl,c0,c1,c2,c3,c4,c5,c6,c7⟩:=pt_at h k hlt;have hro:zaC id l (k:Int)=zcS id l k x:=by
  unfold zaC;rw [hsz.out,hin]
  simp [hx]
 have HRO:=hide hro;clear hin hro;cases hu:x.up
 ·rw [hu] at c0;have HR:Hid (zaC id l (k:Int)=4):=hide (by rw [HRO.out]; unfold zcS; rw [if_pos hu]);clear hu c1 c2 c3 c4 c5 c6 c7 hx;go_enter Tryz.func170,Tryz.ntmps170;(go_wp2_with fail);refine (zi (k:Int) 0 ((n:Int) - 1) _).mono ?_;rintro e w1 ⟨rfl,ew⟩;obtain rfl:=ew.symm;rw [HIN.out];go_wp2;go_ret;exact ⟨(by rw [HR.out]; rfl),Below.refl _ _⟩
 rw [hu] at c0;have HU:=hide hu;clear hu;by_cases hp:bestP (zK id l)=(k:Int)
 ·have HR:Hid (zaC id l (k:Int)=1):=hide (by rw [HRO.out]; unfold zcS; rw [if_neg (by rw [HU.out]; decide),if_pos hp]);have HP:=hide hp;clear c1 c2 c3 c4 c5 c6 c7 hx hp;go_enter Tryz.func170,Tryz.ntmps170;(go_wp2_with fail);refine (zi (k:Int) 0 ((n:Int) - 1) _).mono ?_;rintro e w1 ⟨rfl,ew⟩;obtain rfl:=ew.symm;rw [HIN.out];(go_wp2_with fail);refine (zbJ id (some ⟨b,off,none⟩) n c l _ h).mono ?_;rintro e w2 ⟨rfl,hb2⟩;rw [HP.out];have HB:=hide (zd hb2 (zh _ (Obj.cells #[.int .i64 (bestV id (zK id l)).r,.int .i64 (bestV id (zK id l)).c,.int .i64 (bestV id (zK id l)).h,.int .i64 (bestV id (zK id l)).b,.int .i64 (bestV id (zK id l)).p] 111)));clear hb2 c0;go_wp2;go_ret;exact ⟨(by rw [HR.out]; rfl),HB.out⟩
 go_enter Tryz.func170,Tryz.ntmps170;go_wp2_with fail
 refine (zi (k:Int) 0 ((n:Int) - 1) _).mono ?_;rintro e w1 ⟨rfl,ew⟩;obtain rfl:=ew.symm;rw [HIN.out];go_wp2_with fail
 refine (zbJ id (some ⟨b,off,none⟩) n c l _ h).mono ?_;rintro e w2 ⟨rfl,hb2⟩;generalize hw3:w2.alloc (Obj.cells #[.int .i64 (bestV id (zK id l)).r,.int .i64 (bestV id (zK id l)).c,.int .i64 (bestV id (zK id l)).h,.int .i64 (bestV id (zK id l)).b,.int .i64 (bestV id (zK id l)).p] 111)=w3;have HB:Hid (Below w.heap.size w w3):=hide (zd hb2 (by rw [← hw3]; exact zh _ _));clear hb2 c0 c1 c2 c3 c4 c5 c6 c7;obtain ⟨x',b',off',hx',ha',c0,c1,c2,c3,c4,c5,c6,c7⟩:=pt_at (h.below HB.out) k hlt;rw [hx] at hx';cases hx';cases ha';generalize hP:bestP (zK id l)=P at *;have hPne:(P == (k:Int))=false:=by simp [hp]
 have HX:=hide hx;have vv:Below w3.heap.size w3 w3.drew:=zr (Below.refl _ _);have HR0:Hid (zaC id l (k:Int)=(if (!x.has || lessV (sayV id l (k:Int)) x.v)=true then 2 else 3)):=hide (by rw [HRO.out]; unfold zcS; rw [if_neg (by rw [HU.out]; decide),hP,if_neg hp]);clear c0 c1 hx hP;cases hh:x.has
 ·rw [hh] at c2;have HR:Hid (zaC id l (k:Int)=2):=hide (by rw [HR0.out,hh]; rfl);have HSS:Hid (∀W',Below w3.heap.size w3 W'→zcc W' b (off+k*8+2) (.bool false)∧zcc W' b (off+k*8+3) (.int .i64 x.v.r)∧zcc W' b (off+k*8+4) (.int .i64 x.v.c)∧zcc W' b (off+k*8+5) (.int .i64 x.v.h)∧zcc W' b (off+k*8+6) (.int .i64 x.v.b)∧zcc W' b (off+k*8+7) (.int .i64 x.v.p)):=hide (fun W' hb=>⟨(hb.cell (zu c2)).trans c2,(hb.cell (zu c3)).trans c3,(hb.cell (zu c4)).trans c4,(hb.cell (zu c5)).trans c5,(hb.cell (zu c6)).trans c6,(hb.cell (zu c7)).trans c7⟩);clear c2 c3 c4 c5 c6 c7 hh;(go_wp2_with fail);refine wp_region_held_drew (S:=(fun W=>zcc W b (off+k*8+2) (.bool false)∧zcc W b (off+k*8+3) (.int .i64 x.v.r)∧zcc W b (off+k*8+4) (.int .i64 x.v.c)∧zcc W b (off+k*8+5) (.int .i64 x.v.h)∧zcc W b (off+k*8+6) (.int .i64 x.v.b)∧zcc W b (off+k*8+7) (.int .i64 x.v.p))) (by kernel_rfl) (HSS.out _ vv) (fun hHeld => ?_);refine kK 0 ?_;refine kK 1 ?_;refine kK 2 ?_;refine kK 3 ?_;refine kK 4 ?_;refine kK 5 ?_;refine kK 6 ?_;refine kN 7 ?_;refine kN 8 ?_;refine kN 9 ?_;refine kN 10 ?_;refine kN 11 ?_;refine kN 12 ?_;refine kN 13 ?_;refine kN 14 ?_;refine kN 15 ?_;refine kN 16 ?_;refine kK 17 ?_;refine kK 18 ?_;refine wpAnyH_done (by kernel_rfl) ?_ _;clear hHeld;go_wp2;go_ret;exact ⟨(by rw [HR.out]; rfl),zd HB.out vv⟩
 ·rw [hh] at c2;have HSS:Hid (∀W',Below w3.heap.size w3 W'→zcc W' b (off+k*8+2) (.bool true)∧zcc W' b (off+k*8+3) (.int .i64 x.v.r)∧zcc W' b (off+k*8+4) (.int .i64 x.v.c)∧zcc W' b (off+k*8+5) (.int .i64 x.v.h)∧zcc W' b (off+k*8+6) (.int .i64 x.v.b)∧zcc W' b (off+k*8+7) (.int .i64 x.v.p)):=hide (fun W' hb=>⟨(hb.cell (zu c2)).trans c2,(hb.cell (zu c3)).trans c3,(hb.cell (zu c4)).trans c4,(hb.cell (zu c5)).trans c5,(hb.cell (zu c6)).trans c6,(hb.cell (zu c7)).trans c7⟩);clear c2 c3 c4 c5 c6 c7;cases hl:lessV (sayV id l (k:Int)) x.v
  ·have HR:Hid (zaC id l (k:Int)=3):=hide (by rw [HR0.out,hh,hl]; rfl);have HL:Hid (zaM (sayV id l (k:Int)).r (sayV id l (k:Int)).c (sayV id l (k:Int)).b (sayV id l (k:Int)).p x.v.r x.v.c x.v.b x.v.p=false):=hide hl;clear hh hl;(go_wp2_with fail);refine wp_region_held_drew (S:=(fun W=>zcc W b (off+k*8+2) (.bool true)∧zcc W b (off+k*8+3) (.int .i64 x.v.r)∧zcc W b (off+k*8+4) (.int .i64 x.v.c)∧zcc W b (off+k*8+5) (.int .i64 x.v.h)∧zcc W b (off+k*8+6) (.int .i64 x.v.b)∧zcc W b (off+k*8+7) (.int .i64 x.v.p))) (by kernel_rfl) (HSS.out _ vv) (fun hHeld => ?_);refine kK 0 ?_;refine kK 1 ?_;refine kK 2 ?_;refine kK 3 ?_;refine kK 4 ?_;refine kK 5 ?_;refine kK 6 ?_;refine kK 7 ?_;refine kK 8 ?_;refine kK 9 ?_;refine kK 11 ?_;refine kK 12 ?_;refine kK 13 ?_;refine kK 14 ?_;refine kK 15 ?_;refine kR 10 fun K hK => ?_
   go_simp;refine (zcy id (some ⟨b,off,none⟩) n c l (k:Int) _ (h.below (zd HB.out vv))).mono ?_;rintro e wx ⟨rfl,hbx⟩;have vv:=zd vv hbx;clear hbx;(go_wp2_with fail);refine kO hK (HSS.out _ vv) fun hHeld => ?_
   clear hK K;refine kR 16 fun K hK => ?_
   go_simp;refine (zbd (sayV id l (k:Int)).r (sayV id l (k:Int)).c (sayV id l (k:Int)).h (sayV id l (k:Int)).b (sayV id l (k:Int)).p x.v.r x.v.c x.v.h x.v.b x.v.p _).mono ?_;rintro e wx ⟨rfl,hbx⟩;rw [HL.out];have vv:=zd vv hbx;clear hbx;(go_wp2_with fail);refine kO hK (HSS.out _ vv) fun hHeld => ?_
   clear hK K;refine kK 17 ?_;refine kK 18 ?_;refine wpAnyH_done (by kernel_rfl) ?_ _;clear hHeld;go_wp2;go_ret;exact ⟨(by rw [HR.out]; rfl),zd HB.out vv⟩
  ·have HR:Hid (zaC id l (k:Int)=2):=hide (by rw [HR0.out,hh,hl]; rfl);have HL:Hid (zaM (sayV id l (k:Int)).r (sayV id l (k:Int)).c (sayV id l (k:Int)).b (sayV id l (k:Int)).p x.v.r x.v.c x.v.b x.v.p=true):=hide hl;clear hh hl;(go_wp2_with fail);refine wp_region_held_drew (S:=(fun W=>zcc W b (off+k*8+2) (.bool true)∧zcc W b (off+k*8+3) (.int .i64 x.v.r)∧zcc W b (off+k*8+4) (.int .i64 x.v.c)∧zcc W b (off+k*8+5) (.int .i64 x.v.h)∧zcc W b (off+k*8+6) (.int .i64 x.v.b)∧zcc W b (off+k*8+7) (.int .i64 x.v.p))) (by kernel_rfl) (HSS.out _ vv) (fun hHeld => ?_);refine kK 0 ?_;refine kK 1 ?_;refine kK 2 ?_;refine kK 3 ?_;refine kK 4 ?_;refine kK 5 ?_;refine kK 6 ?_;refine kK 7 ?_;refine kK 8 ?_;refine kK 9 ?_;refine kK 11 ?_;refine kK 12 ?_;refine kK 13 ?_;refine kK 14 ?_;refine kK 15 ?_;refine kR 10 fun K hK => ?_
   go_simp;refine (zcy id (some ⟨b,off,none⟩) n c l (k:Int) _ (h.below (zd HB.out vv))).mono ?_;rintro e wx ⟨rfl,hbx⟩;have vv:=zd vv hbx;clear hbx;(go_wp2_with fail);refine kO hK (HSS.out _ vv) fun hHeld => ?_
   clear hK K;refine kR 16 fun K hK => ?_
   go_simp;refine (zbd (sayV id l (k:Int)).r (sayV id l (k:Int)).c (sayV id l (k:Int)).h (sayV id l (k:Int)).b (sayV id l (k:Int)).p x.v.r x.v.c x.v.h x.v.b x.v.p _).mono ?_;rintro e wx ⟨rfl,hbx⟩;rw [HL.out];have vv:=zd vv hbx;clear hbx;(go_wp2_with fail);refine kO hK (HSS.out _ vv) fun hHeld => ?_
   clear hK K;refine kK 17 ?_;refine kK 18 ?_;refine wpAnyH_done (by kernel_rfl) ?_ _;clear hHeld;go_wp2;go_ret;exact ⟨(by rw [HR.out]; rfl),zd HB.out vv⟩

theorem zT {α:Type} (F:Flat α) {w:World} {g base:Nat} {l:List α} {cs:Array Value} {T:TypeId} (h:w.heap[g]? = some (.cells cs T)) (hc:cs.toList=F.all l) (hb:base≤g) (hm:l.length≤1000):w.ownsRow base T F.k (.slice (some ⟨g,0,none⟩) l.length l.length) l.length (F.all l):=by
 have hl:cs.toList.length=l.length*F.k:=by rw [hc,F.all_length]
 refine ⟨by rw [F.all_length],.inr ⟨g,l.length,cs,rfl,hb,h,Nat.le_refl _,by unfold maxLen; omega, ?_, ?_⟩⟩
 ·simpa using hl
 ·rw [← hc,← hl,List.take_length]

theorem zha (n:Int) (w:World) :
  Calls Tryz.prog 150 #[.int .i64 n] w fun e w'=>e=.returned (.agg #[.int .i64 2,.int .i64 n,.string ⟨#[]⟩,.slice none 0 0])∧Below w.heap.size w w':=by
 go_enter Tryz.func150,Tryz.ntmps150;go_wp2;exact bodyPost_ret (v:=.agg #[.int .i64 2,.int .i64 n,.string ⟨#[]⟩,.slice none 0 0]) (by simp [results,Tryz.results150,go_sem]) rfl ⟨rfl,zh _ _⟩

theorem zdM {w:World} {base k:Nat} {e:TypeId} {v:Value} {n:Nat} {xs:List Value} (h:w.ownsRow base e k v n xs) {pb:Nat} {cs:Array Value} {T:TypeId} (hp:w.heap[pb]? = some (.cells cs T)) (hne:T≠e):∀b,v.ownBlock=some b→b≠pb:=by
 intro b hv he;subst he;obtain ⟨-,⟨rfl,-⟩ | ⟨g,cap,cur,rfl,hg,hh,r⟩⟩:=h
 ·cases hv
 ·have e1:g=b:=by simpa [Value.ownBlock] using hv
  subst e1;rw [hp] at hh;cases hh;exact hne rfl

theorem zhg {W:World} {X:Nat} {c0 c1 c2 c3 c4:Value} {T:TypeId} {K:World→Prop} (hk:W.heap[X]? = some (.cells #[c0,c1,c2,c3,c4] T)) (v0 v1 v2 v3 v4:Value) (h:∀wq,wq.heap[X]? = some (.cells #[v0,v1,v2,v3,v4] T)→W.grownBy wq (some X)→K wq):K (((((W.setCell ⟨X,0,none⟩ v0).setCell ⟨X,1,none⟩ v1).setCell ⟨X,2,none⟩ v2).setCell ⟨X,3,none⟩ v3).setCell ⟨X,4,none⟩ v4):=by
 refine h _ ?_ (zaq (zaq (zaq (zaq (zl 0 _) (zl 1 _)) (zl 2 _)) (zl 3 _)) (zl 4 _));have h0:=zp (j:=0) hk v0;have h1:=zp (j:=1) h0 v1;have h2:=zp (j:=2) h1 v2;have h3:=zp (j:=3) h2 v3;have h4:=zp (j:=4) h3 v4
 simpa using h4

theorem zhf {W:World} {X:Nat} {c0 c1:Value} {T:TypeId} {K:World→Prop} (hk:W.heap[X]? = some (.cells #[c0,c1] T)) (v0 v1:Value) (h:∀wq,wq.heap[X]? = some (.cells #[v0,v1] T)→W.grownBy wq (some X)→K wq):K ((W.setCell ⟨X,0,none⟩ v0).setCell ⟨X,1,none⟩ v1):=by
 refine h _ ?_ (zaq (zl 0 _) (zl 1 _));have h1:=zp (j:=1) (zp (j:=0) hk v0) v1
 simpa using h1

theorem zdx (a1:Option Addr) (l1 c1:Nat) (z1:List Int) (a2:Option Addr) (l2 c2:Nat) (z2:List Int) (w:World) (h1:IRow w a1 l1 c1 z1) (h2:IRow w a2 l2 c2 z2) :
  Calls Tryz.prog 47 #[.slice a1 l1 c1,.slice a2 l2 c2] w fun e w'=>e=.returned (.bool (decide (z1=z2)))∧∃n,w'=w.drewN n:=by
 have m1:=h1.top; have m2:=h2.top; have s1:=h1.size; have s2:=h2.size; have e1:=h1.le; have e2:=h2.le
 unfold maxLen at m1 m2;by_cases hl:l1=l2
 ·subst hl;by_cases h0:l1=0
  ·subst h0;have hz:z1=z2:=by rw [List.eq_nil_of_length_eq_zero s1,List.eq_nil_of_length_eq_zero s2]
   go_enter Tryz.func47,Tryz.ntmps47;go_wp2
   go_loop [13] (fun i=>i=.int .i64 0) (fun _=>0)
   case atStart=>rfl
   case round =>
    subst hrel;go_wp2;go_ret;exact ⟨by simp,0,rfl⟩
  ·rcases h1.cell with h | ⟨b1,o1,rfl,g1⟩
   ·exact absurd h h0
   rcases h2.cell with h | ⟨b2,o2,rfl,g2⟩
   ·exact absurd h h0
   clear h1 h2;have G1:Hid (∀i,i < l1→w.cell? ⟨b1,o1+i,none⟩=some (.int .i64 (z1.getD i 0))):=g1;have G2:Hid (∀i,i < l1→w.cell? ⟨b2,o2+i,none⟩=some (.int .i64 (z2.getD i 0))):=g2;clear g1 g2;go_enter Tryz.func47,Tryz.ntmps47;go_wp2
   go_loopw [13] (fun i wr=>∃k:Nat,k≤l1∧i=.int .i64 k∧z1.take k=z2.take k∧∃n,wr=w.drewN n) (fun i _=>l1 - (intOf i).toNat)
   case atStart=>exact ⟨0,Nat.zero_le _,rfl,rfl,0,rfl⟩
   case round =>
    obtain ⟨k,hk,rfl,ht,n,rfl⟩:=hrel;have HT:Hid (z1.take k=z2.take k):=ht;clear ht;by_cases hlt:k < l1
    ·have c1:=G1.out k hlt;have c2:=G2.out k hlt;generalize hx:z1.getD k 0=x at c1;generalize hy:z2.getD k 0=y at c2;have HX:Hid (z1.getD k 0=x):=hx;have HY:Hid (z2.getD k 0=y):=hy;clear hx hy;by_cases hq:x=y
     ·subst hq;go_wp2
      go_quiet (fail)
      go_wp2
      go_roundw
      case rel=>exact ⟨k+1,by omega,by go_num,by rw [zcz _ _ (by omega),zcz _ _ (by omega),HT.out,HX.out,HY.out],_,rfl⟩
      case measure=>simp [intOf]; omega
     ·have hne:(x != y)=true:=by simp [hq]
      go_wp2
      go_quiet (fail)
      go_wp2;go_ret;exact ⟨zH (decide_eq_false (ne_at k (by rw [HX.out,HY.out]; exact hq))).symm,_,World.drewN_drewN _ _ _⟩
    ·go_wp2;go_ret;have hk':k=l1:=by omega
     exact ⟨zH (decide_eq_true (zfA (by omega) (by rw [s1,← hk']; exact HT.out))).symm,_,rfl⟩
 ·have hne:((l1:Int) != (l2:Int))=true:=by simp; omega
  have hz:¬z1=z2:=by intro e; rw [e] at s1; omega
  go_enter Tryz.func47,Tryz.ntmps47;go_wp2;go_ret;exact ⟨zH (decide_eq_false hz).symm,0,rfl⟩

theorem zbn (a1:Option Addr) (l1 c1:Nat) (z1:List Int) (a2:Option Addr) (l2 c2:Nat) (z2:List Int) (w:World) (h1:IRow w a1 l1 c1 z1) (h2:IRow w a2 l2 c2 z2) :
  Calls Tryz.prog 14 #[.slice a1 l1 c1,.slice a2 l2 c2] w fun e w'=>e=.returned (.bool (decide (z1=z2)))∧∃n,w'=w.drewN n:=by
 go_enter Tryz.func14,Tryz.ntmps14;go_wp2_with fail
 refine (zdx _ _ _ z1 _ _ _ z2 _ h1 h2).mono ?_;rintro e w1 ⟨rfl,n,rfl⟩;go_wp2;go_ret;exact ⟨rfl,n,rfl⟩

theorem IRow.take {w:World} {ao:Option Addr} {n c:Nat} {zs:List Int} (h:IRow w ao n c zs) (k:Nat) (hk:k≤n):IRow w ao k c (zs.take k) where
 size:=by have:=h.size; simp; omega
 le:=by have:=h.le; omega
 top:=h.top
 nil:=h.nil
 byte:=fun z hz=>h.byte z (List.mem_of_mem_take hz)
 cell:=by
  rcases h.cell with h0 | ⟨b,off,ha,hc⟩
  ·exact .inl (by omega)
  ·exact .inr ⟨b,off,ha,fun i hi=>by rw [hc i (by omega)]; simp [List.getD_eq_getElem?_getD,hi]⟩

def zbW (l:List BD) (o:List Int):BD:=(l.find? (fun d=>decide (d.o=o))).getD ⟨[],128,0,⟨#[]⟩,[]⟩
def zew (l:List BD) (o:List Int):BD:=(l.find? (fun d=>lessL o d.o)).getD ⟨o,130,0,⟨#[]⟩,[]⟩

theorem zeX {α:Type} {p:α→Bool} {l:List α} (h:∀(i:Nat) x,i < l.length→l[i]? = some x→p x=false):l.find? p=none:=by
 rw [List.find?_eq_none];intro x hx;obtain ⟨i,hi⟩:=List.getElem?_of_mem hx
 have:=h i x (List.getElem?_eq_some_iff.1 hi).1 hi
 rw [this]
 decide

theorem zdy {α:Type} {p:α→Bool}:∀{l:List α} {k:Nat} {x:α},(∀(i:Nat) y,i < k→l[i]? = some y→p y=false)→l[k]? = some x→p x=true→l.find? p=some x
 | [],k,x,_,h,_=>by simp at h
 | y::l,0,x,_,h,hp=>by
  simp at h
  subst h;rw [List.find?_cons,hp]
 | y::l,k+1,x,hn,h,hp=>by
  have h0:=hn 0 y (Nat.succ_pos _) rfl;rw [List.find?_cons,h0];exact zdy (k:=k) (fun i z hi hz=>hn (i+1) z (Nat.succ_lt_succ hi) (by simpa using hz)) (by simpa using h) hp

theorem zid {l:List BD} {o:List Int} {k:Nat} {x:BD} (hn:∀(i:Nat) y,i < k→l[i]? = some y→decide (y.o=o)=false) (h:l[k]? = some x) (hp:decide (x.o=o)=true):zbW l o=x:=by
 unfold zbW;rw [zdy hn h hp]
 rfl
theorem zf0 {l:List BD} {o:List Int} (hn:∀(i:Nat) y,i < l.length→l[i]? = some y→decide (y.o=o)=false):zbW l o=⟨[],128,0,⟨#[]⟩,[]⟩:=by
 unfold zbW;rw [zeX hn]
 rfl
theorem zjp {l:List BD} {o:List Int} {k:Nat} {x:BD} (hn:∀(i:Nat) y,i < k→l[i]? = some y→lessL o y.o=false) (h:l[k]? = some x) (hp:lessL o x.o=true):zew l o=x:=by
 unfold zew;rw [zdy hn h hp]
 rfl
theorem zjq {l:List BD} {o:List Int} (hn:∀(i:Nat) y,i < l.length→l[i]? = some y→lessL o y.o=false):zew l o=⟨o,130,0,⟨#[]⟩,[]⟩:=by
 unfold zew;rw [zeX hn]
 rfl
theorem zg6 {α:Type} {p:α→Bool} {l:List α} {k:Nat} {x:α} (hn:∀(i:Nat) y,i < k→l[i]? = some y→p y=false) (h:l[k]? = some x) (hp:p x=false):∀(i:Nat) y,i < k+1→l[i]? = some y→p y=false:=by
 intro i y hi hy;by_cases e:i=k
 ·subst e;rw [h] at hy;cases hy;exact hp
 ·exact hn i y (by omega) hy

theorem zcl (x m:Int) (h:0≤m∧m≤9223372036854775807):0≤bits .and .i64 x m∧bits .and .i64 x m≤m:=by
 have e2:(BitVec.ofInt 64 m).toNat=m.toNat:=by
  rw [BitVec.toNat_ofInt]
  have:((2 ^ 64:Nat):Int)=18446744073709551616:=by decide
  rw [this]; omega
 have e3:((BitVec.ofInt 64 x) &&& (BitVec.ofInt 64 m)).toNat≤m.toNat:=by
  rw [BitVec.toNat_and,e2]; exact Nat.and_le_right
 have e:bits .and .i64 x m=IntKind.i64.wrap (((BitVec.ofInt 64 x) &&& (BitVec.ofInt 64 m)).toNat:Int):=rfl;rw [e,IntKind.wrap_i64];omega

theorem zcC {a b c:World} {C:Nat} (h:a.grownBy b (some C)) (k:b.grownBy c (some C)):a.grownBy c (some C) where
 os:=k.os.trans h.os
 tape:=k.tape.trans h.tape
 output:=k.output.trans h.output
 size:=Nat.le_trans h.size k.size
 block:=fun j hj hne=>(k.block j (Nat.lt_of_lt_of_le hj h.size) hne).trans (h.block j hj hne)

theorem zcs {a b:World} (C:Nat) (h:Below a.heap.size a b):a.grownBy b (some C) where
 os:=h.os
 tape:=h.tape
 output:=h.output
 size:=h.size
 block:=fun j hj _=>h.block j hj

theorem zbk {a b:World} {C B:Nat} (h:a.grownBy b (some C)) (hB:B≤C) (hs:C≤a.heap.size):Below B a b where
 os:=h.os
 tape:=h.tape
 output:=h.output
 size:=h.size
 block:=fun j hj=>h.block j (by omega) (by intro e; cases e; omega)

theorem zdB {a b:World} {C:Nat} (h:a.grownBy b (some C)) (n:Nat):a.grownBy (b.drewN n) (some C):=⟨h.os,h.tape,h.output,h.size,h.block⟩

structure Cur (w:World) (C:Nat) (a0:Option Addr) (l0 c0:Nat) (z0:List Int):Prop where
 row:∀w',Below C w w'→Row w' a0 l0 c0 z0
 small:l0≤1048576
 here:∃i h:Int,0≤i∧i≤l0∧w.heap[C]? = some (.cells #[.slice a0 l0 c0,.int .i64 i,.int .i64 h] 157)

theorem Cur.lt {w:World} {C:Nat} {a0:Option Addr} {l0 c0:Nat} {z0:List Int} (h:Cur w C a0 l0 c0 z0):C < w.heap.size:=by
 obtain ⟨i,x,_,_,e⟩:=h.here;by_cases hlt:C < w.heap.size
 ·exact hlt
 ·rw [Array.getElem?_eq_none (by omega)] at e; cases e

theorem Cur.below {w w':World} {C:Nat} {a0:Option Addr} {l0 c0:Nat} {z0:List Int} (h:Cur w C a0 l0 c0 z0) (hb:Below w.heap.size w w'):Cur w' C a0 l0 c0 z0 where
 row:=fun w2 h2=>h.row w2 ((hb.mono (Nat.le_of_lt h.lt)).trans h2)
 small:=h.small
 here:=by
  obtain ⟨i,x,h1,h2,e⟩:=h.here;exact ⟨i,x,h1,h2,by rw [hb.block C h.lt]; exact e⟩

theorem zg3 (w:World) (a0:Option Addr) (l0 c0:Nat) (z0:List Int) (x:Int) (h0:Row w a0 l0 c0 z0) (hs:l0≤1048576):Cur (w.alloc (.cells #[.slice a0 l0 c0,.int .i64 0,.int .i64 x] 157)) w.heap.size a0 l0 c0 z0 where
 row:=fun w2 h2=>h0.below (((Below.refl _ _).alloc (Nat.le_refl _) _).trans h2)
 small:=hs
 here:=⟨0,x,by omega,by omega,by show (w.heap.push _)[w.heap.size]? = _; simp⟩

theorem Cur.drew {w:World} {C:Nat} {a0:Option Addr} {l0 c0:Nat} {z0:List Int} (h:Cur w C a0 l0 c0 z0) (n:Nat):Cur (w.drewN n) C a0 l0 c0 z0:=h.below (zap (Below.refl _ _) n)

theorem zi6 (a0:Option Addr) (l0 c0:Nat) (z0:List Int) (w:World) (h0:Row w a0 l0 c0 z0) (hs:l0≤1048576) :
  Calls Tryz.prog 40 #[.slice a0 l0 c0] w fun e w'=>e=.returned (.pointer (some ⟨w.heap.size,0,none⟩))∧Cur w' w.heap.size a0 l0 c0 z0∧Below w.heap.size w w':=by
 have hby:=h0.byte;have hcell:=h0.cell;go_enter Tryz.func40,Tryz.ntmps40;go_wp2
 go_loop [3,4] (fun m i=>∃(k:Nat) (x:Int),k≤l0∧k≤4000∧i=.int .i64 k∧m=.int .i64 x∧0≤x∧x≤1073741823) (fun _ i=>l0 - (intOf i).toNat)
 case atStart=>exact ⟨0,_,Nat.zero_le _,by omega,rfl,rfl,by omega,by omega⟩
 case round =>
  obtain ⟨k,x,hk,hk4,rfl,rfl,hx0,hx1⟩:=hrel;by_cases hlt:k < l0
  ·by_cases hl4:k < 4000
   ·rcases hcell with h | ⟨b,off,rfl,hc⟩
    ·omega
    have cx:=hc k hlt;have bx:=hby.at k;clear hc;generalize z0.getD k 0=y at *;go_wp2
    go_round
    case rel=>exact ⟨k+1,_,by omega,by omega,by go_num,rfl,(zcl (x*137+y+11) 1073741823 (by omega)).1,(zcl (x*137+y+11) 1073741823 (by omega)).2⟩
    case measure=>simp [intOf]; omega
   ·have i1:¬(k:Int) < 4000:=by omega
    go_wp2;go_ret;exact ⟨rfl,zg3 w a0 l0 c0 z0 x h0 hs,(Below.refl _ _).alloc (Nat.le_refl _) _⟩
  ·go_wp2;go_ret;exact ⟨rfl,zg3 w a0 l0 c0 z0 x h0 hs,(Below.refl _ _).alloc (Nat.le_refl _) _⟩

structure Went (w w':World) (C:Nat) (a0:Option Addr) (l0 c0:Nat) (z0:List Int):Prop where
 cur:Cur w' C a0 l0 c0 z0
 grown:w.grownBy w' (some C)

theorem Cur.cells {w:World} {C:Nat} {c0 c1 c2:Value} (h:w.heap[C]? = some (.cells #[c0,c1,c2] 157)) :
  w.cell? ⟨C,0,none⟩=some c0∧w.cell? ⟨C,1,none⟩=some c1∧w.cell? ⟨C,2,none⟩=some c2∧(∀j,w.frozen? ⟨C,j,none⟩=false):=by
 refine ⟨?_, ?_, ?_,fun j => ?_⟩ <;> simp [World.cell?,World.frozen?,h]

theorem zh6 {w:World} {C:Nat} {a0:Option Addr} {l0 c0:Nat} {z0:List Int} {i h:Int} (hc:Cur w C a0 l0 c0 z0) (hh:w.heap[C]? = some (.cells #[.slice a0 l0 c0,.int .i64 i,.int .i64 h] 157)) (H:Int) (hi:0≤i∧i≤l0) :
  (w.setCell ⟨C,2,none⟩ (.int .i64 H)).heap[C]? = some (.cells #[.slice a0 l0 c0,.int .i64 i,.int .i64 H] 157)∧w.grownBy (w.setCell ⟨C,2,none⟩ (.int .i64 H)) (some C)∧Cur (w.setCell ⟨C,2,none⟩ (.int .i64 H)) C a0 l0 c0 z0:=by
 have e:(w.setCell ⟨C,2,none⟩ (.int .i64 H)).heap[C]? = some (.cells #[.slice a0 l0 c0,.int .i64 i,.int .i64 H] 157):=by
  have:=hc.lt
  simp [World.setCell,Array.getElem?_modify,hh]
 have g:w.grownBy (w.setCell ⟨C,2,none⟩ (.int .i64 H)) (some C):=zbZ (World.grownBy.refl _ _) 2 _;exact ⟨e,g,⟨fun w2 h2=>hc.row w2 ((zbk g (Nat.le_refl _) (Nat.le_of_lt hc.lt)).trans h2),hc.small,i,H,hi.1,hi.2,e⟩⟩

theorem zh5 {w:World} {C:Nat} {a0:Option Addr} {l0 c0:Nat} {z0:List Int} {i h:Int} (hc:Cur w C a0 l0 c0 z0) (hh:w.heap[C]? = some (.cells #[.slice a0 l0 c0,.int .i64 i,.int .i64 h] 157)) (j:Int) (hj:0≤j∧j≤l0) :
  Went w (w.setCell ⟨C,1,none⟩ (.int .i64 j)) C a0 l0 c0 z0:=by
 have e:(w.setCell ⟨C,1,none⟩ (.int .i64 j)).heap[C]? = some (.cells #[.slice a0 l0 c0,.int .i64 j,.int .i64 h] 157):=by
  have:=hc.lt
  simp [World.setCell,Array.getElem?_modify,hh]
 have g:w.grownBy (w.setCell ⟨C,1,none⟩ (.int .i64 j)) (some C):=zbZ (World.grownBy.refl _ _) 1 _;exact ⟨⟨fun w2 h2=>hc.row w2 ((zbk g (Nat.le_refl _) (Nat.le_of_lt hc.lt)).trans h2),hc.small,j,h,hj.1,hj.2,e⟩,g⟩

theorem zdh (C:Nat) (a0:Option Addr) (l0 c0:Nat) (z0:List Int) (w:World) (hc:Cur w C a0 l0 c0 z0) :
  Calls Tryz.prog 181 #[.pointer (some ⟨C,0,none⟩)] w fun e w'=>∃x:Int,e=.returned (.int .i64 x)∧0≤x∧x≤255∧Went w w' C a0 l0 c0 z0:=by
 obtain ⟨i,h,hi0,hi1,hh⟩:=hc.here;obtain ⟨k0,k1,k2,kf⟩:=Cur.cells hh;have kf2:=kf 2;clear kf;obtain ⟨k,rfl⟩:∃k:Nat,i=k:=⟨i.toNat,by omega⟩;go_enter Tryz.func181,Tryz.ntmps181;go_wp2;generalize wrap64 (wrap64 (h*6364136223846793005)+1442695040888963407)=H;have st:=zh6 hc hh H ⟨hi0,hi1⟩;generalize w.setCell ⟨C,2,none⟩ (.int .i64 H)=W at *;obtain ⟨hW,hg,hcw⟩:=st;clear k0 k1 k2 kf2 hh hc;obtain ⟨k0,k1,k2,kf⟩:=Cur.cells hW;have kf1:=kf 1;clear kf;have hrow:=hcw.row W (Below.refl _ _);have hl0:=hcw.small;have hby:=hrow.byte;have hcell:=hrow.cell
 go_quiet (fail)
 go_wp2;have hx:=zcl (bits BinOp.xor IntKind.i64 (H / 8589934592) (H / 140737488355328)) 255 (by omega);generalize bits BinOp.and IntKind.i64 (bits BinOp.xor IntKind.i64 (H / 8589934592) (H / 140737488355328)) 255=x at *;by_cases hlt:k < l0
 ·rcases hcell with h | ⟨b,off,rfl,hc⟩
  ·omega
  have cx:=hc k hlt;have bx:=hby.at k;clear hc;generalize z0.getD k 0=y at *;have g1:(k:Int) < l0:=by omega
  go_quiet (fail)
  go_wp2
  go_quiet (fail)
  go_wp2;go_ret;refine ⟨_,rfl,(zcl _ 255 (by omega)).1,(zcl _ 255 (by omega)).2, ?_⟩;have t:=fun n=>zh5 (hcw.drew n) (by exact hW) ((k:Int)+1) (by omega)
  exact ⟨(t _).cur,zcC (zdB hg _) (t _).grown⟩
 ·have g1:¬(k:Int) < l0:=by omega
  go_quiet (fail)
  go_wp2;go_ret;exact ⟨x,rfl,hx.1,hx.2,hcw.drew _,zdB hg _⟩

theorem zf5 (x n:Int) (hx:0≤x) (hn:0 < n):0≤x % n∧x % n < n∧x % n≤x:=by
 refine ⟨Int.emod_nonneg _ (by omega),Int.emod_lt_of_pos _ hn, ?_⟩;have h1:=Int.emod_add_mul_ediv x n;have h2:0≤x / n:=Int.ediv_nonneg hx (by omega);have h3:0≤n*(x / n):=Int.mul_nonneg (by omega) h2;omega

theorem Went.trans {a b c:World} {C:Nat} {a0:Option Addr} {l0 c0:Nat} {z0:List Int} (h:Went a b C a0 l0 c0 z0) (k:Went b c C a0 l0 c0 z0):Went a c C a0 l0 c0 z0:=⟨k.cur,zcC h.grown k.grown⟩

theorem Went.made {a b c:World} {C:Nat} {a0:Option Addr} {l0 c0:Nat} {z0:List Int} (h:Went a b C a0 l0 c0 z0) (k:Below b.heap.size b c):Went a c C a0 l0 c0 z0:=⟨h.cur.below k,zcC h.grown (zcs C k)⟩

theorem Went.start {a b:World} {C:Nat} {a0:Option Addr} {l0 c0:Nat} {z0:List Int} (h:Cur a C a0 l0 c0 z0) (k:Below a.heap.size a b):Went a b C a0 l0 c0 z0:=⟨h.below k,zcs C k⟩

theorem zL (C:Nat) (a0:Option Addr) (l0 c0:Nat) (z0:List Int) (n:Int) (w:World) (hc:Cur w C a0 l0 c0 z0) (hn:n≤1099511627776) :
  Calls Tryz.prog 104 #[.pointer (some ⟨C,0,none⟩),.int .i64 n] w fun e w'=>∃x:Int,e=.returned (.int .i64 x)∧0≤x∧(0 < n→x < n)∧x≤16777215∧Went w w' C a0 l0 c0 z0:=by
 by_cases k0:n≤0
 ·go_enter Tryz.func104,Tryz.ntmps104;go_wp2;go_ret;exact ⟨0,rfl,by omega,by omega,by omega,Went.start hc (Below.refl _ _)⟩
 by_cases k1:n≤256
 ·go_enter Tryz.func104,Tryz.ntmps104;(go_wp2_with fail);refine (zdh C a0 l0 c0 z0 _ hc).mono ?_;rintro e w1 ⟨x,rfl,hx0,hx1,went⟩;have hne:(n == 0)=false:=by simp; omega
  go_wp2;go_ret;exact ⟨_,rfl,(zf5 x n hx0 (by omega)).1,fun _=>(zf5 x n hx0 (by omega)).2.1,by have:=(zf5 x n hx0 (by omega)).2.2; omega,went⟩
 ·go_enter Tryz.func104,Tryz.ntmps104;(go_wp2_with fail);refine (zdh C a0 l0 c0 z0 _ hc).mono ?_;rintro e w1 ⟨x,rfl,hx0,hx1,went1⟩;(go_wp2_with fail);refine (zdh C a0 l0 c0 z0 _ went1.cur).mono ?_;rintro e w2 ⟨y,rfl,hy0,hy1,went2⟩;(go_wp2_with fail);refine (zdh C a0 l0 c0 z0 _ went2.cur).mono ?_;rintro e w3 ⟨z,rfl,hz0,hz1,went3⟩;have hne:(n == 0)=false:=by simp; omega
  go_wp2;go_ret;have hm:=zf5 (x*65536+y*256+z) n (by omega) (by omega);exact ⟨_,rfl,hm.1,fun _=>hm.2.1,by omega,(went1.trans went2).trans went3⟩

theorem zdl (C:Nat) (a0:Option Addr) (l0 c0:Nat) (z0:List Int) (n:Int) (w:World) (hc:Cur w C a0 l0 c0 z0) (hn:n≤1099511627776) :
  Calls Tryz.prog 69 #[.pointer (some ⟨C,0,none⟩),.int .i64 n] w fun e w'=>∃x:Bool,e=.returned (.bool x)∧Went w w' C a0 l0 c0 z0:=by
 go_enter Tryz.func69,Tryz.ntmps69;go_wp2_with fail
 refine (zL C a0 l0 c0 z0 n _ hc hn).mono ?_;rintro e w1 ⟨x,rfl,hx0,hx1,hx2,went⟩;go_wp2;go_ret;exact ⟨_,rfl,went⟩

theorem zik (w:World) (xs:List Int) (j:Nat) (hj:j < xs.length):(w.alloc (.cells (xs.map (Value.int .i64)).toArray 3)).cell? ⟨w.heap.size,j,none⟩=some (.int .i64 (xs.getD j 0)):=by
 have:(w.alloc (.cells (xs.map (Value.int .i64)).toArray 3)).cell? ⟨w.heap.size,j,none⟩=(xs.map (Value.int .i64)).toArray[j]? := by simp
 rw [this]
 simp [hj]

theorem zi4 (C:Nat) (a0:Option Addr) (l0 c0:Nat) (z0:List Int) (B n:Nat) (xs:List Int) (w:World) (hc:Cur w C a0 l0 c0 z0) (hB:C < B) (hcell:∀j,j < n→w.cell? ⟨B,j,none⟩=some (.int .i64 (xs.getD j 0))) (hxs:xs.length=n) (hn0:0 < n) (hn:n≤1000) :
  Calls Tryz.prog 112 #[.pointer (some ⟨C,0,none⟩),.slice (some ⟨B,0,none⟩) n n] w fun e w'=>∃x:Int,x∈xs∧e=.returned (.int .i64 x)∧Went w w' C a0 l0 c0 z0:=by
 have HC:=hide hcell;clear hcell;go_enter Tryz.func112,Tryz.ntmps112;go_wp2_with fail
 refine (zL C a0 l0 c0 z0 n _ hc (by omega)).mono ?_;rintro e w1 ⟨x,rfl,hx0,hx1,hx2,went⟩;have hx1:=hx1 (by omega);obtain ⟨j,rfl⟩:∃j:Nat,x=j:=⟨x.toNat,by omega⟩;have cx:w1.cell? ⟨B,j,none⟩=some (.int .i64 (xs.getD j 0)):=went.grown.cell (HC.out j (by omega)) (by intro e; simp at e; omega);have hm:xs.getD j 0∈xs:=by
  rw [List.getD_eq_getElem?_getD,List.getElem?_eq_getElem (by omega)]; exact List.getElem_mem _
 generalize xs.getD j 0=y at *;go_wp2;go_ret;exact ⟨y,hm,rfl,went⟩

theorem Cur.belowAt {w w':World} {C B:Nat} {a0:Option Addr} {l0 c0:Nat} {z0:List Int} (h:Cur w C a0 l0 c0 z0) (hb:Below B w w') (hC:C < B):Cur w' C a0 l0 c0 z0 where
 row:=fun w2 h2=>h.row w2 ((hb.mono (Nat.le_of_lt hC)).trans h2)
 small:=h.small
 here:=by
  obtain ⟨i,x,h1,h2,e⟩:=h.here;exact ⟨i,x,h1,h2,by rw [hb.block C hC]; exact e⟩

theorem Went.madeAt {a b c:World} {C B:Nat} {a0:Option Addr} {l0 c0:Nat} {z0:List Int} (h:Went a b C a0 l0 c0 z0) (k:Below B b c) (hC:C < B) (hB:a.heap.size≤B):Went a c C a0 l0 c0 z0 where
 cur:=h.cur.belowAt k hC
 grown:=⟨k.os.trans h.grown.os,k.tape.trans h.grown.tape,k.output.trans h.grown.output,Nat.le_trans h.grown.size k.size,fun j hj hne=>(k.block j (by omega)).trans (h.grown.block j hj hne)⟩

theorem Went.own {a b:World} {C:Nat} {a0:Option Addr} {l0 c0:Nat} {z0:List Int} (h:Went a b C a0 l0 c0 z0) {base:Nat} {v:Value} {n:Nat} {xs:List Value} (ho:a.ownsRow base 5 1 v n xs) (hC:C < base):b.ownsRow base 5 1 v n xs :=
 ze7 ho h.grown (by intro k hk; cases hk; exact hC)

theorem zbN (C:Nat) (a0:Option Addr) (l0 c0:Nat) (z0:List Int) (xs:List Int) (B n:Nat) (w:World) (hc:Cur w C a0 l0 c0 z0) (hB:B=w.heap.size) (hxs:xs.length=n) (hn0:0 < n) (hn:n≤1000) :
  Calls Tryz.prog 112 #[.pointer (some ⟨C,0,none⟩),.slice (some ⟨B,0,none⟩) n n] (w.alloc (.cells (xs.map (Value.int .i64)).toArray 3)) fun e w'=>∃x:Int,x∈xs∧e=.returned (.int .i64 x)∧Went w w' C a0 l0 c0 z0:=by
 subst hB hxs;have hb:Below w.heap.size w (w.alloc (.cells (xs.map (Value.int .i64)).toArray 3)):=(Below.refl _ _).alloc (Nat.le_refl _) _;refine (zi4 C a0 l0 c0 z0 w.heap.size xs.length xs _ (hc.below hb) hc.lt (fun j hj=>zik w xs j hj) rfl hn0 hn).mono ?_;rintro e w' ⟨x,hx,rfl,went⟩;exact ⟨x,hx,rfl,(Went.start hc hb).trans went⟩

theorem zhb (C:Nat) (a0:Option Addr) (l0 c0:Nat) (z0:List Int) (w:World) (hc:Cur w C a0 l0 c0 z0) :
  Calls Tryz.prog 183 #[.pointer (some ⟨C,0,none⟩)] w fun e w'=>∃(R K H B P:Int),e=.returned (.agg #[.int .i64 R,.int .i64 K,.int .i64 H,.int .i64 B,.int .i64 P])∧okVc R K H B P=true∧Went w w' C a0 l0 c0 z0:=by
 have hlt:=hc.lt;have q0:=zh w (.cells #[.int .i64 0,.int .i64 0,.int .i64 0,.int .i64 0,.int .i64 0] 111);have wn0:=Went.start hc q0;have hk0:=zv w (.cells #[.int .i64 0,.int .i64 0,.int .i64 0,.int .i64 0,.int .i64 0] 111);go_enter Tryz.func183,Tryz.ntmps183;go_wp2_with fail
 refine (zL C a0 l0 c0 z0 5 _ wn0.cur (by omega)).mono ?_;rintro e w1 ⟨r1,rfl,hx1,hy1,-,went1⟩;have hy1:=hy1 (by omega);have wn1:=wn0.trans went1;have k1:=zA hk0 went1.grown (fun j hj=>by cases hj; omega);clear wn0 went1 hk0;go_wp2_with fail
 refine (zbN C a0 l0 c0 z0 [0,1,2,5,10,100] _ _ w1 wn1.cur rfl rfl (by simp) (by simp)).mono ?_;rintro e w2 ⟨K,hK,rfl,went2⟩;have HK:Hid (0≤K∧K≤100):=hide (by simp at hK; omega);clear hK;have wn2:=wn1.trans went2;have k2:=zA k1 went2.grown (fun j hj=>by cases hj; omega);clear wn1 went2 k1;go_wp2_with fail
 refine (zbN C a0 l0 c0 z0 [0,1,2,9,10] _ _ w2 wn2.cur rfl rfl (by simp) (by simp)).mono ?_;rintro e w3 ⟨H,hH,rfl,went3⟩;have HH:Hid (0≤H∧H≤10):=hide (by simp at hH; omega);clear hH;have wn3:=wn2.trans went3;have k3:=zA k2 went3.grown (fun j hj=>by cases hj; omega);clear wn2 went3 k2;go_wp2_with fail
 refine (zL C a0 l0 c0 z0 5 _ wn3.cur (by omega)).mono ?_;rintro e w4 ⟨r4,rfl,hx4,hy4,-,went4⟩;have hy4:=hy4 (by omega);have wn4:=wn3.trans went4;have k4:=zA k3 went4.grown (fun j hj=>by cases hj; omega);clear wn3 went4 k3;go_wp2_with fail
 refine (zL C a0 l0 c0 z0 4 _ wn4.cur (by omega)).mono ?_;rintro e w5 ⟨r5,rfl,hx5,hy5,-,went5⟩;have hy5:=hy5 (by omega);have HOK:Hid (okVc (1+r1) K H (1+r4) r5=true):=hide (by have h1:=HK.out; have h2:=HH.out; unfold okVc; simp; omega);have wn5:=wn4.trans went5;have k5:=zA k4 went5.grown (fun j hj=>by cases hj; omega);obtain ⟨⟨x0,x1,x2,x3,x4⟩,f0,f1,f2,f3,f4⟩:=zt k5;clear wn4 went5 k4 k5;go_wp2;exact bodyPost_ret (v:=.agg #[.int .i64 (1+r1),.int .i64 K,.int .i64 H,.int .i64 (1+r4),.int .i64 r5]) (by simp [results,Tryz.results183,go_sem, *]) rfl ⟨_,_,_,_,_,rfl,HOK.out,wn5.madeAt (zZ (Below.refl _ _) (Nat.le_refl w.heap.size) _ _ _ _ _) hlt (Nat.le_refl _)⟩

theorem zfE (C:Nat) (a0:Option Addr) (l0 c0:Nat) (z0:List Int) (N:Int) (m:Nat) (w:World) (hc:Cur w C a0 l0 c0 z0) (hN:N=m) (hm:m≤1000) :
  Calls Tryz.prog 107 #[.pointer (some ⟨C,0,none⟩),.int .i64 N] w fun e w'=>∃(ao:Option Addr) (cap:Nat) (l:List PT),e=.returned (.slice ao m cap)∧l.length=m∧(∀x∈l,ptOk x=true)∧w'.ownsRow w.heap.size 113 8 (.slice ao m cap) m (ptF.all l)∧Went w w' C a0 l0 c0 z0:=by
 subst hN;have hlt:=hc.lt;go_enter Tryz.func107,Tryz.ntmps107;go_wp2_with fail
 generalize hw1:w.alloc (Obj.cells #[] 113)=w1;have b1:=zb hw1;have o1:w1.ownsRow w.heap.size 113 8 (.slice (some ⟨w.heap.size,0,none⟩) 0 0) 0 (ptF.all []):=zaL ptF w w1 113 w.heap.size (zk hw1) (Nat.le_refl _);have wn1:=Went.start hc b1;clear hw1 b1
 go_loopw [5,6] (fun o i wr=>∃(k:Nat) (ao:Option Addr) (cap:Nat) (l:List PT),k≤m∧i=.int .i64 k∧o=.slice ao k cap∧l.length=k∧(∀x∈l,ptOk x=true)∧wr.ownsRow w.heap.size 113 8 (.slice ao k cap) k (ptF.all l)∧Went w wr C a0 l0 c0 z0) (fun _ i _=>m - (intOf i).toNat)
 case atStart=>exact ⟨0,_,_,[],Nat.zero_le _,rfl,rfl,rfl,(by intro x hx; cases hx),o1,wn1⟩
 case round =>
  obtain ⟨k,ao,cap,l,hk,rfl,rfl,hl,hall,o2,wn2⟩:=hrel;have HA:=hide hall;clear hall;clear wn1 o1;have HL:=hide hl;clear hl;by_cases hk0:k < m
  ·(go_wp2_with fail);refine (zdl C a0 l0 c0 z0 4 _ wn2.cur (by omega)).mono ?_;rintro e w3 ⟨q,rfl,wt⟩;have wn3:=wn2.trans wt;have o3:=zN o2 wt.grown (fun b hb=>by cases hb; exact hlt);clear wt wn2 o2;(go_wp2_with fail);refine (zbN C a0 l0 c0 z0 [1,1,2,5,10] _ _ w3 wn3.cur rfl rfl (by simp) (by simp)).mono ?_;rintro e w4 ⟨K,hK,rfl,wt⟩;have HK:Hid ((decide (1≤K) && decide (K≤1000))=true):=hide (by simp at hK; simp; omega);clear hK;have wn4:=wn3.trans wt;have o4:=zN o3 wt.grown (fun b hb=>by cases hb; exact hlt);clear wt wn3 o3;have ob:=hide (ziw o4);have hX:w.heap.size≤w4.heap.size:=wn4.grown.size;have HX:=hide hX;have hCX:C≠w4.heap.size:=by omega
   have HCX:=hide hCX;clear hX hCX;cases q
   ·(go_upto_region 6 with fail);generalize hw5:w4.alloc (.cells #[.bool true,.int .i64 K,.bool false,.int .i64 0,.int .i64 0,.int .i64 0,.int .i64 0,.int .i64 0] 113)=w5;have b5:=zb hw5;have kX:=zk hw5;have o5:=zo o4 b5;have wn5:=wn4.made b5;obtain ⟨d0,d1,d2,d3,d4,d5,d6,d7⟩:=zcr kX;clear o4 wn4 b5;(go_wp2_with fail);refine (zdl C a0 l0 c0 z0 4 _ wn5.cur (by omega)).mono ?_;rintro e w6 ⟨r,rfl,wt⟩;have wn6:=wn5.trans wt;have o6:=zN o5 wt.grown (fun b hb=>by cases hb; exact hlt);have kX:=zA kX wt.grown (fun i e=>by cases e; exact HCX.out);clear wt wn5 o5 hw5 d0 d1 d2 d3 d4 d5 d6 d7;cases r
    ·obtain ⟨d0,d1,d2,d3,d4,d5,d6,d7⟩:=zcr kX;have f2:=zm kX 2;generalize hw7:w6.setCell ⟨w4.heap.size,2,none⟩ (.bool true)=w7;have kY:w7.heap[w4.heap.size]? = some (.cells #[.bool true,.int .i64 K,.bool true,.int .i64 0,.int .i64 0,.int .i64 0,.int .i64 0,.int .i64 0] 113):=by rw [← hw7]; exact zgG kX _
     have o7:=zC o6 (zl (rb:=w4.heap.size) 2 (.bool true)) (fun b hb=>Nat.ne_of_lt (ob.out b hb));rw [hw7] at o7;have wn7:=wn6.madeAt (zg (Below.refl w.heap.size w6) (g:=w4.heap.size) HX.out 2 (.bool true)) hlt (Nat.le_refl _);rw [hw7] at wn7;clear wn6 o6 kX;(go_wp2_with fail);refine (zhb C a0 l0 c0 z0 _ wn7.cur).mono ?_;rintro e w8 ⟨vr,vc,vh,vb,vp,rfl,hok,wt⟩;have HV:=hide hok;clear hok;have wn8:=wn7.trans wt;have o8:=zN o7 wt.grown (fun b hb=>by cases hb; exact hlt);have kX:=zA kY wt.grown (fun i e=>by cases e; exact HCX.out);clear wt wn7 o7 hw7 kY d0 d1 d2 d3 d4 d5 d6 d7 f2;obtain ⟨d0,d1,d2,d3,d4,d5,d6,d7⟩:=zcr kX;have f3:=zm kX 3;have f4:=zm kX 4;have f5:=zm kX 5;have f6:=zm kX 6;have f7:=zm kX 7;generalize hw9:((((w8.setCell ⟨w4.heap.size,3,none⟩ (.int .i64 vr)).setCell ⟨w4.heap.size,4,none⟩ (.int .i64 vc)).setCell ⟨w4.heap.size,5,none⟩ (.int .i64 vh)).setCell ⟨w4.heap.size,6,none⟩ (.int .i64 vb)).setCell ⟨w4.heap.size,7,none⟩ (.int .i64 vp)=w9;have kY:w9.heap[w4.heap.size]? = some (.cells #[.bool true,.int .i64 K,.bool true,.int .i64 vr,.int .i64 vc,.int .i64 vh,.int .i64 vb,.int .i64 vp] 113):=by rw [← hw9]; exact zhO kX _ _ _ _ _
     have hne:∀b,(Value.slice ao k cap).ownBlock=some b→b≠w4.heap.size:=fun b hb=>Nat.ne_of_lt (ob.out b hb)
     have o9':=zC (zC (zC (zC (zC o8 (zl (rb:=w4.heap.size) 3 (.int .i64 vr)) hne) (zl (rb:=w4.heap.size) 4 (.int .i64 vc)) hne) (zl (rb:=w4.heap.size) 5 (.int .i64 vh)) hne) (zl (rb:=w4.heap.size) 6 (.int .i64 vb)) hne) (zl (rb:=w4.heap.size) 7 (.int .i64 vp)) hne;rw [hw9] at o9';have wn9:=wn8.madeAt (zg (zg (zg (zg (zg (Below.refl w.heap.size w8) (g:=w4.heap.size) HX.out 3 (.int .i64 vr)) HX.out 4 (.int .i64 vc)) HX.out 5 (.int .i64 vh)) HX.out 6 (.int .i64 vb)) HX.out 7 (.int .i64 vp)) hlt (Nat.le_refl _);rw [hw9] at wn9;clear wn8 o8 kX hne;(go_upto_region 9 with fail);clear d0 d1 d2 d3 d4 d5 d6 d7 f3 f4 f5 f6 f7 hw9;have HCS:Hid (#[Value.bool true,.int .i64 K,.bool true,.int .i64 vr,.int .i64 vc,.int .i64 vh,.int .i64 vb,.int .i64 vp].toList=ptF.cs ⟨true,K,true,⟨vr,vc,vh,vb,vp⟩⟩):=hide rfl;obtain ⟨d0,d1,d2,d3,d4,d5,d6,d7⟩:=zcr kY;have o9:=zo o9' (zh w9 (.cells #[.bool true,.int .i64 K,.bool true,.int .i64 vr,.int .i64 vc,.int .i64 vh,.int .i64 vb,.int .i64 vp] 113));have hbase9:w.heap.size≤(w9.alloc (.cells #[.bool true,.int .i64 K,.bool true,.int .i64 vr,.int .i64 vc,.int .i64 vh,.int .i64 vb,.int .i64 vp] 113)).heap.size:=by have:=wn9.grown.size; simp; omega
     have HW9:Hid (Went w (w9.alloc (.cells #[.bool true,.int .i64 K,.bool true,.int .i64 vr,.int .i64 vc,.int .i64 vh,.int .i64 vb,.int .i64 vp] 113)) C a0 l0 c0 z0):=hide (wn9.made (zh w9 _));go_wp2_with (at_builtin; refine zcg _ rfl _ _ rfl w.heap.size _ k l rfl o9 _ 1 1 [⟨true,K,true,⟨vr,vc,vh,vb,vp⟩⟩] rfl (zaz ptF _ _ _ _ HCS.out) (by omega) hbase9 ?_)
     rintro ao' cap' wz oz - gz bz;have HO:=hide oz;have HWZ:=hide (HW9.out.madeAt bz hlt (Nat.le_refl _));have HLN:Hid ((l++[(⟨true,K,true,⟨vr,vc,vh,vb,vp⟩⟩:PT)]).length=k+1):=hide (by simp [HL.out]);have HAN:Hid (∀y∈l++[(⟨true,K,true,⟨vr,vc,vh,vb,vp⟩⟩:PT)],ptOk y=true):=hide (by
      intro y hy;rcases List.mem_append.1 hy with hy | hy
      ·exact HA.out y hy
      ·have e:y=_:=List.mem_singleton.1 hy;subst e;unfold ptOk
       simp only
       rw [HK.out];exact HV.out)
     clear oz gz bz o9 hbase9 d0 d1 d2 d3 d4 d5 d6 d7;go_wp2
     go_roundw
     case rel=>exact ⟨k+1,ao',cap',_,by omega,by go_num,rfl,HLN.out,HAN.out,HO.out,HWZ.out⟩
     case measure=>simp [intOf]; omega
    ·(go_upto_region 9 with fail);have HCS:Hid (#[Value.bool true,.int .i64 K,.bool false,.int .i64 0,.int .i64 0,.int .i64 0,.int .i64 0,.int .i64 0].toList=ptF.cs ⟨true,K,false,⟨0,0,0,0,0⟩⟩):=hide rfl;obtain ⟨d0,d1,d2,d3,d4,d5,d6,d7⟩:=zcr kX;have o9:=zo o6 (zh w6 (.cells #[.bool true,.int .i64 K,.bool false,.int .i64 0,.int .i64 0,.int .i64 0,.int .i64 0,.int .i64 0] 113));have hbase9:w.heap.size≤(w6.alloc (.cells #[.bool true,.int .i64 K,.bool false,.int .i64 0,.int .i64 0,.int .i64 0,.int .i64 0,.int .i64 0] 113)).heap.size:=by have:=wn6.grown.size; simp; omega
     have HW9:Hid (Went w (w6.alloc (.cells #[.bool true,.int .i64 K,.bool false,.int .i64 0,.int .i64 0,.int .i64 0,.int .i64 0,.int .i64 0] 113)) C a0 l0 c0 z0):=hide (wn6.made (zh w6 _));go_wp2_with (at_builtin; refine zcg _ rfl _ _ rfl w.heap.size _ k l rfl o9 _ 1 1 [⟨true,K,false,⟨0,0,0,0,0⟩⟩] rfl (zaz ptF _ _ _ _ HCS.out) (by omega) hbase9 ?_)
     rintro ao' cap' wz oz - gz bz;have HO:=hide oz;have HWZ:=hide (HW9.out.madeAt bz hlt (Nat.le_refl _));have HLN:Hid ((l++[(⟨true,K,false,⟨0,0,0,0,0⟩⟩:PT)]).length=k+1):=hide (by simp [HL.out]);have HAN:Hid (∀y∈l++[(⟨true,K,false,⟨0,0,0,0,0⟩⟩:PT)],ptOk y=true):=hide (by
      intro y hy;rcases List.mem_append.1 hy with hy | hy
      ·exact HA.out y hy
      ·have e:y=_:=List.mem_singleton.1 hy;subst e;unfold ptOk
       simp only
       rw [HK.out]
       rfl)
     clear oz gz bz o9 hbase9 d0 d1 d2 d3 d4 d5 d6 d7;go_wp2
     go_roundw
     case rel=>exact ⟨k+1,ao',cap',_,by omega,by go_num,rfl,HLN.out,HAN.out,HO.out,HWZ.out⟩
     case measure=>simp [intOf]; omega
   ·(go_upto_region 6 with fail);generalize hw5:w4.alloc (.cells #[.bool false,.int .i64 K,.bool false,.int .i64 0,.int .i64 0,.int .i64 0,.int .i64 0,.int .i64 0] 113)=w5;have b5:=zb hw5;have kX:=zk hw5;have o5:=zo o4 b5;have wn5:=wn4.made b5;obtain ⟨e0,e1,e2,e3,e4,e5,e6,e7⟩:=zcr kX;clear o4 wn4 b5;(go_upto_region 9 with fail);clear e0 e1 e2 e3 e4 e5 e6 e7 hw5;have HCS:Hid (#[Value.bool false,.int .i64 K,.bool false,.int .i64 0,.int .i64 0,.int .i64 0,.int .i64 0,.int .i64 0].toList=ptF.cs ⟨false,K,false,⟨0,0,0,0,0⟩⟩):=hide rfl;obtain ⟨d0,d1,d2,d3,d4,d5,d6,d7⟩:=zcr kX;have o9:=zo o5 (zh w5 (.cells #[.bool false,.int .i64 K,.bool false,.int .i64 0,.int .i64 0,.int .i64 0,.int .i64 0,.int .i64 0] 113));have hbase9:w.heap.size≤(w5.alloc (.cells #[.bool false,.int .i64 K,.bool false,.int .i64 0,.int .i64 0,.int .i64 0,.int .i64 0,.int .i64 0] 113)).heap.size:=by have:=wn5.grown.size; simp; omega
    have HW9:Hid (Went w (w5.alloc (.cells #[.bool false,.int .i64 K,.bool false,.int .i64 0,.int .i64 0,.int .i64 0,.int .i64 0,.int .i64 0] 113)) C a0 l0 c0 z0):=hide (wn5.made (zh w5 _));go_wp2_with (at_builtin; refine zcg _ rfl _ _ rfl w.heap.size _ k l rfl o9 _ 1 1 [⟨false,K,false,⟨0,0,0,0,0⟩⟩] rfl (zaz ptF _ _ _ _ HCS.out) (by omega) hbase9 ?_)
    rintro ao' cap' wz oz - gz bz;have HO:=hide oz;have HWZ:=hide (HW9.out.madeAt bz hlt (Nat.le_refl _));have HLN:Hid ((l++[(⟨false,K,false,⟨0,0,0,0,0⟩⟩:PT)]).length=k+1):=hide (by simp [HL.out]);have HAN:Hid (∀y∈l++[(⟨false,K,false,⟨0,0,0,0,0⟩⟩:PT)],ptOk y=true):=hide (by
     intro y hy;rcases List.mem_append.1 hy with hy | hy
     ·exact HA.out y hy
     ·have e:y=_:=List.mem_singleton.1 hy;subst e;unfold ptOk
      simp only
      rw [HK.out]
      rfl)
    clear oz gz bz o9 hbase9 d0 d1 d2 d3 d4 d5 d6 d7;go_wp2
    go_roundw
    case rel=>exact ⟨k+1,ao',cap',_,by omega,by go_num,rfl,HLN.out,HAN.out,HO.out,HWZ.out⟩
    case measure=>simp [intOf]; omega
  ·have hkm:k=m:=by omega
   subst hkm;go_wp2;go_ret;exact ⟨ao,cap,l,rfl,HL.out,HA.out,o2,wn2⟩

def zeE (N:Nat):Value→Bool
 | .string S=>decide (S.size≤N)
 | _=>false
def strOk (v:Value):Bool:=zeE 30 v

theorem zgJ {N:Nat} {v:Value} (h:zeE N v=true):∃S:ByteArray,v=.string S∧S.size≤N:=by
 cases v with
 | string S=>exact ⟨S,rfl,of_decide_eq_true h⟩
 | _=>cases h

theorem zgB (N:Nat) (C:Nat) (a0:Option Addr) (l0 c0:Nat) (z0:List Int) (cs:Array Value) (B n:Nat) (w:World) (hc:Cur w C a0 l0 c0 z0) (hB:B=w.heap.size) (hn:cs.size=n) (hall:cs.all (zeE N)=true) (hn0:0 < n) (hn1:n≤1000) :
  Calls Tryz.prog 106 #[.pointer (some ⟨C,0,none⟩),.slice (some ⟨B,0,none⟩) n n] (w.alloc (.cells cs 9)) fun e w'=>∃S:ByteArray,S.size≤N∧e=.returned (.string S)∧Went w w' C a0 l0 c0 z0:=by
 subst hB;have hb:Below w.heap.size w (w.alloc (.cells cs 9)):=(Below.refl _ _).alloc (Nat.le_refl _) _;have hst:=Went.start hc hb;have hlt:=hc.lt;have hcell:∀j,j < n→∃S:ByteArray,(w.alloc (.cells cs 9)).cell? ⟨w.heap.size,j,none⟩=some (.string S)∧S.size≤N:=by
  intro j hj;have hj':j < cs.size:=by omega
  have h1:zeE N cs[j]=true:=(Array.all_eq_true.1 hall) j hj';obtain ⟨S,e,hS⟩:=zgJ h1;refine ⟨S, ?_,hS⟩
  have:(w.alloc (.cells cs 9)).cell? ⟨w.heap.size,j,none⟩=cs[j]? := by simp
  rw [this,Array.getElem?_eq_getElem hj',e]
 have HC:=hide hcell;clear hcell hall;generalize w.alloc (.cells cs 9)=w1 at *;go_enter Tryz.func106,Tryz.ntmps106;go_wp2_with fail
 refine (zL C a0 l0 c0 z0 n _ hst.cur (by omega)).mono ?_;rintro e w2 ⟨x,rfl,hx0,hx1,hx2,went⟩;have hx1:=hx1 (by omega);obtain ⟨j,rfl⟩:∃j:Nat,x=j:=⟨x.toNat,by omega⟩;obtain ⟨S,hS,hSs⟩:=HC.out j (by omega);have cx:w2.cell? ⟨w.heap.size,j,none⟩=some (.string S):=went.grown.cell hS (by intro e; simp at e; omega);clear hS;go_wp2;go_ret;exact ⟨S,hSs,rfl,hst.trans went⟩

theorem zi1 {e:FE} (h:entOk e=true):e.Rng:=by
 rw [zdw] at h;exact ⟨by omega,by omega,by omega,by omega⟩

end Go.Proofs.YtcpdkcdfnpcemaaGreat
