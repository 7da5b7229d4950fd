/-
  Packed: PtRoleI VlanRow VlanBits BindD MibMath OidMath ChgMath GTake BindMem BindOwn BindApp.
-/
import Derived.Test.YtcpdkcdfnpcemaaGreatPRK03
import Derived.Below
namespace Go.Proofs.YtcpdkcdfnpcemaaGreat
set_option maxRecDepth 100000
set_option maxHeartbeats 16000000
open Go.RowKit

theorem zcv (id:Int) (a:Option Addr) (n c:Nat) (l:List PT) (port:Int) (w:World) (h:GRow ptF w a n c l) :
  Calls Tryz.prog 270 #[.int .i64 id,.slice a n c,.int .i64 port] w fun e w'=>e=.returned (.agg #[.int .i64 (sayV id l port).r,.int .i64 (sayV id l port).c,.int .i64 (sayV id l port).h,.int .i64 (sayV id l port).b,.int .i64 (sayV id l port).p])∧Below w.heap.size w w':=by
 generalize hw1:w.alloc (Obj.cells #[.int .i64 0,.int .i64 0,.int .i64 0,.int .i64 0,.int .i64 0] 111)=w1;have q1:=zb hw1;have k1:=zk hw1;have hsb:(sayV id l port)=⟨(bestV id (zK id l)).r,(bestV id (zK id l)).c,(bestV id (zK id l)).h,(bestV id (zK id l)).b,port⟩:=by
  unfold sayV;cases zK id l <;> rfl
 rw [hsb];clear hsb;go_enter Tryz.func270,Tryz.ntmps270;go_wp2_with fail
 refine (zbD id a n c l _ (h.below q1)).mono ?_;rintro e w2 ⟨rfl,hb2⟩;generalize hv:bestV id (zK id l)=v;have HV:=hide hv;clear hv;generalize hw3:w2.alloc (Obj.cells #[.int .i64 v.r,.int .i64 v.c,.int .i64 v.h,.int .i64 v.b,.int .i64 v.p] 111)=w3;have hb3:=zb hw3;have k3:=zk hw3;have k1:=ze (ze k1 hb2) hb3;have lt1:=(Array.getElem?_eq_some_iff.1 (ze (by rw [← hw1]; exact zv _ _:w1.heap[w.heap.size]? = some (.cells #[.int .i64 0,.int .i64 0,.int .i64 0,.int .i64 0,.int .i64 0] 111)) hb2)).1;have ne1:¬w2.heap.size=w.heap.size:=by omega
 have ne2:¬w.heap.size=w2.heap.size:=by omega
 have HB:=hide (zZ (zg (zd (zd q1 hb2) hb3) (g:=w2.heap.size) (by omega) 4 (.int .i64 port)) (Nat.le_refl w.heap.size) (.int .i64 v.r) (.int .i64 v.c) (.int .i64 v.h) (.int .i64 v.b) (.int .i64 port));obtain ⟨⟨x0,x1,x2,x3,x4⟩,y0,y1,y2,y3,y4⟩:=zt k3;obtain ⟨⟨r0,r1,r2,r3,r4⟩,z0,z1,z2,z3,z4⟩:=zt k1;clear hb2 hb3 k1 k3 q1 lt1;go_wp2;exact bodyPost_ret (v:=.agg #[.int .i64 v.r,.int .i64 v.c,.int .i64 v.h,.int .i64 v.b,.int .i64 port]) (by simp [results,Tryz.results270,go_sem, *]) rfl ⟨(by rw [HV.out]),HB.out⟩

theorem ze1 (id:Int) (a:Option Addr) (n c:Nat) (l:List PT) (port:Int) (w:World) (h:GRow ptF w a n c l) :
  Calls Tryz.prog 221 #[.int .i64 id,.slice a n c,.int .i64 port] w fun e w'=>e=.returned (.int .i64 (zaC id l port))∧Below w.heap.size w w':=by
 have hle:=h.le;have htop:=h.top;unfold maxLen at htop;have hsz:=hide h.size;cases hin:(decide (0≤port) && decide (port≤(n:Int) - 1))
 ·have HIN:=hide hin;have HR:Hid (zaC id l port=4):=hide (by unfold zaC; rw [hsz.out,hin]; rfl);clear hin;go_enter Tryz.func221,Tryz.ntmps221;(go_wp2_with fail);refine (zab port 0 ((n:Int) - 1) _).mono ?_;rintro e w1 ⟨rfl,ew⟩;obtain rfl:=ew.symm;rw [HIN.out];go_wp2;go_ret;exact ⟨(by rw [HR.out]; rfl),Below.refl _ _⟩
 obtain ⟨k,rfl⟩:∃k:Nat,port=(k:Int):=⟨port.toNat,by simp at hin; omega⟩;have hlt:k < n:=by simp at hin; omega
 have HIN:=hide hin;have i1:(0:Int)≤(k:Int):=by omega
 have i2:(k:Int) < (n:Int):=by omega
 obtain ⟨x,b,off,hx,rfl,c0,c1,c2,c3,c4,c5,c6,c7⟩:=pt_at h k hlt;have hro:zaC id l (k:Int)=zcS id l k x:=by
  unfold zaC;rw [hsz.out,hin]
  simp [hx]
 have HRO:=hide hro;clear hin hro;cases hu:x.up
 ·rw [hu] at c0;have HR:Hid (zaC id l (k:Int)=4):=hide (by rw [HRO.out]; unfold zcS; rw [if_pos hu]);clear hu c1 c2 c3 c4 c5 c6 c7 hx;go_enter Tryz.func221,Tryz.ntmps221;(go_wp2_with fail);refine (zab (k:Int) 0 ((n:Int) - 1) _).mono ?_;rintro e w1 ⟨rfl,ew⟩;obtain rfl:=ew.symm;rw [HIN.out];go_wp2;go_ret;exact ⟨(by rw [HR.out]; rfl),Below.refl _ _⟩
 rw [hu] at c0;have HU:=hide hu;clear hu;by_cases hp:bestP (zK id l)=(k:Int)
 ·have HR:Hid (zaC id l (k:Int)=1):=hide (by rw [HRO.out]; unfold zcS; rw [if_neg (by rw [HU.out]; decide),if_pos hp]);have HP:=hide hp;clear c1 c2 c3 c4 c5 c6 c7 hx hp;go_enter Tryz.func221,Tryz.ntmps221;(go_wp2_with fail);refine (zab (k:Int) 0 ((n:Int) - 1) _).mono ?_;rintro e w1 ⟨rfl,ew⟩;obtain rfl:=ew.symm;rw [HIN.out];(go_wp2_with fail);refine (zbD id (some ⟨b,off,none⟩) n c l _ h).mono ?_;rintro e w2 ⟨rfl,hb2⟩;rw [HP.out];have HB:=hide (zd hb2 (zh _ (Obj.cells #[.int .i64 (bestV id (zK id l)).r,.int .i64 (bestV id (zK id l)).c,.int .i64 (bestV id (zK id l)).h,.int .i64 (bestV id (zK id l)).b,.int .i64 (bestV id (zK id l)).p] 111)));clear hb2 c0;go_wp2;go_ret;exact ⟨(by rw [HR.out]; rfl),HB.out⟩
 go_enter Tryz.func221,Tryz.ntmps221;go_wp2_with fail
 refine (zab (k:Int) 0 ((n:Int) - 1) _).mono ?_;rintro e w1 ⟨rfl,ew⟩;obtain rfl:=ew.symm;rw [HIN.out];go_wp2_with fail
 refine (zbD id (some ⟨b,off,none⟩) n c l _ h).mono ?_;rintro e w2 ⟨rfl,hb2⟩;generalize hw3:w2.alloc (Obj.cells #[.int .i64 (bestV id (zK id l)).r,.int .i64 (bestV id (zK id l)).c,.int .i64 (bestV id (zK id l)).h,.int .i64 (bestV id (zK id l)).b,.int .i64 (bestV id (zK id l)).p] 111)=w3;have HB:Hid (Below w.heap.size w w3):=hide (zd hb2 (by rw [← hw3]; exact zh _ _));clear hb2 c0 c1 c2 c3 c4 c5 c6 c7;obtain ⟨x',b',off',hx',ha',c0,c1,c2,c3,c4,c5,c6,c7⟩:=pt_at (h.below HB.out) k hlt;rw [hx] at hx';cases hx';cases ha';generalize hP:bestP (zK id l)=P at *;have hPne:((k:Int) == P)=false:=by simp; exact fun e=>hp e.symm
 have HX:=hide hx;have vv:Below w3.heap.size w3 w3.drew:=zr (Below.refl _ _);have HR0:Hid (zaC id l (k:Int)=(if (!x.has || lessV (sayV id l (k:Int)) x.v)=true then 2 else 3)):=hide (by rw [HRO.out]; unfold zcS; rw [if_neg (by rw [HU.out]; decide),hP,if_neg hp]);clear c0 c1 hx hP;cases hh:x.has
 ·rw [hh] at c2;have HR:Hid (zaC id l (k:Int)=2):=hide (by rw [HR0.out,hh]; rfl);have HSS:Hid (∀W',Below w3.heap.size w3 W'→zcc W' b (off+k*8+2) (.bool false)∧zcc W' b (off+k*8+3) (.int .i64 x.v.r)∧zcc W' b (off+k*8+4) (.int .i64 x.v.c)∧zcc W' b (off+k*8+5) (.int .i64 x.v.h)∧zcc W' b (off+k*8+6) (.int .i64 x.v.b)∧zcc W' b (off+k*8+7) (.int .i64 x.v.p)):=hide (fun W' hb=>⟨(hb.cell (zu c2)).trans c2,(hb.cell (zu c3)).trans c3,(hb.cell (zu c4)).trans c4,(hb.cell (zu c5)).trans c5,(hb.cell (zu c6)).trans c6,(hb.cell (zu c7)).trans c7⟩);clear c2 c3 c4 c5 c6 c7 hh;(go_wp2_with fail);refine wp_region_held_drew (S:=(fun W=>zcc W b (off+k*8+2) (.bool false)∧zcc W b (off+k*8+3) (.int .i64 x.v.r)∧zcc W b (off+k*8+4) (.int .i64 x.v.c)∧zcc W b (off+k*8+5) (.int .i64 x.v.h)∧zcc W b (off+k*8+6) (.int .i64 x.v.b)∧zcc W b (off+k*8+7) (.int .i64 x.v.p))) (by kernel_rfl) (HSS.out _ vv) (fun hHeld => ?_);refine kK 0 ?_;refine kK 1 ?_;refine kK 2 ?_;refine kK 3 ?_;refine kK 4 ?_;refine kK 5 ?_;refine kK 6 ?_;refine kN 7 ?_;refine kN 8 ?_;refine kN 9 ?_;refine kN 10 ?_;refine kN 11 ?_;refine kN 12 ?_;refine kN 13 ?_;refine kN 14 ?_;refine kN 15 ?_;refine kN 16 ?_;refine kK 17 ?_;refine wpAnyH_done (by kernel_rfl) ?_ _;clear hHeld;go_wp2;go_ret;exact ⟨(by rw [HR.out]; rfl),zd HB.out vv⟩
 ·rw [hh] at c2;have HSS:Hid (∀W',Below w3.heap.size w3 W'→zcc W' b (off+k*8+2) (.bool true)∧zcc W' b (off+k*8+3) (.int .i64 x.v.r)∧zcc W' b (off+k*8+4) (.int .i64 x.v.c)∧zcc W' b (off+k*8+5) (.int .i64 x.v.h)∧zcc W' b (off+k*8+6) (.int .i64 x.v.b)∧zcc W' b (off+k*8+7) (.int .i64 x.v.p)):=hide (fun W' hb=>⟨(hb.cell (zu c2)).trans c2,(hb.cell (zu c3)).trans c3,(hb.cell (zu c4)).trans c4,(hb.cell (zu c5)).trans c5,(hb.cell (zu c6)).trans c6,(hb.cell (zu c7)).trans c7⟩);clear c2 c3 c4 c5 c6 c7;cases hl:lessV (sayV id l (k:Int)) x.v
  ·have HR:Hid (zaC id l (k:Int)=3):=hide (by rw [HR0.out,hh,hl]; rfl);have HL:Hid (zaM (sayV id l (k:Int)).r (sayV id l (k:Int)).c (sayV id l (k:Int)).b (sayV id l (k:Int)).p x.v.r x.v.c x.v.b x.v.p=false):=hide hl;clear hh hl;(go_wp2_with fail);refine wp_region_held_drew (S:=(fun W=>zcc W b (off+k*8+2) (.bool true)∧zcc W b (off+k*8+3) (.int .i64 x.v.r)∧zcc W b (off+k*8+4) (.int .i64 x.v.c)∧zcc W b (off+k*8+5) (.int .i64 x.v.h)∧zcc W b (off+k*8+6) (.int .i64 x.v.b)∧zcc W b (off+k*8+7) (.int .i64 x.v.p))) (by kernel_rfl) (HSS.out _ vv) (fun hHeld => ?_);refine kK 0 ?_;refine kK 1 ?_;refine kK 2 ?_;refine kK 3 ?_;refine kK 4 ?_;refine kK 5 ?_;refine kK 6 ?_;refine kK 7 ?_;refine kK 8 ?_;refine kK 9 ?_;refine kK 11 ?_;refine kK 12 ?_;refine kK 13 ?_;refine kK 14 ?_;refine kK 15 ?_;refine kR 10 fun K hK => ?_
   go_simp;refine (zcv id (some ⟨b,off,none⟩) n c l (k:Int) _ (h.below (zd HB.out vv))).mono ?_;rintro e wx ⟨rfl,hbx⟩;have vv:=zd vv hbx;clear hbx;(go_wp2_with fail);refine kO hK (HSS.out _ vv) fun hHeld => ?_
   clear hK K;refine kR 16 fun K hK => ?_
   go_simp;refine (zba (sayV id l (k:Int)).r (sayV id l (k:Int)).c (sayV id l (k:Int)).h (sayV id l (k:Int)).b (sayV id l (k:Int)).p x.v.r x.v.c x.v.h x.v.b x.v.p _).mono ?_;rintro e wx ⟨rfl,hbx⟩;rw [HL.out];have vv:=zd vv hbx;clear hbx;(go_wp2_with fail);refine kO hK (HSS.out _ vv) fun hHeld => ?_
   clear hK K;refine kK 17 ?_;refine wpAnyH_done (by kernel_rfl) ?_ _;clear hHeld;go_wp2;go_ret;exact ⟨(by rw [HR.out]; rfl),zd HB.out vv⟩
  ·have HR:Hid (zaC id l (k:Int)=2):=hide (by rw [HR0.out,hh,hl]; rfl);have HL:Hid (zaM (sayV id l (k:Int)).r (sayV id l (k:Int)).c (sayV id l (k:Int)).b (sayV id l (k:Int)).p x.v.r x.v.c x.v.b x.v.p=true):=hide hl;clear hh hl;(go_wp2_with fail);refine wp_region_held_drew (S:=(fun W=>zcc W b (off+k*8+2) (.bool true)∧zcc W b (off+k*8+3) (.int .i64 x.v.r)∧zcc W b (off+k*8+4) (.int .i64 x.v.c)∧zcc W b (off+k*8+5) (.int .i64 x.v.h)∧zcc W b (off+k*8+6) (.int .i64 x.v.b)∧zcc W b (off+k*8+7) (.int .i64 x.v.p))) (by kernel_rfl) (HSS.out _ vv) (fun hHeld => ?_);refine kK 0 ?_;refine kK 1 ?_;refine kK 2 ?_;refine kK 3 ?_;refine kK 4 ?_;refine kK 5 ?_;refine kK 6 ?_;refine kK 7 ?_;refine kK 8 ?_;refine kK 9 ?_;refine kK 11 ?_;refine kK 12 ?_;refine kK 13 ?_;refine kK 14 ?_;refine kK 15 ?_;refine kR 10 fun K hK => ?_
   go_simp;refine (zcv id (some ⟨b,off,none⟩) n c l (k:Int) _ (h.below (zd HB.out vv))).mono ?_;rintro e wx ⟨rfl,hbx⟩;have vv:=zd vv hbx;clear hbx;(go_wp2_with fail);refine kO hK (HSS.out _ vv) fun hHeld => ?_
   clear hK K;refine kR 16 fun K hK => ?_
   go_simp;refine (zba (sayV id l (k:Int)).r (sayV id l (k:Int)).c (sayV id l (k:Int)).h (sayV id l (k:Int)).b (sayV id l (k:Int)).p x.v.r x.v.c x.v.h x.v.b x.v.p _).mono ?_;rintro e wx ⟨rfl,hbx⟩;rw [HL.out];have vv:=zd vv hbx;clear hbx;(go_wp2_with fail);refine kO hK (HSS.out _ vv) fun hHeld => ?_
   clear hK K;refine kK 17 ?_;refine wpAnyH_done (by kernel_rfl) ?_ _;clear hHeld;go_wp2;go_ret;exact ⟨(by rw [HR.out]; rfl),zd HB.out vv⟩

theorem cell1 {w:World} {g:Nat} {T:TypeId} {v:Value} (h:w.heap[g]? = some (.cells #[v] T)):w.cell? ⟨g,0,none⟩=some v:=by simp [World.cell?,h]

theorem zcO (v:Value) (w:World):(method 434 119 v "loop.example/g00326/impl.number").run Tryz.prog w=.ok (316,v) w:=by kernel_rfl

theorem zat (r:VR) (w:World):Calls Tryz.prog 316 #[.agg #[.int .i64 r.i,.int .i64 r.m,.int .i64 r.b]] w fun e w'=>e=.returned (.int .i64 r.i)∧Below w.heap.size w w':=by
 go_enter Tryz.func316,Tryz.ntmps316;go_wp2;go_ret;exact ⟨rfl,zh _ _⟩

theorem zaX (a:Option Addr) (n c:Nat) (o:Option Addr) (p q:Nat) (w:World):Calls Tryz.prog 143 #[.agg #[.slice a n c,.slice o p q]] w fun e w'=>e=.returned (.slice a n c)∧Below w.heap.size w w':=by
 go_enter Tryz.func143,Tryz.ntmps143;go_wp2;go_ret;exact ⟨rfl,zh _ _⟩

theorem zcu (r:VR) (id:Int) (g:Nat) (w:World) (c:w.heap[g]? = some (.cells #[.int .i64 id] 3)) :
  Calls Tryz.prog 256 #[.agg #[.int .i64 r.i,.int .i64 r.m,.int .i64 r.b],.pointer (some ⟨g,0,none⟩)] w fun e w'=>e=.returned (.bool (r.i == id))∧Below w.heap.size w w':=by
 have hm:=zcO;generalize hw1:w.alloc (Obj.cells #[.int .i64 r.i,.int .i64 r.m,.int .i64 r.b] 119)=w1;have q:=zb hw1;have k0:=zk hw1;have HS:Hid (∀W,Below w1.heap.size w1 W→(zcc W w.heap.size 0 (.int .i64 r.i)∧zcc W w.heap.size 1 (.int .i64 r.m)∧zcc W w.heap.size 2 (.int .i64 r.b))∧zcc W g 0 (.int .i64 id)):=hide (fun W hW=>⟨(zas (ze k0 hW)).1,cell1 (ze (ze c q) hW)⟩);clear k0;have vv:Below w1.heap.size w1 w1.drew:=zr (Below.refl _ _);go_enter Tryz.func256,Tryz.ntmps256;go_wp2_with fail
 refine wp_region_held_drew (S:=(fun W=>(zcc W w.heap.size 0 (.int .i64 r.i)∧zcc W w.heap.size 1 (.int .i64 r.m)∧zcc W w.heap.size 2 (.int .i64 r.b))∧zcc W g 0 (.int .i64 id))) (by kernel_rfl) (HS.out _ vv) (fun hHeld => ?_);refine kK 0 ?_;refine kK 1 ?_;refine kK 3 ?_;refine kR 2 fun K hK => ?_
 go_simp;refine (zat r _).mono ?_;rintro e wz ⟨rfl,hbz⟩;have vv:=zd vv hbz;go_wp2_with fail
 refine kO hK (HS.out _ vv) fun hHeld => ?_
 clear hK K;refine kK 4 ?_;refine kK 5 ?_;refine wpAnyH_done (by kernel_rfl) ?_ _;have HB:=hide (zd q vv);clear HS vv q;go_wp2;go_ret;exact ⟨rfl,HB.out⟩

theorem za1 (r:VR) (id:Int) (g:Nat) (w:World) (c:w.heap[g]? = some (.cells #[.int .i64 id] 3)) :
  Calls Tryz.prog 296 #[.agg #[.int .i64 r.i,.int .i64 r.m,.int .i64 r.b],.pointer (some ⟨g,0,none⟩)] w fun e w'=>e=.returned (.bool (r.i == id))∧Below w.heap.size w w':=by
 have hm:=zcO;generalize hw1:w.alloc (Obj.cells #[.int .i64 r.i,.int .i64 r.m,.int .i64 r.b] 119)=w1;have q:=zb hw1;have k0:=zk hw1;have HS:Hid (∀W,Below w1.heap.size w1 W→(zcc W w.heap.size 0 (.int .i64 r.i)∧zcc W w.heap.size 1 (.int .i64 r.m)∧zcc W w.heap.size 2 (.int .i64 r.b))∧zcc W g 0 (.int .i64 id)):=hide (fun W hW=>⟨(zas (ze k0 hW)).1,cell1 (ze (ze c q) hW)⟩);clear k0;have vv:Below w1.heap.size w1 w1.drew:=zr (Below.refl _ _);go_enter Tryz.func296,Tryz.ntmps296;go_wp2_with fail
 refine wp_region_held_drew (S:=(fun W=>(zcc W w.heap.size 0 (.int .i64 r.i)∧zcc W w.heap.size 1 (.int .i64 r.m)∧zcc W w.heap.size 2 (.int .i64 r.b))∧zcc W g 0 (.int .i64 id))) (by kernel_rfl) (HS.out _ vv) (fun hHeld => ?_);refine kK 0 ?_;refine kK 1 ?_;refine kK 3 ?_;refine kR 2 fun K hK => ?_
 go_simp;refine (zat r _).mono ?_;rintro e wz ⟨rfl,hbz⟩;have vv:=zd vv hbz;go_wp2_with fail
 refine kO hK (HS.out _ vv) fun hHeld => ?_
 clear hK K;refine kK 4 ?_;refine kK 5 ?_;refine wpAnyH_done (by kernel_rfl) ?_ _;have HB:=hide (zd q vv);clear HS vv q;go_wp2;go_ret;exact ⟨rfl,HB.out⟩

theorem zfi (a:Option Addr) (n c:Nat) (l:List VR) (id:Int) (g:Nat) (w:World) (h:GRow vrowF w a n c l) (cg:w.heap[g]? = some (.cells #[.int .i64 id] 3)) :
  Calls Tryz.prog 255 #[.slice a n c,.func (.func 256) #[] #[.pointer (some ⟨g,0,none⟩)]] w fun r w'=>r=.returned (.int .i64 (rowAt l id))∧Below w.heap.size w w':=by
 have hle:=h.le;have htop:=h.top;unfold maxLen at htop;have hsz:=h.size;go_enter Tryz.func255,Tryz.ntmps255;go_wp2
 go_loopw [8] (fun i wr=>∃k:Nat,k≤n∧i=.int .i64 k∧(∀(j:Nat) (y:VR),j < k→l[j]? = some y→(y.i == id)=false)∧Below w.heap.size w wr) (fun i _=>n - (intOf i).toNat)
 case atStart=>exact ⟨0,Nat.zero_le _,rfl,fun j y hj=>by omega,Below.refl _ _⟩
 case round =>
  obtain ⟨k,hk,rfl,hno,hb⟩:=hrel;by_cases hlt:k < n
  ·obtain ⟨x,b,off,hx,rfl,c0,c1,c2⟩:=zaI (h.below hb) k hlt;cases t1:(x.i == id)
   ·have HO:=hide (zeF hno hx t1);have HA:=hide t1;have HB:=hide hb;clear t1 hno hb hx;(go_wp2_with fail);refine (zcu x id g _ (ze cg HB.out)).mono ?_;rintro r w1 ⟨rfl,hb1⟩;rw [HA.out];have HB1:=hide (zd HB.out hb1);clear hb1 c0 c1 c2;go_wp2
    go_roundw
    case rel=>exact ⟨k+1,by omega,by go_num,HO.out,HB1.out⟩
    case measure=>simp [intOf]; omega
   ·have HF:=hide (zcE hno hx t1);have HA:=hide t1;have HB:=hide hb;clear t1 hno hb hx;(go_wp2_with fail);refine (zcu x id g _ (ze cg HB.out)).mono ?_;rintro r w1 ⟨rfl,hb1⟩;rw [HA.out];have HB1:=hide (zd HB.out hb1);clear hb1 c0 c1 c2;go_wp2;go_ret;exact ⟨(by rw [HF.out]; rfl),HB1.out⟩
  ·have hkn:k=n:=by omega
   have HF:=hide (zc1 (l:=l) (id:=id) (fun i y hy=>hno i y (by have:=(List.getElem?_eq_some_iff.1 hy).1; omega) hy));have HB:=hide hb;clear hno hb;subst hkn;go_wp2;go_ret;exact ⟨(by rw [HF.out]; rfl),HB.out⟩

theorem zeB (a:Option Addr) (n c:Nat) (l:List VR) (id:Int) (g:Nat) (w:World) (h:GRow vrowF w a n c l) (cg:w.heap[g]? = some (.cells #[.int .i64 id] 3)) :
  Calls Tryz.prog 255 #[.slice a n c,.func (.func 296) #[] #[.pointer (some ⟨g,0,none⟩)]] w fun r w'=>r=.returned (.int .i64 (rowAt l id))∧Below w.heap.size w w':=by
 have hle:=h.le;have htop:=h.top;unfold maxLen at htop;have hsz:=h.size;go_enter Tryz.func255,Tryz.ntmps255;go_wp2
 go_loopw [8] (fun i wr=>∃k:Nat,k≤n∧i=.int .i64 k∧(∀(j:Nat) (y:VR),j < k→l[j]? = some y→(y.i == id)=false)∧Below w.heap.size w wr) (fun i _=>n - (intOf i).toNat)
 case atStart=>exact ⟨0,Nat.zero_le _,rfl,fun j y hj=>by omega,Below.refl _ _⟩
 case round =>
  obtain ⟨k,hk,rfl,hno,hb⟩:=hrel;by_cases hlt:k < n
  ·obtain ⟨x,b,off,hx,rfl,c0,c1,c2⟩:=zaI (h.below hb) k hlt;cases t1:(x.i == id)
   ·have HO:=hide (zeF hno hx t1);have HA:=hide t1;have HB:=hide hb;clear t1 hno hb hx;(go_wp2_with fail);refine (za1 x id g _ (ze cg HB.out)).mono ?_;rintro r w1 ⟨rfl,hb1⟩;rw [HA.out];have HB1:=hide (zd HB.out hb1);clear hb1 c0 c1 c2;go_wp2
    go_roundw
    case rel=>exact ⟨k+1,by omega,by go_num,HO.out,HB1.out⟩
    case measure=>simp [intOf]; omega
   ·have HF:=hide (zcE hno hx t1);have HA:=hide t1;have HB:=hide hb;clear t1 hno hb hx;(go_wp2_with fail);refine (za1 x id g _ (ze cg HB.out)).mono ?_;rintro r w1 ⟨rfl,hb1⟩;rw [HA.out];have HB1:=hide (zd HB.out hb1);clear hb1 c0 c1 c2;go_wp2;go_ret;exact ⟨(by rw [HF.out]; rfl),HB1.out⟩
  ·have hkn:k=n:=by omega
   have HF:=hide (zc1 (l:=l) (id:=id) (fun i y hy=>hno i y (by have:=(List.getElem?_eq_some_iff.1 hy).1; omega) hy));have HB:=hide hb;clear hno hb;subst hkn;go_wp2;go_ret;exact ⟨(by rw [HF.out]; rfl),HB.out⟩

theorem zer (a:Option Addr) (n c:Nat) (l:List VR) (id:Int) (w:World) (h:GRow vrowF w a n c l) :
  Calls Tryz.prog 207 #[.slice a n c,.int .i64 id] w fun r w'=>r=.returned (.int .i64 (rowAt l id))∧Below w.heap.size w w':=by
 have hmf:∀(fn:Fn) (first cap:Array Value) (w:World),(Instr.makeFunc fn first cap).run Tryz.prog w=.ok (.func fn first cap) w:=fun _ _ _ _=>rfl
 have q:=zh w (.cells #[.int .i64 id] 3);go_enter Tryz.func207,Tryz.ntmps207;go_wp2_with fail
 refine (zfi a n c l id _ _ (h.below q) (zv w _)).mono ?_;rintro r w1 ⟨rfl,hb1⟩;have HB:=hide (zd q hb1);clear hb1 q;go_wp2;go_ret;exact ⟨rfl,HB.out⟩

theorem zaE (a:Option Addr) (n c:Nat) (l:List VR) (o:Option Addr) (p q:Nat) (id:Int) (w:World) (h:GRow vrowF w a n c l) :
  Calls Tryz.prog 146 #[.agg #[.slice a n c,.slice o p q],.int .i64 id] w fun r w'=>r=.returned (.int .i64 (rowAt l id))∧Below w.heap.size w w':=by
 have q0:=zh w (.cells #[.slice a n c,.slice o p q] 29);go_enter Tryz.func146,Tryz.ntmps146;go_wp2_with fail
 refine (zaX a n c o p q _).mono ?_;rintro r w1 ⟨rfl,hb1⟩;have q1:=zd q0 hb1;clear hb1;go_wp2_with fail
 refine (zer a n c l id _ (h.below q1)).mono ?_;rintro r w2 ⟨rfl,hb2⟩;have HB:=hide (zd q1 hb2);clear hb2 q1 q0;go_wp2;go_ret;exact ⟨rfl,HB.out⟩

def I64 (x:Int):Prop := -9223372036854775808≤x∧x≤9223372036854775807

def VR.Rng (r:VR):Prop:=I64 r.i∧I64 r.m∧I64 r.b

theorem bv_of (x:Int):(BitVec.ofInt 64 x).toNat=(x % 18446744073709551616).toNat:=by
 rw [BitVec.toNat_ofInt]
 rfl

theorem zh1 (x:BitVec 64):IntKind.i64.wrap (x.toNat:Int)=x.toInt:=by
 have:=x.isLt
 rw [IntKind.wrap_i64,BitVec.toInt_eq_toNat_cond]
 split <;> omega

theorem zem (a b:Int):bits .and .i64 a b=(BitVec.ofInt 64 a &&& BitVec.ofInt 64 b).toInt:=by
 rw [← zh1]
 rfl
theorem zfx (a b:Int):bits .andNot .i64 a b=(BitVec.ofInt 64 a &&& ~~~(BitVec.ofInt 64 b)).toInt:=by
 rw [← zh1]
 rfl

theorem zgN {x:BitVec 64}:x.toInt=0↔x=0#64:=by
 rw [← BitVec.toInt_inj]
 simp

theorem zcW (x:Int) (h:I64 x):(BitVec.ofInt 64 x).toInt=x:=by
 unfold I64 at h;rw [BitVec.toInt_ofInt];rw [Int.bmod_def];omega

theorem zd9 (b m:Int) (hb:I64 b):(bits .andNot .i64 b m == 0)=(bits .and .i64 b m == b):=by
 rw [zem,zfx];have key:(BitVec.ofInt 64 b &&& ~~~(BitVec.ofInt 64 m))=0#64↔(BitVec.ofInt 64 b &&& BitVec.ofInt 64 m)=BitVec.ofInt 64 b:=by
  constructor
  ·intro h
   apply BitVec.eq_of_getLsbD_eq
   intro i hi
   have:=congrArg (fun z=>z.getLsbD i) h
   simp only [BitVec.getLsbD_and,BitVec.getLsbD_not,hi,decide_true,Bool.true_and,BitVec.getLsbD_zero] at this;simp only [BitVec.getLsbD_and];cases h1:(BitVec.ofInt 64 b).getLsbD i <;> cases h2:(BitVec.ofInt 64 m).getLsbD i <;> simp_all
  ·intro h
   apply BitVec.eq_of_getLsbD_eq
   intro i hi
   have:=congrArg (fun z=>z.getLsbD i) h
   simp only [BitVec.getLsbD_and] at this;simp only [BitVec.getLsbD_and,BitVec.getLsbD_not,hi,decide_true,Bool.true_and,BitVec.getLsbD_zero];cases h1:(BitVec.ofInt 64 b).getLsbD i <;> cases h2:(BitVec.ofInt 64 m).getLsbD i <;> simp_all
 have e2:((BitVec.ofInt 64 b &&& BitVec.ofInt 64 m).toInt=b)↔(BitVec.ofInt 64 b &&& BitVec.ofInt 64 m)=BitVec.ofInt 64 b:=by
  constructor
  ·intro h
   apply BitVec.toInt_inj.1
   rw [h,zcW b hb]
  ·intro h;rw [h,zcW b hb]
 have e1:=zgN (x:=BitVec.ofInt 64 b &&& ~~~(BitVec.ofInt 64 m));rw [Bool.eq_iff_iff];simp only [beq_iff_eq];rw [e1,key,e2]

theorem zi5 (p:Nat) (hp:p≤6):(BitVec.ofInt 64 (allOf p)).toNat=2 ^ p - 1:=by
 rcases (show p=0∨p=1∨p=2∨p=3∨p=4∨p=5∨p=6 by omega) with rfl | rfl | rfl | rfl | rfl | rfl | rfl <;> rfl

theorem zhC (p:Nat) (hp:p≤6):(2:Nat) ^ p≤64∧((2:Int) ^ p=((2 ^ p:Nat):Int))∧1≤(2:Nat) ^ p:=by
 rcases (show p=0∨p=1∨p=2∨p=3∨p=4∨p=5∨p=6 by omega) with rfl | rfl | rfl | rfl | rfl | rfl | rfl <;> exact ⟨by decide,rfl,by decide⟩

theorem zfw (m:Int) (p:Nat) (hm:I64 m) (hp:p≤6):(bits .andNot .i64 m (allOf p) == 0)=in3 m 0 (allOf p):=by
 rw [zd9 m _ hm,zem];have hn:(BitVec.ofInt 64 m &&& BitVec.ofInt 64 (allOf p)).toNat=(BitVec.ofInt 64 m).toNat % 2 ^ p:=by
  rw [BitVec.toNat_and,zi5 p hp,Nat.and_two_pow_sub_one_eq_mod]
 have e2:((BitVec.ofInt 64 m &&& BitVec.ofInt 64 (allOf p)).toInt=m)↔(BitVec.ofInt 64 m &&& BitVec.ofInt 64 (allOf p)).toNat=(BitVec.ofInt 64 m).toNat:=by
  constructor
  ·intro h
   have:(BitVec.ofInt 64 m &&& BitVec.ofInt 64 (allOf p))=BitVec.ofInt 64 m:=by
    apply BitVec.toInt_inj.1
    rw [h,zcW m hm]
   rw [this]
  ·intro h;rw [BitVec.eq_of_toNat_eq h,zcW m hm]
 rw [Bool.eq_iff_iff];simp only [beq_iff_eq];rw [e2,hn,bv_of m];obtain ⟨h64,hc,h1⟩:=zhC p hp;unfold in3 allOf;rw [hc];unfold I64 at hm;generalize (2:Nat) ^ p=q at *;simp only [Bool.and_eq_true,decide_eq_true_eq]
 constructor
 ·intro h
  have:(m % 18446744073709551616).toNat % q < q:=Nat.mod_lt _ (by omega)
  omega
 ·intro h;rw [Nat.mod_eq_of_lt (by omega)]

theorem zgR (b m:Int) (p:Nat) (hb:I64 b) (hp:p≤6) (hm:in3 m 0 (allOf p)=true) (h:(bits .and .i64 b m == b)=true):in3 b 0 (allOf p)=true:=by
 obtain ⟨h64,hc,h1⟩:=zhC p hp;unfold in3 allOf at hm ⊢;rw [hc] at hm ⊢;generalize (2:Nat) ^ p=q at *;simp only [Bool.and_eq_true,decide_eq_true_eq,beq_iff_eq] at *;have hmI:I64 m:=by unfold I64; omega
 rw [zem] at h;have e:(BitVec.ofInt 64 b &&& BitVec.ofInt 64 m)=BitVec.ofInt 64 b:=by
  apply BitVec.toInt_inj.1
  rw [h,zcW b hb]
 have e':=congrArg BitVec.toNat e;rw [BitVec.toNat_and,bv_of b,bv_of m] at e'
 have:(b % 18446744073709551616).toNat &&& (m % 18446744073709551616).toNat≤(m % 18446744073709551616).toNat:=Nat.and_le_right
 unfold I64 at hb;omega

theorem zhW (r:VR) (p:Nat) (hr:r.Rng) (hp:p≤6):(in3 r.i 1 99 && (bits .andNot .i64 r.m (allOf p) == 0) && (bits .andNot .i64 r.b r.m == 0))=zaY (allOf p) r:=by
 rw [zfw r.m p hr.2.1 hp,zd9 r.b r.m hr.2.2];unfold zaY;cases h1:in3 r.i 1 99
 ·rfl
 ·cases h2:in3 r.m 0 (allOf p)
  ·rfl
  ·cases h3:(bits .and .i64 r.b r.m == r.b)
   ·simp
   ·rw [zgR r.b r.m p hr.2.2 hp h2 h3]
    rfl

structure BD where
 o:List Int
 K:Int
 N:Int
 S:ByteArray
 z:List Int

def nmI (l:List Int):List Int:=1::3::1::l
def numD (l:List Int) (n:Int):BD:=⟨nmI l,2,n,⟨#[]⟩,[]⟩
def nameD (s:ByteArray):BD:=⟨nmI [1,1],4,0,s,[]⟩

def portW (B:BR) (c:Int) (p:Nat) (x:PT):Int:=if c=1 then (if x.up=true then 1 else 0) else if c=2 then x.k else if c=3 then zaC B.id B.ports (p:Int) else (B.v.own[p]?).getD 0
def rowW (r:VR) (c:Int):Int:=if c=1 then 1 else if c=2 then r.m else r.b

def zau {α:Type} (f:Nat→α→BD) (l:List α):Nat→List BD
 | 0=>[]
 | k+1=>match l[k]? with
  | some x=>zau f l k++[f k x]
  | none=>zau f l k
def zaa (g:Int→List BD):Nat→List BD
 | 0=>[]
 | k+1=>zaa g k++g ((k:Int)+1)

theorem zb4 {α:Type} {f:Nat→α→BD} {l:List α} {k:Nat} {x:α} (h:l[k]? = some x):zau f l (k+1)=zau f l k++[f k x]:=by
 rw [zau,h]
theorem zax {α:Type} (f:Nat→α→BD) (l:List α):∀k,(zau f l k).length≤k
 | 0=>Nat.le_refl _
 | k+1=>by
  have:=zax f l k
  rw [zau]
  split
  ·rw [List.length_append]; simp; omega
  ·omega

def portB (B:BR) (c:Int) (p:Nat) (x:PT):BD:=numD [2,c,(p:Int)+1] (portW B c p x)
def rowB (c:Int) (_:Nat) (r:VR):BD:=numD [3,c,r.i] (rowW r c)
def entB (_:Nat) (e:FE):BD:=numD [4,1,e.t,e.m] (e.p+1)

def zak (B:BR):List BD:=[nameD B.name,numD [1,2] B.ticks,numD [1,3] B.parse,numD [1,4] B.word,numD [1,5] B.drops]
def zai (B:BR) (c:Int):List BD:=zau (portB B c) B.ports B.ports.length
def zaK (B:BR) (c:Int):List BD:=zau (rowB c) B.v.rows B.v.rows.length
def zdJ (B:BR):List BD:=zau entB B.f B.f.length
def zaU (B:BR):List BD:=zak B++zaa (zai B) 4++zaa (zaK B) 3++zdJ B
def zal (B:BR):List BD:=if zG B=true then zaU B else []

def lessL:List Int→List Int→Bool
 | [],[]=>false
 | [],_::_=>true
 | _::_,[]=>false
 | x::a,y::b=>if x=y then lessL a b else decide (x < y)

inductive KD where
 | name
 | cost (p:Nat)
 | pvid (p:Nat)
 | row (v:Int)
 | mem (k:Nat)
 | bare (k:Nat)

def pickK (B:BR) (d e n:Int):Option KD :=
 if d=2 then
  if (e=2∨e=4)∧1≤n∧n≤(B.ports.length:Int) then some (if e=2 then .cost (n - 1).toNat else .pvid (n - 1).toNat) else none
 else if d=3 then
  if e=1∧1≤n∧n≤99 then some (.row n)
  else if e=2∨e=3 then (zI B.v.rows n).map (fun k=>if e=2 then .mem k else .bare k)
  else none
 else none

def zaw (B:BR) (o:List Int):Option KD :=
 if o=[1,3,1,1,1] then some .name
 else if o.length=6∧o.take 3=[1,3,1] then pickK B (o.getD 3 0) (o.getD 4 0) (o.getD 5 0)
 else none

def seenB (B:BR) (o:List Int):Bool :=
 decide (o.take 3=[1,3,1]) &&
 ((decide (o.length=5) && (decide (o.getD 3 0=1) && in3 (o.getD 4 0) 2 5)) ||
 ((decide (o.length=6) && (decide (o.getD 3 0=2) && ((decide (o.getD 4 0=1) || decide (o.getD 4 0=3)) && in3 (o.getD 5 0) 1 (B.ports.length:Int)))) ||
 (decide (o.length=7) && (decide (o.getD 3 0=4) && (decide (o.getD 4 0=1) && decide (0≤atF B.f (o.getD 5 0) (o.getD 6 0)))))))

def kindN:KD→Int
 | .name=>4
 | _=>2

def zbK (B:BR) (N:Int) (S:ByteArray):KD→Bool
 | .name=>decide (S.size≤10)
 | .cost _=>in3 N 1 1000
 | .pvid _=>true
 | .row v=>(decide (N=4) && (!(zI B.v.rows v).isSome && decide (B.v.rows.length < 6))) || (decide (N=6) && (zI B.v.rows v).isSome)
 | .mem _=>in3 N 0 (allOf B.ports.length)
 | .bare _=>in3 N 0 (allOf B.ports.length)

def putK (B:BR) (N:Int) (S:ByteArray):KD→BR
 | .name=>{ B with name:=S }
 | .cost p=>match B.ports[p]? with
  | some x=>{ B with ports:=B.ports.set p ⟨x.up,N,x.has,x.v⟩ }
  | none=>B
 | .pvid p=>{ B with v:=⟨B.v.rows,B.v.own.set p N⟩ }
 | .row v=>if N=4 then { B with v:=⟨zy B.v.rows ⟨v,0,0⟩ false,B.v.own⟩ } else { B with v:=⟨B.v.rows.filter (fun r=>r.i != v),B.v.own⟩ }
 | .mem k=>match B.v.rows[k]? with
  | some r=>{ B with v:=⟨B.v.rows.set k ⟨r.i,N,r.b⟩,B.v.own⟩ }
  | none=>B
 | .bare k=>match B.v.rows[k]? with
  | some r=>{ B with v:=⟨B.v.rows.set k ⟨r.i,r.m,N⟩,B.v.own⟩ }
  | none=>B

def zbr (B:BR) (x:BD):BR × Int:=match zaw B x.o with
 | none=>(B,if seenB B x.o=true then 4 else 3)
 | some kd=>if x.K=kindN kd then (if zbK B x.N x.S kd=true then (putK B x.N x.S kd,0) else (B,2)) else (B,1)

def zaR (B:BR) (x:BD):BR × Int:=if zG B=true then zbr B x else (B,3)

structure Mid (B:BR):Prop where
 id:in3 B.id 1 99=true
 name:B.name.size≤10
 ports:B.ports.all ptOk=true
 pn:1≤B.ports.length∧B.ports.length≤6
 f:fdbOk B.f=true
 rises:vrises B.v.rows=true
 rn:B.v.rows.length≤6
 ri:∀r∈B.v.rows,(1≤r.i∧r.i≤99)∧(0≤r.m∧r.m≤allOf B.ports.length)∧(0≤r.b∧r.b≤allOf B.ports.length)
 own:B.v.own.length=B.ports.length
 ticks:in1m B.ticks=true
 parse:in1m B.parse=true
 word:in1m B.word=true
 drops:in1m B.drops=true
 vers:in1m B.vers=true

theorem ziU {B:BR} (h:zG B=true):Mid B:=by
 obtain ⟨h1,h2,h3,h4,h5,h6,h7,h8,h9,h10,h11⟩:=zaV h;unfold in3 at h4;unfold zO at h6;simp only [Bool.and_eq_true,List.all_eq_true,decide_eq_true_eq,beq_iff_eq] at h4 h6;refine ⟨h2,by omega,h1,by omega,h5,h6.1.2,h6.1.1.1.2,fun r hr => ?_,by have:=h6.1.1.1.1.2; omega,h7,h8,h9,h10,h11⟩;have h7:=h6.1.1.2 r hr;unfold zaY in3 at h7;simp only [Bool.and_eq_true,decide_eq_true_eq,Int.toNat_natCast] at h7;omega

theorem zfg {l:List VR} {id:Int} {k:Nat} (h:zI l id=some k):k < l.length:=by
 obtain ⟨x,hx,-,-⟩:=zcF h;exact (List.getElem?_eq_some_iff.1 hx).1

theorem GRow.take {α:Type} {F:Flat α} {w:World} {ao:Option Addr} {n c k:Nat} {l:List α} (h:GRow F w ao n c l) (hk:k≤n):GRow F w ao k c (l.take k) where
 size:=by have:=h.size; simp; omega
 le:=Nat.le_trans hk h.le
 top:=h.top
 nil:=h.nil
 cell:=by
  rcases h.cell with h0 | ⟨b,off,ha,hc⟩
  ·exact .inl (by omega)
  ·refine .inr ⟨b,off,ha,fun i x hi j v hv=>hc i x ?_ j v hv⟩;rw [List.getElem?_take] at hi
   split at hi
   ·exact hi
   ·cases hi

section
open Go.RowKit

structure BI where
 oa:Option Addr
 on:Nat
 oc:Nat
 o:List Int
 K:Int
 N:Int
 S:ByteArray
 za:Option Addr
 zn:Nat
 zc:Nat
 z:List Int

def BI.d (x:BI):BD:=⟨x.o,x.K,x.N,x.S,x.z⟩

structure BI.In (w:World) (x:BI):Prop where
 o:IRow w x.oa x.on x.oc x.o
 z:IRow w x.za x.zn x.zc x.z
 s:x.S.size≤maxLen

def BI.At (w:World) (b p:Nat) (x:BI):Prop :=
 w.cell? ⟨b,p,none⟩=some (.slice x.oa x.on x.oc)∧w.cell? ⟨b,p+1,none⟩=some (.int .i64 x.K)∧w.cell? ⟨b,p+2,none⟩=some (.int .i64 x.N)∧w.cell? ⟨b,p+3,none⟩=some (.string x.S)∧w.cell? ⟨b,p+4,none⟩=some (.slice x.za x.zn x.zc)

structure BRow (w:World) (ao:Option Addr) (len cap:Nat) (l:List BI):Prop where
 size:l.length=len
 le:len≤cap
 top:cap≤maxLen
 nil:ao=none→cap=0
 item:∀x∈l,x.In w
 cell:len=0∨∃b off,ao=some ⟨b,off,none⟩∧∀(i:Nat) (x:BI),l[i]? = some x→x.At w b (off+i*5)

theorem BI.In.below {w w':World} {x:BI} (h:x.In w) (hb:Below w.heap.size w w'):x.In w':=⟨h.o.below hb,h.z.below hb,h.s⟩

theorem BI.At.below {w w':World} {b p:Nat} {x:BI} (h:x.At w b p) (hb:Below w.heap.size w w'):x.At w' b p:=by
 obtain ⟨h0,h1,h2,h3,h4⟩:=h;exact ⟨(hb.cell (zu h0)).trans h0,(hb.cell (zu h1)).trans h1,(hb.cell (zu h2)).trans h2,(hb.cell (zu h3)).trans h3,(hb.cell (zu h4)).trans h4⟩

theorem BRow.below {w w':World} {ao:Option Addr} {len cap:Nat} {l:List BI} (h:BRow w ao len cap l) (hb:Below w.heap.size w w'):BRow w' ao len cap l where
 size:=h.size
 le:=h.le
 top:=h.top
 nil:=h.nil
 item:=fun x hx=>(h.item x hx).below hb
 cell:=by
  rcases h.cell with h0 | ⟨b,off,ha,hc⟩
  ·exact .inl h0
  ·exact .inr ⟨b,off,ha,fun i x hi=>(hc i x hi).below hb⟩

theorem BRow.at {w:World} {ao:Option Addr} {len cap:Nat} {l:List BI} (h:BRow w ao len cap l) (i:Nat) (hi:i < len):∃x b off,l[i]? = some x∧ao=some ⟨b,off,none⟩∧x.At w b (off+i*5)∧x.In w:=by
 have hl:=h.size;rcases h.cell with h0 | ⟨b,off,ha,hc⟩
 ·omega
 ·have hx:l[i]? = some l[i]:=List.getElem?_eq_getElem (by omega);exact ⟨_,b,off,hx,ha,hc i _ hx,h.item _ (List.getElem_mem _)⟩

section
variable {H:Type} {enc:TypeId × Value→H} {P:Program} {w:World}

end

end

def BI.cs (x:BI):List Value:=[.slice x.oa x.on x.oc,.int .i64 x.K,.int .i64 x.N,.string x.S,.slice x.za x.zn x.zc]
def cBs (l:List BI):List Value:=l.flatMap BI.cs

theorem zdu (x:BI):x.cs.length=5:=rfl
theorem zdi (x:BI) (l:List BI):cBs (x::l)=x.cs++cBs l:=by simp [cBs]
theorem zcm (a b:List BI):cBs (a++b)=cBs a++cBs b:=by simp [cBs]
theorem zbx (l:List BI):(cBs l).length=l.length*5:=by
 induction l with
 | nil=>rfl
 | cons x l ih=>rw [zdi,List.length_append,ih,zdu,List.length_cons]; omega

theorem zjl (pre:List BI) (x:BI) (post:List BI) (j:Nat) (hj:j < 5):(cBs (pre++x::post))[pre.length*5+j]? = x.cs[j]? := by
 rw [zcm,zdi,List.getElem?_append_right (by rw [zbx]; omega),zbx,Nat.add_sub_cancel_left,List.getElem?_append_left (by rw [zdu]; exact hj)]

theorem zi0 (pre:List BI) (x x':BI) (post:List BI) (j:Nat) (u:Value) (hj:j < 5) (h:x.cs.set j u=x'.cs):(cBs (pre++x::post)).set (pre.length*5+j) u=cBs (pre++x'::post):=by
 rw [zcm,zdi,List.set_append_right _ _ (by rw [zbx]; omega),zbx,Nat.add_sub_cancel_left,List.set_append_left _ _ (by rw [zdu]; exact hj),h,zcm,zdi]

def BI.blks (x:BI):List Nat:=blkL x.oa++blkL x.za

structure BOwn (w:World) (base:Nat) (x:BI):Prop where
 o:w.ownsRow base 3 1 (.slice x.oa x.on x.oc) x.on (cI x.o)
 z:w.ownsRow base 3 1 (.slice x.za x.zn x.zc) x.zn (cI x.z)
 ob:I64s x.o
 zb:I64s x.z
 s:x.S.size≤maxLen

theorem BOwn.in {w:World} {base:Nat} {x:BI} (h:BOwn w base x):x.In w:=⟨zV h.o h.ob,zV h.z h.zb,h.s⟩
theorem BOwn.below {w w':World} {base:Nat} {x:BI} (h:BOwn w base x) (hb:Below w.heap.size w w'):BOwn w' base x:=⟨zbG h.o hb,zbG h.z hb,h.ob,h.zb,h.s⟩
theorem BOwn.lt {w:World} {base base':Nat} {x:BI} (h:BOwn w base x) (hb:base'≤base):BOwn w base' x:=⟨zbc h.o hb,zbc h.z hb,h.ob,h.zb,h.s⟩
theorem BOwn.only {bs:List Nat} {w w':World} {base:Nat} {x:BI} (h:BOwn w base x) (ho:Only bs w w') (hn:∀b∈x.blks,b∉bs):BOwn w' base x :=
 ⟨ho.own h.o (fun k hk=>hn k (List.mem_append_left _ (zao.1 hk))),ho.own h.z (fun k hk=>hn k (List.mem_append_right _ (zao.1 hk))),h.ob,h.zb,h.s⟩
theorem BOwn.blk {w:World} {base:Nat} {x:BI} (h:BOwn w base x):∀b∈x.blks,base≤b∧b < w.heap.size:=by
 intro b hb;rcases List.mem_append.1 hb with hb | hb
 ·exact h.o.lt b (zao.2 hb)
 ·exact h.z.lt b (zao.2 hb)

structure BOwns (w:World) (base:Nat) (ao:Option Addr) (n cap:Nat) (l:List BI):Prop where
 row:w.ownsRow base 37 5 (.slice ao n cap) n (cBs l)
 item:∀x∈l,BOwn w base x
 apart:(l.flatMap BI.blks).Nodup

def allBi (ao:Option Addr) (l:List BI):List Nat:=blkL ao++l.flatMap BI.blks

theorem BOwns.size {w:World} {base:Nat} {ao:Option Addr} {n cap:Nat} {l:List BI} (h:BOwns w base ao n cap l):l.length=n:=by
 have:=h.row.1; rw [zbx] at this; omega

theorem BOwns.below {w w':World} {base:Nat} {ao:Option Addr} {n cap:Nat} {l:List BI} (h:BOwns w base ao n cap l) (hb:Below w.heap.size w w'):BOwns w' base ao n cap l :=
 ⟨zaJ h.row hb,fun x hx=>(h.item x hx).below hb,h.apart⟩
theorem BOwns.lt {w:World} {base base':Nat} {ao:Option Addr} {n cap:Nat} {l:List BI} (h:BOwns w base ao n cap l) (hb:base'≤base):BOwns w base' ao n cap l :=
 ⟨zdL h.row hb,fun x hx=>(h.item x hx).lt hb,h.apart⟩
theorem BOwns.only {bs:List Nat} {w w':World} {base:Nat} {ao:Option Addr} {n cap:Nat} {l:List BI} (h:BOwns w base ao n cap l) (ho:Only bs w w') (hn:∀b∈allBi ao l,b∉bs):BOwns w' base ao n cap l :=
 ⟨ho.own h.row (fun k hk=>hn k (List.mem_append_left _ (zao.1 hk))),fun x hx=>(h.item x hx).only ho (fun b hb=>hn b (List.mem_append_right _ (List.mem_flatMap.2 ⟨x,hx,hb⟩))),h.apart⟩
theorem BOwns.blk {w:World} {base:Nat} {ao:Option Addr} {n cap:Nat} {l:List BI} (h:BOwns w base ao n cap l):∀b∈allBi ao l,base≤b∧b < w.heap.size:=by
 intro b hb;rcases List.mem_append.1 hb with hb | hb
 ·exact h.row.lt b (zao.2 hb)
 ·obtain ⟨x,hx,hb⟩:=List.mem_flatMap.1 hb;exact (h.item x hx).blk b hb

theorem BOwns.brow {w:World} {base:Nat} {ao:Option Addr} {n cap:Nat} {l:List BI} (h:BOwns w base ao n cap l):BRow w ao n cap l:=by
 have hl:=h.size;have hin:=fun x hx=>(h.item x hx).in
 rcases h.row.2 with ⟨e,h0⟩ | ⟨g,cap',cur,e,_,_,h1,h2,_⟩
 ·cases e;exact ⟨hl,Nat.le_refl _,Nat.zero_le _,fun _=>rfl,hin,.inl rfl⟩
 ·cases e;refine ⟨hl,h1,h2,(by intro h; cases h),hin,.inr ⟨g,0,rfl,fun i x hi => ?_⟩⟩;obtain ⟨hil,hx⟩:=List.getElem?_eq_some_iff.1 hi;have el:l=l.take i++x::l.drop (i+1):=by rw [← hx,← List.drop_eq_getElem_cons hil,List.take_append_drop]
  have at_:∀j,j < 5→w.cell? ⟨g,i*5+j,none⟩=x.cs[j]? := by
   intro j hj;rw [h.row.cellAt _ (by omega)]
   have:=zjl (l.take i) x (l.drop (i+1)) j hj
   rw [← el,List.length_take,Nat.min_eq_left (by omega)] at this;exact this
  have a0:=at_ 0 (by omega); have a1:=at_ 1 (by omega); have a2:=at_ 2 (by omega); have a3:=at_ 3 (by omega); have a4:=at_ 4 (by omega)
  unfold BI.At;rw [Nat.zero_add];exact ⟨a0,a1,a2,a3,a4⟩

theorem BOwns.type_apart {w:World} {base:Nat} {ao:Option Addr} {n cap:Nat} {l:List BI} (h:BOwns w base ao n cap l) {x:BI} (hx:x∈l):∀b∈x.blks,b∉blkL ao:=by
 intro b hb hc;have hne:(3:Nat)≠37:=by decide
 rcases List.mem_append.1 hb with hb | hb
 ·exact zbS (h.item x hx).o h.row hne (zao.2 hb) (zao.2 hc)
 ·exact zbS (h.item x hx).z h.row hne (zao.2 hb) (zao.2 hc)

theorem zgS {pre post:List BI} {x:BI} (h:((pre++x::post).flatMap BI.blks).Nodup):x.blks.Nodup∧∀y,y∈pre∨y∈post→∀b∈y.blks,b∉x.blks:=by
 rw [List.flatMap_append,List.flatMap_cons] at h;obtain ⟨h1,h2,h3⟩:=List.nodup_append.1 h;obtain ⟨h4,h5,h6⟩:=List.nodup_append.1 h2;refine ⟨h4,fun y hy b hb hx => ?_⟩;rcases hy with hy | hy
 ·exact h3 b (List.mem_flatMap.2 ⟨y,hy,hb⟩) b (List.mem_append_left _ hx) rfl
 ·exact h6 b hx b (List.mem_flatMap.2 ⟨y,hy,hb⟩) rfl

theorem BOwns.turn {bs:List Nat} {w w':World} {base:Nat} {ao:Option Addr} {n cap:Nat} {pre post:List BI} {x x':BI} (h:BOwns w base ao n cap (pre++x::post)) (hb:x'.blks=x.blks) (ho:Only bs w w') (hs:∀b∈bs,b∈x.blks∨b∈blkL ao)
  (hr:w'.ownsRow base 37 5 (.slice ao n cap) n (cBs (pre++x'::post))) (hx:BOwn w' base x'):BOwns w' base ao n cap (pre++x'::post) where
 row:=hr
 item:=by
  intro y hy;have hm:=(zgS h.apart).2;have keep:(y∈pre∨y∈post)→y∈pre++x::post→BOwn w' base y:=fun hy hy'=>(h.item y hy').only ho (fun b hb hbs=>by
   rcases hs b hbs with h1 | h1
   ·exact hm y hy b hb h1
   ·exact h.type_apart hy' b hb h1)
  rcases List.mem_append.1 hy with hy | hy
  ·exact keep (.inl hy) (List.mem_append_left _ hy)
  ·rcases List.mem_cons.1 hy with rfl | hy
   ·exact hx
   ·exact keep (.inr hy) (List.mem_append_right _ (List.mem_cons_of_mem _ hy))
 apart:=by
  have:=h.apart
  rw [List.flatMap_append,List.flatMap_cons] at this ⊢;rw [hb]; exact this

theorem BOwns.at {w:World} {base:Nat} {ao:Option Addr} {n cap:Nat} {pre post:List BI} {x:BI} (h:BOwns w base ao n cap (pre++x::post)):∃g,ao=some ⟨g,0,none⟩∧x.At w g (pre.length*5)∧x.In w∧∀j,w.frozen? ⟨g,j,none⟩=false:=by
 have hl:=h.size;have B:=h.brow;rcases h.row.2 with ⟨e,h0⟩ | ⟨g,cap',cur,e,_,_,h1,h2,_⟩
 ·simp at hl; omega
 ·cases e;rcases B.cell with h0 | ⟨b,off,ha,hc⟩
  ·simp at hl; omega
  ·cases ha
   have:=hc pre.length x (by simp)
   rw [Nat.zero_add] at this;exact ⟨g,rfl,this,B.item x (by simp),fun j=>h.row.frozenAt j⟩

theorem BOwns.store {w:World} {base:Nat} {g n cap:Nat} {pre post:List BI} {x x':BI} {j:Nat} {u:Value} (h:BOwns w base (some ⟨g,0,none⟩) n cap (pre++x::post)) (hj:j < 5) (hc:x.cs.set j u=x'.cs) (hb:x'.blks=x.blks) (hx:BOwn w base x→BOwn w base x') :
  BOwns (w.setCell ⟨g,pre.length*5+j,none⟩ u) base (some ⟨g,0,none⟩) n cap (pre++x'::post):=by
 have hm:x∈pre++x::post:=by simp
 have R:=(h.row.stored (pre.length*5+j) u).1;rw [zi0 pre x x' post j u hj hc] at R;have O:=Only.set w g (pre.length*5+j) u;refine h.turn hb O (fun b hb=>.inr (by simpa [blkL] using hb)) R ?_;exact (hx (h.item x hm)).only O (fun b hb' hb2=>h.type_apart hm b (hb▸hb') (by simpa [blkL] using hb2))

theorem BOwns.setK {w:World} {base:Nat} {g n cap:Nat} {pre post:List BI} {x:BI} (h:BOwns w base (some ⟨g,0,none⟩) n cap (pre++x::post)) (K:Int):BOwns (w.setCell ⟨g,pre.length*5+1,none⟩ (.int .i64 K)) base (some ⟨g,0,none⟩) n cap (pre++{ x with K:=K }::post) :=
 h.store (by omega) rfl rfl (fun I=>⟨I.o,I.z,I.ob,I.zb,I.s⟩)
theorem BOwns.setN {w:World} {base:Nat} {g n cap:Nat} {pre post:List BI} {x:BI} (h:BOwns w base (some ⟨g,0,none⟩) n cap (pre++x::post)) (N:Int):BOwns (w.setCell ⟨g,pre.length*5+2,none⟩ (.int .i64 N)) base (some ⟨g,0,none⟩) n cap (pre++{ x with N:=N }::post) :=
 h.store (by omega) rfl rfl (fun I=>⟨I.o,I.z,I.ob,I.zb,I.s⟩)
theorem BOwns.setS {w:World} {base:Nat} {g n cap:Nat} {pre post:List BI} {x:BI} (h:BOwns w base (some ⟨g,0,none⟩) n cap (pre++x::post)) (S:ByteArray) (hS:S.size≤maxLen):BOwns (w.setCell ⟨g,pre.length*5+3,none⟩ (.string S)) base (some ⟨g,0,none⟩) n cap (pre++{ x with S:=S }::post) :=
 h.store (by omega) rfl rfl (fun I=>⟨I.o,I.z,I.ob,I.zb,hS⟩)

theorem BOwns.push {w w':World} {base:Nat} {ao ao':Option Addr} {n cap cap':Nat} {l:List BI} {x:BI} (h:BOwns w base ao n cap l) (hx:BOwn w base x) (hnd:x.blks.Nodup) (hap:∀y∈l,∀b∈y.blks,b∉x.blks) (hg:w.grownBy w' (Value.slice ao n cap).ownBlock)
  (hr:w'.ownsRow base 37 5 (.slice ao' (n+1) cap') (n+1) (cBs l++x.cs)):BOwns w' base ao' (n+1) cap' (l++[x]) where
 row:=by rw [zcm]; simpa [cBs] using hr
 item:=by
  have O:=Only.of_grown hg;intro y hy;rcases List.mem_append.1 hy with hy | hy
  ·exact (h.item y hy).only O (h.type_apart hy)
  ·rw [List.mem_singleton] at hy;subst hy;have hne:(3:Nat)≠37:=by decide
   refine hx.only O fun b hb hc => ?_
   rcases List.mem_append.1 hb with hb | hb
   ·exact zbS hx.o h.row hne (zao.2 hb) (zao.2 hc)
   ·exact zbS hx.z h.row hne (zao.2 hb) (zao.2 hc)
 apart:=by
  rw [List.flatMap_append,List.nodup_append];refine ⟨h.apart,by simpa using hnd, ?_⟩;intro b hb c hc e;subst e;obtain ⟨y,hy,hb⟩:=List.mem_flatMap.1 hb;exact hap y hy b hb (by simpa using hc)

theorem Tryz.infoBind':(Tryz.prog.info? 37).map (fun i=>(i.zero,i.size,i.bytes))=some (some (.agg #[.slice none 0 0,.int .i64 0,.int .i64 0,.string ⟨#[]⟩,.slice none 0 0]),5,80):=by kernel_rfl

theorem zgV (w:World) (y:BI):∀(j:Nat) (u:Value),y.cs[j]? = some u→(w.alloc (.cells #[.slice y.oa y.on y.oc,.int .i64 y.K,.int .i64 y.N,.string y.S,.slice y.za y.zn y.zc] 37)).cell? ((⟨w.heap.size,0,none⟩:Addr).add j)=some u:=by
 intro j u hu;obtain ⟨⟨c0,c1,c2,c3,c4⟩,-⟩:=zt (zv w (.cells #[.slice y.oa y.on y.oc,.int .i64 y.K,.int .i64 y.N,.string y.S,.slice y.za y.zn y.zc] 37));rw [zdf,Nat.zero_add]
 match j,hu with
 | 0,hu=>rw [c0]; exact hu
 | 1,hu=>rw [c1]; exact hu
 | 2,hu=>rw [c2]; exact hu
 | 3,hu=>rw [c3]; exact hu
 | 4,hu=>rw [c4]; exact hu
 | k+5,hu=>simp [BI.cs] at hu

theorem zgq (y:BI):∀u∈y.cs,u.oneCell'=true:=by
 intro u hu;simp only [BI.cs,List.mem_cons,List.not_mem_nil,or_false] at hu;rcases hu with rfl | rfl | rfl | rfl | rfl <;> rfl

theorem zhs {w:World} {base:Nat} {e:TypeId} {s:Nat} {v:Value} {n:Nat} {xs:List Value} (h:w.ownsRow base e s v n xs):∃ao cap,v=.slice ao n cap:=by
 rcases h.2 with ⟨rfl,rfl⟩ | ⟨g,cap,cur,rfl,_⟩
 ·exact ⟨_,_,rfl⟩
 ·exact ⟨_,_,rfl⟩

theorem ziY {w w':World} {base:Nat} {ao:Option Addr} {n cap:Nat} {l:List BI} (h:BOwns w base ao n cap l) (hg:w.grownBy w' (Value.slice ao n cap).ownBlock) (hb:base≤w.heap.size):Below base w w' :=
 (Only.of_grown hg).below hb (fun b hb=>(h.row.lt b (zao.2 hb)).1)

end Go.Proofs.YtcpdkcdfnpcemaaGreat
