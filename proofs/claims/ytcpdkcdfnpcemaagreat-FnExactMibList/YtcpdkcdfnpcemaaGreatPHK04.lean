/-
  Packed: PtBestI PtRoleI BrList0 PtRole BindMem BindOwn MibBox BindApp ValHelp L3Int MadeSet.
-/
import Derived.Test.YtcpdkcdfnpcemaaGreatPHK03
namespace Go.Proofs.YtcpdkcdfnpcemaaGreat
set_option maxRecDepth 100000
set_option maxHeartbeats 16000000
open Go.RowKit

def heldV (id:Int):Option (VD × Nat)→VD
 | none=>⟨id,0,0,0,0⟩
 | some (f,_)=>f

structure BiSt (w W:World) (v:VD):Prop where
 res:W.heap[w.heap.size]? = some (.cells #[.int .i64 0,.int .i64 0,.int .i64 0,.int .i64 0,.int .i64 0] 111)
 best:W.heap[w.heap.size+1]? = some (.cells #[.int .i64 v.r,.int .i64 v.c,.int .i64 v.h,.int .i64 v.b,.int .i64 v.p] 111)
 below:Below w.heap.size w W

theorem BiSt.later {w W W':World} {v:VD} (h:BiSt w W v) (hb:Below W.heap.size W W'):BiSt w W' v :=
 ⟨ze h.res hb,ze h.best hb,zd h.below hb⟩

theorem BiSt.set {w W:World} {v:VD} (h:BiSt w W v) (u:VD):BiSt w (((((W.setCell ⟨w.heap.size+1,0,none⟩ (.int .i64 u.r)).setCell ⟨w.heap.size+1,1,none⟩ (.int .i64 u.c)).setCell ⟨w.heap.size+1,2,none⟩ (.int .i64 u.h)).setCell ⟨w.heap.size+1,3,none⟩ (.int .i64 u.b)).setCell ⟨w.heap.size+1,4,none⟩ (.int .i64 u.p)) u :=
 ⟨zbo h.res (by omega) _ _ _ _ _,zcY h.best _ _ _ _ _,zP h.below (by omega) _ _ _ _ _⟩

theorem zg9 {id:Int} {u:VD} (h:u.r < id):zaE u.r u.c u.b u.p id 0 0 0=true:=by
 unfold zaE
 have:(u.r != id)=true:=by simp; omega
 rw [this]
 simp [h]

theorem zgj {id:Int} {s:Option (VD × Nat)} {i:Nat} {x:PT} (ho:offers id x=true) (hs:∀f j,s=some (f,j)→f.r < id) :
  zbd id s i x=if lessV (overV x) (heldV id s)=true then some (overV x,i) else s:=by
 have ho':=ho;rw [zbN] at ho';simp only [Bool.and_eq_true,decide_eq_true_eq] at ho';have e:=zf8 ho'.1;unfold zbd;rw [if_pos ho];cases s with
 | none =>
  rw [if_pos]
  ·rw [e]
  ·exact zg9 ho'.2
 | some y =>
  obtain ⟨f,j⟩:=y;simp only [heldV];rw [e]
  rfl

theorem zbm (id:Int) (a:Option Addr) (n c:Nat) (l:List PT) (w:World) (h:GRow ptF w a n c l) :
  Calls Tryz.prog 268 #[.int .i64 id,.slice a n c] w fun e w'=>e=.returned (.tuple #[.agg #[.int .i64 (bestV id (zG id l)).r,.int .i64 (bestV id (zG id l)).c,.int .i64 (bestV id (zG id l)).h,.int .i64 (bestV id (zG id l)).b,.int .i64 (bestV id (zG id l)).p],.int .i64 (bestP (zG id l))])∧Below w.heap.size w w':=by
 have hle:=h.le;have htop:=h.top;unfold maxLen at htop;have hsz:=hide h.size;go_enter Tryz.func268,Tryz.ntmps268;go_wp2_with fail
 generalize hw3:(w.alloc (Obj.cells #[.int .i64 0,.int .i64 0,.int .i64 0,.int .i64 0,.int .i64 0] 111)).alloc (Obj.cells #[.int .i64 id,.int .i64 0,.int .i64 0,.int .i64 0,.int .i64 0] 111)=w3;have st3:BiSt w w3 (heldV id none):=by
  subst hw3;obtain ⟨k0,k1⟩:=zbK (Below.refl _ ((w.alloc (Obj.cells #[.int .i64 0,.int .i64 0,.int .i64 0,.int .i64 0,.int .i64 0] 111)).alloc (Obj.cells #[.int .i64 id,.int .i64 0,.int .i64 0,.int .i64 0,.int .i64 0] 111)));exact ⟨k0,k1,zz _ _ _⟩
 clear hw3
 go_loopw [7,16] (fun p i wr=>∃(k:Nat) (s:Option (VD × Nat)),k≤n∧i=.int .i64 k∧p=.int .i64 (bestP s)∧(zbb id l k=s∧∀f j,s=some (f,j)→f.r < id)∧BiSt w wr (heldV id s)) (fun _ i _=>n - (intOf i).toNat)
 case atStart=>exact ⟨0,none,Nat.zero_le _,rfl,rfl,⟨rfl,by intro f j e; cases e⟩,st3⟩
 case round =>
  obtain ⟨k,s,hk,rfl,rfl,⟨hs,hrt⟩,st⟩:=hrel;obtain ⟨hv,hhv⟩:∃y,y=heldV id s:=⟨_,rfl⟩;have BACK:Hid (∀W,BiSt w W hv→BiSt w W (heldV id s)):=hide (by subst hhv; exact fun W h=>h);rw [← hhv] at st;have HHV:=hide hhv;have HRT:=hide hrt;clear hhv hrt;by_cases hlt:k < n
  ·obtain ⟨x,b,off,hx,rfl,c0,c1,c2,c3,c4,c5,c6,c7⟩:=pt_at (h.below st.below) k hlt;have hnx:=zc6 (id:=id) hx;rw [hs] at hnx;have i1:(0:Int)≤(k:Int):=by omega
   have i2:(k:Int) < (n:Int):=by omega
   have NX:=hide hnx;have ST:=hide st;clear hs hnx hx st;(go_wp2_with fail);refine (zeY x _).mono ?_;rintro e w4 ⟨rfl,hb4⟩;have st4:=(ST.out.later (zh _ _)).later hb4;clear hb4 c0 c1 c2 c3 c4 c5 c6 c7;generalize hu:overV x=u;generalize hq:overB x=q;have HU:=hide hu;have HQ:=hide hq;clear hu hq;(go_upto_region 6 with fail);generalize hw5:w4.alloc (Obj.cells #[.int .i64 u.r,.int .i64 u.c,.int .i64 u.h,.int .i64 u.b,.int .i64 u.p] 111)=w5;have st5:BiSt w w5 hv:=by rw [← hw5]; exact st4.later (zh _ _)
   have kX:=zk hw5;have hl4:=(Array.getElem?_eq_some_iff.1 st4.best).1;have ne1:¬w4.heap.size=w.heap.size+1:=by omega
   have ne2:¬w.heap.size+1=w4.heap.size:=by omega
   have HL4:=hide hl4;obtain ⟨⟨x0,x1,x2,x3,x4⟩,-⟩:=zo kX;obtain ⟨⟨z0,z1,z2,z3,z4⟩,v0,v1,v2,v3,v4⟩:=zo st5.best;clear st4 hl4 hw5;have ST5:=hide st5;have KX:=hide kX;clear kX st5;cases q
   ·have HE:Hid (zbb id l (k+1)=s):=hide (NX.out.trans (za2 (by rw [zbN,HQ.out]; rfl)));clear v0 v1 v2 v3 v4;go_wp2
    go_roundw
    case rel=>exact ⟨k+1,s,by omega,by go_num,rfl,⟨HE.out,HRT.out⟩,BACK.out _ ST5.out⟩
    case measure=>simp [intOf]; omega
   cases hlr:decide (u.r < id)
   ·have HE:Hid (zbb id l (k+1)=s):=hide (NX.out.trans (za2 (by rw [zbN,HQ.out,HU.out,hlr]; rfl)));have hlr:¬u.r < id:=by simpa using hlr
    clear v0 v1 v2 v3 v4;go_wp2
    go_roundw
    case rel=>exact ⟨k+1,s,by omega,by go_num,rfl,⟨HE.out,HRT.out⟩,BACK.out _ ST5.out⟩
    case measure=>simp [intOf]; omega
   have HO:Hid (offers id x=true):=hide (by rw [zbN,HQ.out,HU.out,hlr]; rfl);have hlr:u.r < id:=by simpa using hlr
   have HLR:=hide hlr;have HSTEP:Hid (zbb id l (k+1)=if lessV u hv=true then some (u,k) else s):=hide (by rw [NX.out,zgj HO.out HRT.out,HU.out,HHV.out]);cases hl:lessV u hv
   ·have HE:Hid (zbb id l (k+1)=s):=hide (by rw [HSTEP.out,hl]; rfl);have HL:Hid (zaE u.r u.c u.b u.p hv.r hv.c hv.b hv.p=false):=hide hl;clear hl v0 v1 v2 v3 v4;(go_wp2_with fail);refine (zaW u.r u.c u.h u.b u.p hv.r hv.c hv.h hv.b hv.p _).mono ?_;rintro e wl ⟨rfl,hbl⟩;rw [HL.out];have SL:=hide (ST5.out.later hbl);clear hbl x0 x1 x2 x3 x4 z0 z1 z2 z3 z4;go_wp2
    go_roundw
    case rel=>exact ⟨k+1,s,by omega,by go_num,rfl,⟨HE.out,HRT.out⟩,BACK.out _ SL.out⟩
    case measure=>simp [intOf]; omega
   ·have HE:Hid (zbb id l (k+1)=some (u,k)):=hide (by rw [HSTEP.out,hl]; rfl);have HL:Hid (zaE u.r u.c u.b u.p hv.r hv.c hv.b hv.p=true):=hide hl;clear hl v0 v1 v2 v3 v4;(go_wp2_with fail);refine (zaW u.r u.c u.h u.b u.p hv.r hv.c hv.h hv.b hv.p _).mono ?_;rintro e wl ⟨rfl,hbl⟩;rw [HL.out];have stl:=ST5.out.later hbl;have kX:=ze KX.out hbl;clear hbl x0 x1 x2 x3 x4 z0 z1 z2 z3 z4;obtain ⟨⟨x0,x1,x2,x3,x4⟩,-⟩:=zo kX;obtain ⟨⟨z0,z1,z2,z3,z4⟩,v0,v1,v2,v3,v4⟩:=zo stl.best;have HSET:Hid (BiSt w _ u):=hide (stl.set u);clear stl kX;go_wp2
    go_roundw
    case rel=>exact ⟨k+1,some (u,k),by omega,by go_num,rfl,⟨HE.out,fun f j e=>by cases e; exact HLR.out⟩,HSET.out⟩
    case measure=>simp [intOf]; omega
  ·have hkn:k=n:=by omega
   subst hkn;have HB:Hid (zG id l=s):=hide (by unfold zG; rw [hsz.out]; exact hs);have HBV:Hid (bestV id s=⟨hv.r,hv.c,hv.h,id,0⟩):=hide (by rw [HHV.out]; cases s <;> rfl);obtain ⟨⟨x0,x1,x2,x3,x4⟩,y0,y1,y2,y3,y4⟩:=zo st.best;obtain ⟨⟨r0,r1,r2,r3,r4⟩,z0,z1,z2,z3,z4⟩:=zo st.res;have ne:¬w.heap.size=w.heap.size+1:=by omega
   have hb:=zP (zi (zi st.below (g:=w.heap.size+1) (by omega) 3 (.int .i64 id)) (g:=w.heap.size+1) (by omega) 4 (.int .i64 0)) (Nat.le_refl w.heap.size) (.int .i64 hv.r) (.int .i64 hv.c) (.int .i64 hv.h) (.int .i64 id) (.int .i64 0);clear hs st;go_wp2;exact bodyPost_ret (v:=.tuple #[.agg #[.int .i64 hv.r,.int .i64 hv.c,.int .i64 hv.h,.int .i64 id,.int .i64 0],.int .i64 (bestP s)]) (by simp [results,Tryz.results268,go_sem, *]) rfl ⟨(by rw [HB.out,HBV.out]),hb⟩

theorem zca (id:Int) (a:Option Addr) (n c:Nat) (l:List PT) (port:Int) (w:World) (h:GRow ptF w a n c l) :
  Calls Tryz.prog 270 #[.int .i64 id,.slice a n c,.int .i64 port] w fun e w'=>e=.returned (.agg #[.int .i64 (sayV id l port).r,.int .i64 (sayV id l port).c,.int .i64 (sayV id l port).h,.int .i64 (sayV id l port).b,.int .i64 (sayV id l port).p])∧Below w.heap.size w w':=by
 generalize hw1:w.alloc (Obj.cells #[.int .i64 0,.int .i64 0,.int .i64 0,.int .i64 0,.int .i64 0] 111)=w1;have q1:=zb hw1;have k1:=zk hw1;have hsb:(sayV id l port)=⟨(bestV id (zG id l)).r,(bestV id (zG id l)).c,(bestV id (zG id l)).h,(bestV id (zG id l)).b,port⟩:=by
  unfold sayV;cases zG id l <;> rfl
 rw [hsb];clear hsb;go_enter Tryz.func270,Tryz.ntmps270;go_wp2_with fail
 refine (zbm id a n c l _ (h.below q1)).mono ?_;rintro e w2 ⟨rfl,hb2⟩;generalize hv:bestV id (zG id l)=v;have HV:=hide hv;clear hv;generalize hw3:w2.alloc (Obj.cells #[.int .i64 v.r,.int .i64 v.c,.int .i64 v.h,.int .i64 v.b,.int .i64 v.p] 111)=w3;have hb3:=zb hw3;have k3:=zk hw3;have k1:=ze (ze k1 hb2) hb3;have lt1:=(Array.getElem?_eq_some_iff.1 (ze (by rw [← hw1]; exact zy _ _:w1.heap[w.heap.size]? = some (.cells #[.int .i64 0,.int .i64 0,.int .i64 0,.int .i64 0,.int .i64 0] 111)) hb2)).1;have ne1:¬w2.heap.size=w.heap.size:=by omega
 have ne2:¬w.heap.size=w2.heap.size:=by omega
 have HB:=hide (zP (zi (zd (zd q1 hb2) hb3) (g:=w2.heap.size) (by omega) 4 (.int .i64 port)) (Nat.le_refl w.heap.size) (.int .i64 v.r) (.int .i64 v.c) (.int .i64 v.h) (.int .i64 v.b) (.int .i64 port));obtain ⟨⟨x0,x1,x2,x3,x4⟩,y0,y1,y2,y3,y4⟩:=zo k3;obtain ⟨⟨r0,r1,r2,r3,r4⟩,z0,z1,z2,z3,z4⟩:=zo k1;clear hb2 hb3 k1 k3 q1 lt1;go_wp2;exact bodyPost_ret (v:=.agg #[.int .i64 v.r,.int .i64 v.c,.int .i64 v.h,.int .i64 v.b,.int .i64 port]) (by simp [results,Tryz.results270,go_sem, *]) rfl ⟨(by rw [HV.out]),HB.out⟩

theorem zeN (id:Int) (a:Option Addr) (n c:Nat) (l:List PT) (port:Int) (w:World) (h:GRow ptF w a n c l) :
  Calls Tryz.prog 221 #[.int .i64 id,.slice a n c,.int .i64 port] w fun e w'=>e=.returned (.int .i64 (zav id l port))∧Below w.heap.size w w':=by
 have hle:=h.le;have htop:=h.top;unfold maxLen at htop;have hsz:=hide h.size;cases hin:(decide (0≤port) && decide (port≤(n:Int) - 1))
 ·have HIN:=hide hin;have HR:Hid (zav id l port=4):=hide (by unfold zav; rw [hsz.out,hin]; rfl);clear hin;go_enter Tryz.func221,Tryz.ntmps221;(go_wp2_with fail);refine (zU port 0 ((n:Int) - 1) _).mono ?_;rintro e w1 ⟨rfl,ew⟩;obtain rfl:=ew.symm;rw [HIN.out];go_wp2;go_ret;exact ⟨(by rw [HR.out]; rfl),Below.refl _ _⟩
 obtain ⟨k,rfl⟩:∃k:Nat,port=(k:Int):=⟨port.toNat,by simp at hin; omega⟩;have hlt:k < n:=by simp at hin; omega
 have HIN:=hide hin;have i1:(0:Int)≤(k:Int):=by omega
 have i2:(k:Int) < (n:Int):=by omega
 obtain ⟨x,b,off,hx,rfl,c0,c1,c2,c3,c4,c5,c6,c7⟩:=pt_at h k hlt;have hro:zav id l (k:Int)=zcx id l k x:=by
  unfold zav;rw [hsz.out,hin]
  simp [hx]
 have HRO:=hide hro;clear hin hro;cases hu:x.up
 ·rw [hu] at c0;have HR:Hid (zav id l (k:Int)=4):=hide (by rw [HRO.out]; unfold zcx; rw [if_pos hu]);clear hu c1 c2 c3 c4 c5 c6 c7 hx;go_enter Tryz.func221,Tryz.ntmps221;(go_wp2_with fail);refine (zU (k:Int) 0 ((n:Int) - 1) _).mono ?_;rintro e w1 ⟨rfl,ew⟩;obtain rfl:=ew.symm;rw [HIN.out];go_wp2;go_ret;exact ⟨(by rw [HR.out]; rfl),Below.refl _ _⟩
 rw [hu] at c0;have HU:=hide hu;clear hu;by_cases hp:bestP (zG id l)=(k:Int)
 ·have HR:Hid (zav id l (k:Int)=1):=hide (by rw [HRO.out]; unfold zcx; rw [if_neg (by rw [HU.out]; decide),if_pos hp]);have HP:=hide hp;clear c1 c2 c3 c4 c5 c6 c7 hx hp;go_enter Tryz.func221,Tryz.ntmps221;(go_wp2_with fail);refine (zU (k:Int) 0 ((n:Int) - 1) _).mono ?_;rintro e w1 ⟨rfl,ew⟩;obtain rfl:=ew.symm;rw [HIN.out];(go_wp2_with fail);refine (zbm id (some ⟨b,off,none⟩) n c l _ h).mono ?_;rintro e w2 ⟨rfl,hb2⟩;rw [HP.out];have HB:=hide (zd hb2 (zh _ (Obj.cells #[.int .i64 (bestV id (zG id l)).r,.int .i64 (bestV id (zG id l)).c,.int .i64 (bestV id (zG id l)).h,.int .i64 (bestV id (zG id l)).b,.int .i64 (bestV id (zG id l)).p] 111)));clear hb2 c0;go_wp2;go_ret;exact ⟨(by rw [HR.out]; rfl),HB.out⟩
 go_enter Tryz.func221,Tryz.ntmps221;go_wp2_with fail
 refine (zU (k:Int) 0 ((n:Int) - 1) _).mono ?_;rintro e w1 ⟨rfl,ew⟩;obtain rfl:=ew.symm;rw [HIN.out];go_wp2_with fail
 refine (zbm id (some ⟨b,off,none⟩) n c l _ h).mono ?_;rintro e w2 ⟨rfl,hb2⟩;generalize hw3:w2.alloc (Obj.cells #[.int .i64 (bestV id (zG id l)).r,.int .i64 (bestV id (zG id l)).c,.int .i64 (bestV id (zG id l)).h,.int .i64 (bestV id (zG id l)).b,.int .i64 (bestV id (zG id l)).p] 111)=w3;have HB:Hid (Below w.heap.size w w3):=hide (zd hb2 (by rw [← hw3]; exact zh _ _));clear hb2 c0 c1 c2 c3 c4 c5 c6 c7;obtain ⟨x',b',off',hx',ha',c0,c1,c2,c3,c4,c5,c6,c7⟩:=pt_at (h.below HB.out) k hlt;rw [hx] at hx';cases hx';cases ha';generalize hP:bestP (zG id l)=P at *;have hPne:((k:Int) == P)=false:=by simp; exact fun e=>hp e.symm
 have HX:=hide hx;have vv:Below w3.heap.size w3 w3.drew:=zv (Below.refl _ _);have HR0:Hid (zav id l (k:Int)=(if (!x.has || lessV (sayV id l (k:Int)) x.v)=true then 2 else 3)):=hide (by rw [HRO.out]; unfold zcx; rw [if_neg (by rw [HU.out]; decide),hP,if_neg hp]);clear c0 c1 hx hP;cases hh:x.has
 ·rw [hh] at c2;have HR:Hid (zav id l (k:Int)=2):=hide (by rw [HR0.out,hh]; rfl);have HSS:Hid (∀W',Below w3.heap.size w3 W'→zcc W' b (off+k*8+2) (.bool false)∧zcc W' b (off+k*8+3) (.int .i64 x.v.r)∧zcc W' b (off+k*8+4) (.int .i64 x.v.c)∧zcc W' b (off+k*8+5) (.int .i64 x.v.h)∧zcc W' b (off+k*8+6) (.int .i64 x.v.b)∧zcc W' b (off+k*8+7) (.int .i64 x.v.p)):=hide (fun W' hb=>⟨(hb.cell (zp c2)).trans c2,(hb.cell (zp c3)).trans c3,(hb.cell (zp c4)).trans c4,(hb.cell (zp c5)).trans c5,(hb.cell (zp c6)).trans c6,(hb.cell (zp c7)).trans c7⟩);clear c2 c3 c4 c5 c6 c7 hh;(go_wp2_with fail);refine wp_region_held_drew (S:=(fun W=>zcc W b (off+k*8+2) (.bool false)∧zcc W b (off+k*8+3) (.int .i64 x.v.r)∧zcc W b (off+k*8+4) (.int .i64 x.v.c)∧zcc W b (off+k*8+5) (.int .i64 x.v.h)∧zcc W b (off+k*8+6) (.int .i64 x.v.b)∧zcc W b (off+k*8+7) (.int .i64 x.v.p))) (by kernel_rfl) (HSS.out _ vv) (fun hHeld => ?_);refine kK 0 ?_;refine kK 1 ?_;refine kK 2 ?_;refine kK 3 ?_;refine kK 4 ?_;refine kK 5 ?_;refine kK 6 ?_;refine kN 7 ?_;refine kN 8 ?_;refine kN 9 ?_;refine kN 10 ?_;refine kN 11 ?_;refine kN 12 ?_;refine kN 13 ?_;refine kN 14 ?_;refine kN 15 ?_;refine kN 16 ?_;refine kK 17 ?_;refine wpAnyH_done (by kernel_rfl) ?_ _;clear hHeld;go_wp2;go_ret;exact ⟨(by rw [HR.out]; rfl),zd HB.out vv⟩
 ·rw [hh] at c2;have HSS:Hid (∀W',Below w3.heap.size w3 W'→zcc W' b (off+k*8+2) (.bool true)∧zcc W' b (off+k*8+3) (.int .i64 x.v.r)∧zcc W' b (off+k*8+4) (.int .i64 x.v.c)∧zcc W' b (off+k*8+5) (.int .i64 x.v.h)∧zcc W' b (off+k*8+6) (.int .i64 x.v.b)∧zcc W' b (off+k*8+7) (.int .i64 x.v.p)):=hide (fun W' hb=>⟨(hb.cell (zp c2)).trans c2,(hb.cell (zp c3)).trans c3,(hb.cell (zp c4)).trans c4,(hb.cell (zp c5)).trans c5,(hb.cell (zp c6)).trans c6,(hb.cell (zp c7)).trans c7⟩);clear c2 c3 c4 c5 c6 c7;cases hl:lessV (sayV id l (k:Int)) x.v
  ·have HR:Hid (zav id l (k:Int)=3):=hide (by rw [HR0.out,hh,hl]; rfl);have HL:Hid (zaE (sayV id l (k:Int)).r (sayV id l (k:Int)).c (sayV id l (k:Int)).b (sayV id l (k:Int)).p x.v.r x.v.c x.v.b x.v.p=false):=hide hl;clear hh hl;(go_wp2_with fail);refine wp_region_held_drew (S:=(fun W=>zcc W b (off+k*8+2) (.bool true)∧zcc W b (off+k*8+3) (.int .i64 x.v.r)∧zcc W b (off+k*8+4) (.int .i64 x.v.c)∧zcc W b (off+k*8+5) (.int .i64 x.v.h)∧zcc W b (off+k*8+6) (.int .i64 x.v.b)∧zcc W b (off+k*8+7) (.int .i64 x.v.p))) (by kernel_rfl) (HSS.out _ vv) (fun hHeld => ?_);refine kK 0 ?_;refine kK 1 ?_;refine kK 2 ?_;refine kK 3 ?_;refine kK 4 ?_;refine kK 5 ?_;refine kK 6 ?_;refine kK 7 ?_;refine kK 8 ?_;refine kK 9 ?_;refine kK 11 ?_;refine kK 12 ?_;refine kK 13 ?_;refine kK 14 ?_;refine kK 15 ?_;refine kR 10 fun K hK => ?_
   go_simp;refine (zca id (some ⟨b,off,none⟩) n c l (k:Int) _ (h.below (zd HB.out vv))).mono ?_;rintro e wx ⟨rfl,hbx⟩;have vv:=zd vv hbx;clear hbx;(go_wp2_with fail);refine kO hK (HSS.out _ vv) fun hHeld => ?_
   clear hK K;refine kR 16 fun K hK => ?_
   go_simp;refine (zaW (sayV id l (k:Int)).r (sayV id l (k:Int)).c (sayV id l (k:Int)).h (sayV id l (k:Int)).b (sayV id l (k:Int)).p x.v.r x.v.c x.v.h x.v.b x.v.p _).mono ?_;rintro e wx ⟨rfl,hbx⟩;rw [HL.out];have vv:=zd vv hbx;clear hbx;(go_wp2_with fail);refine kO hK (HSS.out _ vv) fun hHeld => ?_
   clear hK K;refine kK 17 ?_;refine wpAnyH_done (by kernel_rfl) ?_ _;clear hHeld;go_wp2;go_ret;exact ⟨(by rw [HR.out]; rfl),zd HB.out vv⟩
  ·have HR:Hid (zav id l (k:Int)=2):=hide (by rw [HR0.out,hh,hl]; rfl);have HL:Hid (zaE (sayV id l (k:Int)).r (sayV id l (k:Int)).c (sayV id l (k:Int)).b (sayV id l (k:Int)).p x.v.r x.v.c x.v.b x.v.p=true):=hide hl;clear hh hl;(go_wp2_with fail);refine wp_region_held_drew (S:=(fun W=>zcc W b (off+k*8+2) (.bool true)∧zcc W b (off+k*8+3) (.int .i64 x.v.r)∧zcc W b (off+k*8+4) (.int .i64 x.v.c)∧zcc W b (off+k*8+5) (.int .i64 x.v.h)∧zcc W b (off+k*8+6) (.int .i64 x.v.b)∧zcc W b (off+k*8+7) (.int .i64 x.v.p))) (by kernel_rfl) (HSS.out _ vv) (fun hHeld => ?_);refine kK 0 ?_;refine kK 1 ?_;refine kK 2 ?_;refine kK 3 ?_;refine kK 4 ?_;refine kK 5 ?_;refine kK 6 ?_;refine kK 7 ?_;refine kK 8 ?_;refine kK 9 ?_;refine kK 11 ?_;refine kK 12 ?_;refine kK 13 ?_;refine kK 14 ?_;refine kK 15 ?_;refine kR 10 fun K hK => ?_
   go_simp;refine (zca id (some ⟨b,off,none⟩) n c l (k:Int) _ (h.below (zd HB.out vv))).mono ?_;rintro e wx ⟨rfl,hbx⟩;have vv:=zd vv hbx;clear hbx;(go_wp2_with fail);refine kO hK (HSS.out _ vv) fun hHeld => ?_
   clear hK K;refine kR 16 fun K hK => ?_
   go_simp;refine (zaW (sayV id l (k:Int)).r (sayV id l (k:Int)).c (sayV id l (k:Int)).h (sayV id l (k:Int)).b (sayV id l (k:Int)).p x.v.r x.v.c x.v.h x.v.b x.v.p _).mono ?_;rintro e wx ⟨rfl,hbx⟩;rw [HL.out];have vv:=zd vv hbx;clear hbx;(go_wp2_with fail);refine kO hK (HSS.out _ vv) fun hHeld => ?_
   clear hK K;refine kK 17 ?_;refine wpAnyH_done (by kernel_rfl) ?_ _;clear hHeld;go_wp2;go_ret;exact ⟨(by rw [HR.out]; rfl),zd HB.out vv⟩

theorem zS {α:Type} (F:Flat α) {w:World} {g base:Nat} {l:List α} {cs:Array Value} {T:TypeId} (h:w.heap[g]? = some (.cells cs T)) (hc:cs.toList=F.all l) (hb:base≤g) (hm:l.length≤1000):w.ownsRow base T F.k (.slice (some ⟨g,0,none⟩) l.length l.length) l.length (F.all l):=by
 have hl:cs.toList.length=l.length*F.k:=by rw [hc,F.all_length]
 refine ⟨by rw [F.all_length],.inr ⟨g,l.length,cs,rfl,hb,h,Nat.le_refl _,by unfold maxLen; omega, ?_, ?_⟩⟩
 ·simpa using hl
 ·rw [← hc,← hl,List.take_length]

theorem zce (id:Int) (a:Option Addr) (n c:Nat) (l:List PT) (port:Int) (w:World) (h:GRow ptF w a n c l) :
  Calls Tryz.prog 229 #[.int .i64 id,.slice a n c,.int .i64 port] w fun e w'=>e=.returned (.agg #[.int .i64 (sayV id l port).r,.int .i64 (sayV id l port).c,.int .i64 (sayV id l port).h,.int .i64 (sayV id l port).b,.int .i64 (sayV id l port).p])∧Below w.heap.size w w':=by
 generalize hw1:w.alloc (Obj.cells #[.int .i64 0,.int .i64 0,.int .i64 0,.int .i64 0,.int .i64 0] 111)=w1;have q1:=zb hw1;have k1:=zk hw1;have hsb:(sayV id l port)=⟨(bestV id (zG id l)).r,(bestV id (zG id l)).c,(bestV id (zG id l)).h,(bestV id (zG id l)).b,port⟩:=by
  unfold sayV;cases zG id l <;> rfl
 rw [hsb];clear hsb;go_enter Tryz.func229,Tryz.ntmps229;go_wp2_with fail
 refine (zbq id a n c l _ (h.below q1)).mono ?_;rintro e w2 ⟨rfl,hb2⟩;generalize hv:bestV id (zG id l)=v;have HV:=hide hv;clear hv;generalize hw3:w2.alloc (Obj.cells #[.int .i64 v.r,.int .i64 v.c,.int .i64 v.h,.int .i64 v.b,.int .i64 v.p] 111)=w3;have hb3:=zb hw3;have k3:=zk hw3;have k1:=ze (ze k1 hb2) hb3;have lt1:=(Array.getElem?_eq_some_iff.1 (ze (by rw [← hw1]; exact zy _ _:w1.heap[w.heap.size]? = some (.cells #[.int .i64 0,.int .i64 0,.int .i64 0,.int .i64 0,.int .i64 0] 111)) hb2)).1;have ne1:¬w2.heap.size=w.heap.size:=by omega
 have ne2:¬w.heap.size=w2.heap.size:=by omega
 have HB:=hide (zP (zi (zd (zd q1 hb2) hb3) (g:=w2.heap.size) (by omega) 4 (.int .i64 port)) (Nat.le_refl w.heap.size) (.int .i64 v.r) (.int .i64 v.c) (.int .i64 v.h) (.int .i64 v.b) (.int .i64 port));obtain ⟨⟨x0,x1,x2,x3,x4⟩,y0,y1,y2,y3,y4⟩:=zo k3;obtain ⟨⟨r0,r1,r2,r3,r4⟩,z0,z1,z2,z3,z4⟩:=zo k1;clear hb2 hb3 k1 k3 q1 lt1;go_wp2;exact bodyPost_ret (v:=.agg #[.int .i64 v.r,.int .i64 v.c,.int .i64 v.h,.int .i64 v.b,.int .i64 port]) (by simp [results,Tryz.results229,go_sem, *]) rfl ⟨(by rw [HV.out]),HB.out⟩

theorem ze9 (id:Int) (a:Option Addr) (n c:Nat) (l:List PT) (port:Int) (w:World) (h:GRow ptF w a n c l) :
  Calls Tryz.prog 170 #[.int .i64 id,.slice a n c,.int .i64 port] w fun e w'=>e=.returned (.int .i64 (zav id l port))∧Below w.heap.size w w':=by
 have hle:=h.le;have htop:=h.top;unfold maxLen at htop;have hsz:=hide h.size;cases hin:(decide (0≤port) && decide (port≤(n:Int) - 1))
 ·have HIN:=hide hin;have HR:Hid (zav id l port=4):=hide (by unfold zav; rw [hsz.out,hin]; rfl);clear hin;go_enter Tryz.func170,Tryz.ntmps170;(go_wp2_with fail);refine (zg port 0 ((n:Int) - 1) _).mono ?_;rintro e w1 ⟨rfl,ew⟩;obtain rfl:=ew.symm;rw [HIN.out];go_wp2;go_ret;exact ⟨(by rw [HR.out]; rfl),Below.refl _ _⟩
 obtain ⟨k,rfl⟩:∃k:Nat,port=(k:Int):=⟨port.toNat,by simp at hin; omega⟩;have hlt:k < n:=by simp at hin; omega
 have HIN:=hide hin;have i1:(0:Int)≤(k:Int):=by omega
 have i2:(k:Int) < (n:Int):=by omega
 obtain ⟨x,b,off,hx,rfl,c0,c1,c2,c3,c4,c5,c6,c7⟩:=pt_at h k hlt;have hro:zav id l (k:Int)=zcx id l k x:=by
  unfold zav;rw [hsz.out,hin]
  simp [hx]
 have HRO:=hide hro;clear hin hro;cases hu:x.up
 ·rw [hu] at c0;have HR:Hid (zav id l (k:Int)=4):=hide (by rw [HRO.out]; unfold zcx; rw [if_pos hu]);clear hu c1 c2 c3 c4 c5 c6 c7 hx;go_enter Tryz.func170,Tryz.ntmps170;(go_wp2_with fail);refine (zg (k:Int) 0 ((n:Int) - 1) _).mono ?_;rintro e w1 ⟨rfl,ew⟩;obtain rfl:=ew.symm;rw [HIN.out];go_wp2;go_ret;exact ⟨(by rw [HR.out]; rfl),Below.refl _ _⟩
 rw [hu] at c0;have HU:=hide hu;clear hu;by_cases hp:bestP (zG id l)=(k:Int)
 ·have HR:Hid (zav id l (k:Int)=1):=hide (by rw [HRO.out]; unfold zcx; rw [if_neg (by rw [HU.out]; decide),if_pos hp]);have HP:=hide hp;clear c1 c2 c3 c4 c5 c6 c7 hx hp;go_enter Tryz.func170,Tryz.ntmps170;(go_wp2_with fail);refine (zg (k:Int) 0 ((n:Int) - 1) _).mono ?_;rintro e w1 ⟨rfl,ew⟩;obtain rfl:=ew.symm;rw [HIN.out];(go_wp2_with fail);refine (zbq id (some ⟨b,off,none⟩) n c l _ h).mono ?_;rintro e w2 ⟨rfl,hb2⟩;rw [HP.out];have HB:=hide (zd hb2 (zh _ (Obj.cells #[.int .i64 (bestV id (zG id l)).r,.int .i64 (bestV id (zG id l)).c,.int .i64 (bestV id (zG id l)).h,.int .i64 (bestV id (zG id l)).b,.int .i64 (bestV id (zG id l)).p] 111)));clear hb2 c0;go_wp2;go_ret;exact ⟨(by rw [HR.out]; rfl),HB.out⟩
 go_enter Tryz.func170,Tryz.ntmps170;go_wp2_with fail
 refine (zg (k:Int) 0 ((n:Int) - 1) _).mono ?_;rintro e w1 ⟨rfl,ew⟩;obtain rfl:=ew.symm;rw [HIN.out];go_wp2_with fail
 refine (zbq id (some ⟨b,off,none⟩) n c l _ h).mono ?_;rintro e w2 ⟨rfl,hb2⟩;generalize hw3:w2.alloc (Obj.cells #[.int .i64 (bestV id (zG id l)).r,.int .i64 (bestV id (zG id l)).c,.int .i64 (bestV id (zG id l)).h,.int .i64 (bestV id (zG id l)).b,.int .i64 (bestV id (zG id l)).p] 111)=w3;have HB:Hid (Below w.heap.size w w3):=hide (zd hb2 (by rw [← hw3]; exact zh _ _));clear hb2 c0 c1 c2 c3 c4 c5 c6 c7;obtain ⟨x',b',off',hx',ha',c0,c1,c2,c3,c4,c5,c6,c7⟩:=pt_at (h.below HB.out) k hlt;rw [hx] at hx';cases hx';cases ha';generalize hP:bestP (zG id l)=P at *;have hPne:(P == (k:Int))=false:=by simp [hp]
 have HX:=hide hx;have vv:Below w3.heap.size w3 w3.drew:=zv (Below.refl _ _);have HR0:Hid (zav id l (k:Int)=(if (!x.has || lessV (sayV id l (k:Int)) x.v)=true then 2 else 3)):=hide (by rw [HRO.out]; unfold zcx; rw [if_neg (by rw [HU.out]; decide),hP,if_neg hp]);clear c0 c1 hx hP;cases hh:x.has
 ·rw [hh] at c2;have HR:Hid (zav id l (k:Int)=2):=hide (by rw [HR0.out,hh]; rfl);have HSS:Hid (∀W',Below w3.heap.size w3 W'→zcc W' b (off+k*8+2) (.bool false)∧zcc W' b (off+k*8+3) (.int .i64 x.v.r)∧zcc W' b (off+k*8+4) (.int .i64 x.v.c)∧zcc W' b (off+k*8+5) (.int .i64 x.v.h)∧zcc W' b (off+k*8+6) (.int .i64 x.v.b)∧zcc W' b (off+k*8+7) (.int .i64 x.v.p)):=hide (fun W' hb=>⟨(hb.cell (zp c2)).trans c2,(hb.cell (zp c3)).trans c3,(hb.cell (zp c4)).trans c4,(hb.cell (zp c5)).trans c5,(hb.cell (zp c6)).trans c6,(hb.cell (zp c7)).trans c7⟩);clear c2 c3 c4 c5 c6 c7 hh;(go_wp2_with fail);refine wp_region_held_drew (S:=(fun W=>zcc W b (off+k*8+2) (.bool false)∧zcc W b (off+k*8+3) (.int .i64 x.v.r)∧zcc W b (off+k*8+4) (.int .i64 x.v.c)∧zcc W b (off+k*8+5) (.int .i64 x.v.h)∧zcc W b (off+k*8+6) (.int .i64 x.v.b)∧zcc W b (off+k*8+7) (.int .i64 x.v.p))) (by kernel_rfl) (HSS.out _ vv) (fun hHeld => ?_);refine kK 0 ?_;refine kK 1 ?_;refine kK 2 ?_;refine kK 3 ?_;refine kK 4 ?_;refine kK 5 ?_;refine kK 6 ?_;refine kN 7 ?_;refine kN 8 ?_;refine kN 9 ?_;refine kN 10 ?_;refine kN 11 ?_;refine kN 12 ?_;refine kN 13 ?_;refine kN 14 ?_;refine kN 15 ?_;refine kN 16 ?_;refine kK 17 ?_;refine kK 18 ?_;refine wpAnyH_done (by kernel_rfl) ?_ _;clear hHeld;go_wp2;go_ret;exact ⟨(by rw [HR.out]; rfl),zd HB.out vv⟩
 ·rw [hh] at c2;have HSS:Hid (∀W',Below w3.heap.size w3 W'→zcc W' b (off+k*8+2) (.bool true)∧zcc W' b (off+k*8+3) (.int .i64 x.v.r)∧zcc W' b (off+k*8+4) (.int .i64 x.v.c)∧zcc W' b (off+k*8+5) (.int .i64 x.v.h)∧zcc W' b (off+k*8+6) (.int .i64 x.v.b)∧zcc W' b (off+k*8+7) (.int .i64 x.v.p)):=hide (fun W' hb=>⟨(hb.cell (zp c2)).trans c2,(hb.cell (zp c3)).trans c3,(hb.cell (zp c4)).trans c4,(hb.cell (zp c5)).trans c5,(hb.cell (zp c6)).trans c6,(hb.cell (zp c7)).trans c7⟩);clear c2 c3 c4 c5 c6 c7;cases hl:lessV (sayV id l (k:Int)) x.v
  ·have HR:Hid (zav id l (k:Int)=3):=hide (by rw [HR0.out,hh,hl]; rfl);have HL:Hid (zaE (sayV id l (k:Int)).r (sayV id l (k:Int)).c (sayV id l (k:Int)).b (sayV id l (k:Int)).p x.v.r x.v.c x.v.b x.v.p=false):=hide hl;clear hh hl;(go_wp2_with fail);refine wp_region_held_drew (S:=(fun W=>zcc W b (off+k*8+2) (.bool true)∧zcc W b (off+k*8+3) (.int .i64 x.v.r)∧zcc W b (off+k*8+4) (.int .i64 x.v.c)∧zcc W b (off+k*8+5) (.int .i64 x.v.h)∧zcc W b (off+k*8+6) (.int .i64 x.v.b)∧zcc W b (off+k*8+7) (.int .i64 x.v.p))) (by kernel_rfl) (HSS.out _ vv) (fun hHeld => ?_);refine kK 0 ?_;refine kK 1 ?_;refine kK 2 ?_;refine kK 3 ?_;refine kK 4 ?_;refine kK 5 ?_;refine kK 6 ?_;refine kK 7 ?_;refine kK 8 ?_;refine kK 9 ?_;refine kK 11 ?_;refine kK 12 ?_;refine kK 13 ?_;refine kK 14 ?_;refine kK 15 ?_;refine kR 10 fun K hK => ?_
   go_simp;refine (zce id (some ⟨b,off,none⟩) n c l (k:Int) _ (h.below (zd HB.out vv))).mono ?_;rintro e wx ⟨rfl,hbx⟩;have vv:=zd vv hbx;clear hbx;(go_wp2_with fail);refine kO hK (HSS.out _ vv) fun hHeld => ?_
   clear hK K;refine kR 16 fun K hK => ?_
   go_simp;refine (zaZ (sayV id l (k:Int)).r (sayV id l (k:Int)).c (sayV id l (k:Int)).h (sayV id l (k:Int)).b (sayV id l (k:Int)).p x.v.r x.v.c x.v.h x.v.b x.v.p _).mono ?_;rintro e wx ⟨rfl,hbx⟩;rw [HL.out];have vv:=zd vv hbx;clear hbx;(go_wp2_with fail);refine kO hK (HSS.out _ vv) fun hHeld => ?_
   clear hK K;refine kK 17 ?_;refine kK 18 ?_;refine wpAnyH_done (by kernel_rfl) ?_ _;clear hHeld;go_wp2;go_ret;exact ⟨(by rw [HR.out]; rfl),zd HB.out vv⟩
  ·have HR:Hid (zav id l (k:Int)=2):=hide (by rw [HR0.out,hh,hl]; rfl);have HL:Hid (zaE (sayV id l (k:Int)).r (sayV id l (k:Int)).c (sayV id l (k:Int)).b (sayV id l (k:Int)).p x.v.r x.v.c x.v.b x.v.p=true):=hide hl;clear hh hl;(go_wp2_with fail);refine wp_region_held_drew (S:=(fun W=>zcc W b (off+k*8+2) (.bool true)∧zcc W b (off+k*8+3) (.int .i64 x.v.r)∧zcc W b (off+k*8+4) (.int .i64 x.v.c)∧zcc W b (off+k*8+5) (.int .i64 x.v.h)∧zcc W b (off+k*8+6) (.int .i64 x.v.b)∧zcc W b (off+k*8+7) (.int .i64 x.v.p))) (by kernel_rfl) (HSS.out _ vv) (fun hHeld => ?_);refine kK 0 ?_;refine kK 1 ?_;refine kK 2 ?_;refine kK 3 ?_;refine kK 4 ?_;refine kK 5 ?_;refine kK 6 ?_;refine kK 7 ?_;refine kK 8 ?_;refine kK 9 ?_;refine kK 11 ?_;refine kK 12 ?_;refine kK 13 ?_;refine kK 14 ?_;refine kK 15 ?_;refine kR 10 fun K hK => ?_
   go_simp;refine (zce id (some ⟨b,off,none⟩) n c l (k:Int) _ (h.below (zd HB.out vv))).mono ?_;rintro e wx ⟨rfl,hbx⟩;have vv:=zd vv hbx;clear hbx;(go_wp2_with fail);refine kO hK (HSS.out _ vv) fun hHeld => ?_
   clear hK K;refine kR 16 fun K hK => ?_
   go_simp;refine (zaZ (sayV id l (k:Int)).r (sayV id l (k:Int)).c (sayV id l (k:Int)).h (sayV id l (k:Int)).b (sayV id l (k:Int)).p x.v.r x.v.c x.v.h x.v.b x.v.p _).mono ?_;rintro e wx ⟨rfl,hbx⟩;rw [HL.out];have vv:=zd vv hbx;clear hbx;(go_wp2_with fail);refine kO hK (HSS.out _ vv) fun hHeld => ?_
   clear hK K;refine kK 17 ?_;refine kK 18 ?_;refine wpAnyH_done (by kernel_rfl) ?_ _;clear hHeld;go_wp2;go_ret;exact ⟨(by rw [HR.out]; rfl),zd HB.out vv⟩

section
open Go.RowKit

structure BI where
 oa:Option Addr
 on:Nat
 oc:Nat
 o:List Int
 K:Int
 N:Int
 S:ByteArray
 za:Option Addr
 zn:Nat
 zc:Nat
 z:List Int

def BI.d (x:BI):BD:=⟨x.o,x.K,x.N,x.S,x.z⟩

structure BI.In (w:World) (x:BI):Prop where
 o:IRow w x.oa x.on x.oc x.o
 z:IRow w x.za x.zn x.zc x.z
 s:x.S.size≤maxLen

def BI.At (w:World) (b p:Nat) (x:BI):Prop :=
 w.cell? ⟨b,p,none⟩=some (.slice x.oa x.on x.oc)∧w.cell? ⟨b,p+1,none⟩=some (.int .i64 x.K)∧w.cell? ⟨b,p+2,none⟩=some (.int .i64 x.N)∧w.cell? ⟨b,p+3,none⟩=some (.string x.S)∧w.cell? ⟨b,p+4,none⟩=some (.slice x.za x.zn x.zc)

structure BRow (w:World) (ao:Option Addr) (len cap:Nat) (l:List BI):Prop where
 size:l.length=len
 le:len≤cap
 top:cap≤maxLen
 nil:ao=none→cap=0
 item:∀x∈l,x.In w
 cell:len=0∨∃b off,ao=some ⟨b,off,none⟩∧∀(i:Nat) (x:BI),l[i]? = some x→x.At w b (off+i*5)

theorem BI.In.below {w w':World} {x:BI} (h:x.In w) (hb:Below w.heap.size w w'):x.In w':=⟨h.o.below hb,h.z.below hb,h.s⟩

theorem BI.At.below {w w':World} {b p:Nat} {x:BI} (h:x.At w b p) (hb:Below w.heap.size w w'):x.At w' b p:=by
 obtain ⟨h0,h1,h2,h3,h4⟩:=h;exact ⟨(hb.cell (zp h0)).trans h0,(hb.cell (zp h1)).trans h1,(hb.cell (zp h2)).trans h2,(hb.cell (zp h3)).trans h3,(hb.cell (zp h4)).trans h4⟩

theorem BRow.below {w w':World} {ao:Option Addr} {len cap:Nat} {l:List BI} (h:BRow w ao len cap l) (hb:Below w.heap.size w w'):BRow w' ao len cap l where
 size:=h.size
 le:=h.le
 top:=h.top
 nil:=h.nil
 item:=fun x hx=>(h.item x hx).below hb
 cell:=by
  rcases h.cell with h0 | ⟨b,off,ha,hc⟩
  ·exact .inl h0
  ·exact .inr ⟨b,off,ha,fun i x hi=>(hc i x hi).below hb⟩

theorem BRow.at {w:World} {ao:Option Addr} {len cap:Nat} {l:List BI} (h:BRow w ao len cap l) (i:Nat) (hi:i < len):∃x b off,l[i]? = some x∧ao=some ⟨b,off,none⟩∧x.At w b (off+i*5)∧x.In w:=by
 have hl:=h.size;rcases h.cell with h0 | ⟨b,off,ha,hc⟩
 ·omega
 ·have hx:l[i]? = some l[i]:=List.getElem?_eq_getElem (by omega);exact ⟨_,b,off,hx,ha,hc i _ hx,h.item _ (List.getElem_mem _)⟩

section
variable {H:Type} {enc:TypeId × Value→H} {P:Program} {w:World}

end

end

def BI.cs (x:BI):List Value:=[.slice x.oa x.on x.oc,.int .i64 x.K,.int .i64 x.N,.string x.S,.slice x.za x.zn x.zc]
def cBs (l:List BI):List Value:=l.flatMap BI.cs

theorem zdb (x:BI):x.cs.length=5:=rfl
theorem zc0 (x:BI) (l:List BI):cBs (x::l)=x.cs++cBs l:=by simp [cBs]
theorem zbE (a b:List BI):cBs (a++b)=cBs a++cBs b:=by simp [cBs]
theorem zbj (l:List BI):(cBs l).length=l.length*5:=by
 induction l with
 | nil=>rfl
 | cons x l ih=>rw [zc0,List.length_append,ih,zdb,List.length_cons]; omega

theorem ziX (pre:List BI) (x:BI) (post:List BI) (j:Nat) (hj:j < 5):(cBs (pre++x::post))[pre.length*5+j]? = x.cs[j]? := by
 rw [zbE,zc0,List.getElem?_append_right (by rw [zbj]; omega),zbj,Nat.add_sub_cancel_left,List.getElem?_append_left (by rw [zdb]; exact hj)]

theorem ziD (pre:List BI) (x x':BI) (post:List BI) (j:Nat) (u:Value) (hj:j < 5) (h:x.cs.set j u=x'.cs):(cBs (pre++x::post)).set (pre.length*5+j) u=cBs (pre++x'::post):=by
 rw [zbE,zc0,List.set_append_right _ _ (by rw [zbj]; omega),zbj,Nat.add_sub_cancel_left,List.set_append_left _ _ (by rw [zdb]; exact hj),h,zbE,zc0]

def BI.blks (x:BI):List Nat:=blkL x.oa++blkL x.za

structure BOwn (w:World) (base:Nat) (x:BI):Prop where
 o:w.ownsRow base 3 1 (.slice x.oa x.on x.oc) x.on (cI x.o)
 z:w.ownsRow base 3 1 (.slice x.za x.zn x.zc) x.zn (cI x.z)
 ob:I64s x.o
 zb:I64s x.z
 s:x.S.size≤maxLen

theorem BOwn.in {w:World} {base:Nat} {x:BI} (h:BOwn w base x):x.In w:=⟨zQ h.o h.ob,zQ h.z h.zb,h.s⟩
theorem BOwn.below {w w':World} {base:Nat} {x:BI} (h:BOwn w base x) (hb:Below w.heap.size w w'):BOwn w' base x:=⟨zaY h.o hb,zaY h.z hb,h.ob,h.zb,h.s⟩
theorem BOwn.lt {w:World} {base base':Nat} {x:BI} (h:BOwn w base x) (hb:base'≤base):BOwn w base' x:=⟨zaS h.o hb,zaS h.z hb,h.ob,h.zb,h.s⟩
theorem BOwn.only {bs:List Nat} {w w':World} {base:Nat} {x:BI} (h:BOwn w base x) (ho:Only bs w w') (hn:∀b∈x.blks,b∉bs):BOwn w' base x :=
 ⟨ho.own h.o (fun k hk=>hn k (List.mem_append_left _ (zT.1 hk))),ho.own h.z (fun k hk=>hn k (List.mem_append_right _ (zT.1 hk))),h.ob,h.zb,h.s⟩
theorem BOwn.blk {w:World} {base:Nat} {x:BI} (h:BOwn w base x):∀b∈x.blks,base≤b∧b < w.heap.size:=by
 intro b hb;rcases List.mem_append.1 hb with hb | hb
 ·exact h.o.lt b (zT.2 hb)
 ·exact h.z.lt b (zT.2 hb)

structure BOwns (w:World) (base:Nat) (ao:Option Addr) (n cap:Nat) (l:List BI):Prop where
 row:w.ownsRow base 37 5 (.slice ao n cap) n (cBs l)
 item:∀x∈l,BOwn w base x
 apart:(l.flatMap BI.blks).Nodup

def allBi (ao:Option Addr) (l:List BI):List Nat:=blkL ao++l.flatMap BI.blks

theorem BOwns.size {w:World} {base:Nat} {ao:Option Addr} {n cap:Nat} {l:List BI} (h:BOwns w base ao n cap l):l.length=n:=by
 have:=h.row.1; rw [zbj] at this; omega

theorem BOwns.below {w w':World} {base:Nat} {ao:Option Addr} {n cap:Nat} {l:List BI} (h:BOwns w base ao n cap l) (hb:Below w.heap.size w w'):BOwns w' base ao n cap l :=
 ⟨zdZ h.row hb,fun x hx=>(h.item x hx).below hb,h.apart⟩
theorem BOwns.lt {w:World} {base base':Nat} {ao:Option Addr} {n cap:Nat} {l:List BI} (h:BOwns w base ao n cap l) (hb:base'≤base):BOwns w base' ao n cap l :=
 ⟨zhi h.row hb,fun x hx=>(h.item x hx).lt hb,h.apart⟩
theorem BOwns.only {bs:List Nat} {w w':World} {base:Nat} {ao:Option Addr} {n cap:Nat} {l:List BI} (h:BOwns w base ao n cap l) (ho:Only bs w w') (hn:∀b∈allBi ao l,b∉bs):BOwns w' base ao n cap l :=
 ⟨ho.own h.row (fun k hk=>hn k (List.mem_append_left _ (zT.1 hk))),fun x hx=>(h.item x hx).only ho (fun b hb=>hn b (List.mem_append_right _ (List.mem_flatMap.2 ⟨x,hx,hb⟩))),h.apart⟩
theorem BOwns.blk {w:World} {base:Nat} {ao:Option Addr} {n cap:Nat} {l:List BI} (h:BOwns w base ao n cap l):∀b∈allBi ao l,base≤b∧b < w.heap.size:=by
 intro b hb;rcases List.mem_append.1 hb with hb | hb
 ·exact h.row.lt b (zT.2 hb)
 ·obtain ⟨x,hx,hb⟩:=List.mem_flatMap.1 hb;exact (h.item x hx).blk b hb

theorem BOwns.brow {w:World} {base:Nat} {ao:Option Addr} {n cap:Nat} {l:List BI} (h:BOwns w base ao n cap l):BRow w ao n cap l:=by
 have hl:=h.size;have hin:=fun x hx=>(h.item x hx).in
 rcases h.row.2 with ⟨e,h0⟩ | ⟨g,cap',cur,e,_,_,h1,h2,_⟩
 ·cases e;exact ⟨hl,Nat.le_refl _,Nat.zero_le _,fun _=>rfl,hin,.inl rfl⟩
 ·cases e;refine ⟨hl,h1,h2,(by intro h; cases h),hin,.inr ⟨g,0,rfl,fun i x hi => ?_⟩⟩;obtain ⟨hil,hx⟩:=List.getElem?_eq_some_iff.1 hi;have el:l=l.take i++x::l.drop (i+1):=by rw [← hx,← List.drop_eq_getElem_cons hil,List.take_append_drop]
  have at_:∀j,j < 5→w.cell? ⟨g,i*5+j,none⟩=x.cs[j]? := by
   intro j hj;rw [h.row.cellAt _ (by omega)]
   have:=ziX (l.take i) x (l.drop (i+1)) j hj
   rw [← el,List.length_take,Nat.min_eq_left (by omega)] at this;exact this
  have a0:=at_ 0 (by omega); have a1:=at_ 1 (by omega); have a2:=at_ 2 (by omega); have a3:=at_ 3 (by omega); have a4:=at_ 4 (by omega)
  unfold BI.At;rw [Nat.zero_add];exact ⟨a0,a1,a2,a3,a4⟩

theorem BOwns.type_apart {w:World} {base:Nat} {ao:Option Addr} {n cap:Nat} {l:List BI} (h:BOwns w base ao n cap l) {x:BI} (hx:x∈l):∀b∈x.blks,b∉blkL ao:=by
 intro b hb hc;have hne:(3:Nat)≠37:=by decide
 rcases List.mem_append.1 hb with hb | hb
 ·exact zbD (h.item x hx).o h.row hne (zT.2 hb) (zT.2 hc)
 ·exact zbD (h.item x hx).z h.row hne (zT.2 hb) (zT.2 hc)

theorem zc5 {pre post:List BI} {x:BI} (h:((pre++x::post).flatMap BI.blks).Nodup):x.blks.Nodup∧∀y,y∈pre∨y∈post→∀b∈y.blks,b∉x.blks:=by
 rw [List.flatMap_append,List.flatMap_cons] at h;obtain ⟨h1,h2,h3⟩:=List.nodup_append.1 h;obtain ⟨h4,h5,h6⟩:=List.nodup_append.1 h2;refine ⟨h4,fun y hy b hb hx => ?_⟩;rcases hy with hy | hy
 ·exact h3 b (List.mem_flatMap.2 ⟨y,hy,hb⟩) b (List.mem_append_left _ hx) rfl
 ·exact h6 b hx b (List.mem_flatMap.2 ⟨y,hy,hb⟩) rfl

theorem BOwns.turn {bs:List Nat} {w w':World} {base:Nat} {ao:Option Addr} {n cap:Nat} {pre post:List BI} {x x':BI} (h:BOwns w base ao n cap (pre++x::post)) (hb:x'.blks=x.blks) (ho:Only bs w w') (hs:∀b∈bs,b∈x.blks∨b∈blkL ao)
  (hr:w'.ownsRow base 37 5 (.slice ao n cap) n (cBs (pre++x'::post))) (hx:BOwn w' base x'):BOwns w' base ao n cap (pre++x'::post) where
 row:=hr
 item:=by
  intro y hy;have hm:=(zc5 h.apart).2;have keep:(y∈pre∨y∈post)→y∈pre++x::post→BOwn w' base y:=fun hy hy'=>(h.item y hy').only ho (fun b hb hbs=>by
   rcases hs b hbs with h1 | h1
   ·exact hm y hy b hb h1
   ·exact h.type_apart hy' b hb h1)
  rcases List.mem_append.1 hy with hy | hy
  ·exact keep (.inl hy) (List.mem_append_left _ hy)
  ·rcases List.mem_cons.1 hy with rfl | hy
   ·exact hx
   ·exact keep (.inr hy) (List.mem_append_right _ (List.mem_cons_of_mem _ hy))
 apart:=by
  have:=h.apart
  rw [List.flatMap_append,List.flatMap_cons] at this ⊢;rw [hb]; exact this

theorem BOwns.setO {w w':World} {base:Nat} {ao:Option Addr} {n cap:Nat} {pre post:List BI} {x:BI} {o':List Int} (h:BOwns w base ao n cap (pre++x::post)) (hg:w.grownBy w' (Value.slice x.oa x.on x.oc).ownBlock)
  (ho:w'.ownsRow base 3 1 (.slice x.oa x.on x.oc) x.on (cI o')) (hb:I64s o'):BOwns w' base ao n cap (pre++{ x with o:=o' }::post):=by
 have O:=Only.of_grown hg;have hx:x∈pre++x::post:=by simp
 have I:=h.item x hx;have nd:=(zc5 h.apart).1;refine h.turn (bs:=blkL x.oa) (x':={ x with o:=o' }) rfl O (fun b hb=>.inl (List.mem_append_left _ hb)) ?_ ⟨ho, ?_,hb,I.zb,I.s⟩
 ·have e:cBs (pre++{ x with o:=o' }::post)=cBs (pre++x::post):=by simp [cBs,BI.cs]
  rw [e];exact O.own h.row (fun k hk hk'=>h.type_apart hx k (List.mem_append_left _ hk') (zT.1 hk))
 ·exact O.own I.z (fun k hk hk'=>(List.nodup_append.1 nd).2.2 k hk' k (zT.1 hk) rfl)

theorem BOwns.setZ {w w':World} {base:Nat} {ao:Option Addr} {n cap:Nat} {pre post:List BI} {x:BI} {z':List Int} (h:BOwns w base ao n cap (pre++x::post)) (hg:w.grownBy w' (Value.slice x.za x.zn x.zc).ownBlock)
  (ho:w'.ownsRow base 3 1 (.slice x.za x.zn x.zc) x.zn (cI z')) (hb:I64s z'):BOwns w' base ao n cap (pre++{ x with z:=z' }::post):=by
 have O:=Only.of_grown hg;have hx:x∈pre++x::post:=by simp
 have I:=h.item x hx;have nd:=(zc5 h.apart).1;refine h.turn (bs:=blkL x.za) (x':={ x with z:=z' }) rfl O (fun b hb=>.inl (List.mem_append_right _ hb)) ?_ ⟨?_,ho,I.ob,hb,I.s⟩
 ·have e:cBs (pre++{ x with z:=z' }::post)=cBs (pre++x::post):=by simp [cBs,BI.cs]
  rw [e];exact O.own h.row (fun k hk hk'=>h.type_apart hx k (List.mem_append_right _ hk') (zT.1 hk))
 ·exact O.own I.o (fun k hk hk'=>(List.nodup_append.1 nd).2.2 k (zT.1 hk) k hk' rfl)

theorem BOwns.at {w:World} {base:Nat} {ao:Option Addr} {n cap:Nat} {pre post:List BI} {x:BI} (h:BOwns w base ao n cap (pre++x::post)):∃g,ao=some ⟨g,0,none⟩∧x.At w g (pre.length*5)∧x.In w∧∀j,w.frozen? ⟨g,j,none⟩=false:=by
 have hl:=h.size;have B:=h.brow;rcases h.row.2 with ⟨e,h0⟩ | ⟨g,cap',cur,e,_,_,h1,h2,_⟩
 ·simp at hl; omega
 ·cases e;rcases B.cell with h0 | ⟨b,off,ha,hc⟩
  ·simp at hl; omega
  ·cases ha
   have:=hc pre.length x (by simp)
   rw [Nat.zero_add] at this;exact ⟨g,rfl,this,B.item x (by simp),fun j=>h.row.frozenAt j⟩

theorem BOwns.store {w:World} {base:Nat} {g n cap:Nat} {pre post:List BI} {x x':BI} {j:Nat} {u:Value} (h:BOwns w base (some ⟨g,0,none⟩) n cap (pre++x::post)) (hj:j < 5) (hc:x.cs.set j u=x'.cs) (hb:x'.blks=x.blks) (hx:BOwn w base x→BOwn w base x') :
  BOwns (w.setCell ⟨g,pre.length*5+j,none⟩ u) base (some ⟨g,0,none⟩) n cap (pre++x'::post):=by
 have hm:x∈pre++x::post:=by simp
 have R:=(h.row.stored (pre.length*5+j) u).1;rw [ziD pre x x' post j u hj hc] at R;have O:=Only.set w g (pre.length*5+j) u;refine h.turn hb O (fun b hb=>.inr (by simpa [blkL] using hb)) R ?_;exact (hx (h.item x hm)).only O (fun b hb' hb2=>h.type_apart hm b (hb▸hb') (by simpa [blkL] using hb2))

theorem BOwns.setK {w:World} {base:Nat} {g n cap:Nat} {pre post:List BI} {x:BI} (h:BOwns w base (some ⟨g,0,none⟩) n cap (pre++x::post)) (K:Int):BOwns (w.setCell ⟨g,pre.length*5+1,none⟩ (.int .i64 K)) base (some ⟨g,0,none⟩) n cap (pre++{ x with K:=K }::post) :=
 h.store (by omega) rfl rfl (fun I=>⟨I.o,I.z,I.ob,I.zb,I.s⟩)
theorem BOwns.setN {w:World} {base:Nat} {g n cap:Nat} {pre post:List BI} {x:BI} (h:BOwns w base (some ⟨g,0,none⟩) n cap (pre++x::post)) (N:Int):BOwns (w.setCell ⟨g,pre.length*5+2,none⟩ (.int .i64 N)) base (some ⟨g,0,none⟩) n cap (pre++{ x with N:=N }::post) :=
 h.store (by omega) rfl rfl (fun I=>⟨I.o,I.z,I.ob,I.zb,I.s⟩)
theorem BOwns.setS {w:World} {base:Nat} {g n cap:Nat} {pre post:List BI} {x:BI} (h:BOwns w base (some ⟨g,0,none⟩) n cap (pre++x::post)) (S:ByteArray) (hS:S.size≤maxLen):BOwns (w.setCell ⟨g,pre.length*5+3,none⟩ (.string S)) base (some ⟨g,0,none⟩) n cap (pre++{ x with S:=S }::post) :=
 h.store (by omega) rfl rfl (fun I=>⟨I.o,I.z,I.ob,I.zb,hS⟩)

theorem BOwns.push {w w':World} {base:Nat} {ao ao':Option Addr} {n cap cap':Nat} {l:List BI} {x:BI} (h:BOwns w base ao n cap l) (hx:BOwn w base x) (hnd:x.blks.Nodup) (hap:∀y∈l,∀b∈y.blks,b∉x.blks) (hg:w.grownBy w' (Value.slice ao n cap).ownBlock)
  (hr:w'.ownsRow base 37 5 (.slice ao' (n+1) cap') (n+1) (cBs l++x.cs)):BOwns w' base ao' (n+1) cap' (l++[x]) where
 row:=by rw [zbE]; simpa [cBs] using hr
 item:=by
  have O:=Only.of_grown hg;intro y hy;rcases List.mem_append.1 hy with hy | hy
  ·exact (h.item y hy).only O (h.type_apart hy)
  ·rw [List.mem_singleton] at hy;subst hy;have hne:(3:Nat)≠37:=by decide
   refine hx.only O fun b hb hc => ?_
   rcases List.mem_append.1 hb with hb | hb
   ·exact zbD hx.o h.row hne (zT.2 hb) (zT.2 hc)
   ·exact zbD hx.z h.row hne (zT.2 hb) (zT.2 hc)
 apart:=by
  rw [List.flatMap_append,List.nodup_append];refine ⟨h.apart,by simpa using hnd, ?_⟩;intro b hb c hc e;subst e;obtain ⟨y,hy,hb⟩:=List.mem_flatMap.1 hb;exact hap y hy b hb (by simpa using hc)

theorem zdi (w:World) (g:Nat) (c0 c1 c2 c3 c4:Value):w.grownBy (((((w.setCell ⟨g,0,none⟩ c0).setCell ⟨g,1,none⟩ c1).setCell ⟨g,2,none⟩ c2).setCell ⟨g,3,none⟩ c3).setCell ⟨g,4,none⟩ c4) (some g) :=
 zA (zA (zA (zA (zl 0 _) (zl 1 _)) (zl 2 _)) (zl 3 _)) (zl 4 _)

theorem zb0 {w:World} {base k:Nat} {e:TypeId} {v:Value} {n:Nat} {xs:List Value} (h:w.ownsRow base e k v n xs) {pb:Nat} {cs:Array Value} {T:TypeId} (hp:w.heap[pb]? = some (.cells cs T)) (hne:T≠e):∀b,v.ownBlock=some b→b≠pb:=by
 intro b hv he;subst he;obtain ⟨-,⟨rfl,-⟩ | ⟨g,cap,cur,rfl,hg,hh,r⟩⟩:=h
 ·cases hv
 ·have e1:g=b:=by simpa [Value.ownBlock] using hv
  subst e1;rw [hp] at hh;cases hh;exact hne rfl

theorem zfV {w w':World} {base g:Nat} {cs:Array Value} {y:BI} (h:BOwn w base y) (hg:w.heap[g]? = some (.cells cs 37)) (hs:w.grownBy w' (some g)):BOwn w' base y:=by
 have hne:(37:Nat)≠3:=by decide
 have ho:Only [g] w w':=⟨hs.os,hs.tape,hs.output,hs.size,fun k hk hn=>hs.block k hk (fun e=>hn (by cases e; simp))⟩;refine h.only ho (fun b hb hc => ?_);have hbg:b=g:=by simpa using hc
 rcases List.mem_append.1 hb with hb | hb
 ·exact zb0 h.o hg hne b (zT.2 hb) hbg
 ·exact zb0 h.z hg hne b (zT.2 hb) hbg

theorem Tryz.infoBind':(Tryz.prog.info? 37).map (fun i=>(i.zero,i.size,i.bytes))=some (some (.agg #[.slice none 0 0,.int .i64 0,.int .i64 0,.string ⟨#[]⟩,.slice none 0 0]),5,80):=by kernel_rfl

theorem zex (w:World) (y:BI):∀(j:Nat) (u:Value),y.cs[j]? = some u→(w.alloc (.cells #[.slice y.oa y.on y.oc,.int .i64 y.K,.int .i64 y.N,.string y.S,.slice y.za y.zn y.zc] 37)).cell? ((⟨w.heap.size,0,none⟩:Addr).add j)=some u:=by
 intro j u hu;obtain ⟨⟨c0,c1,c2,c3,c4⟩,-⟩:=zo (zy w (.cells #[.slice y.oa y.on y.oc,.int .i64 y.K,.int .i64 y.N,.string y.S,.slice y.za y.zn y.zc] 37));rw [zck,Nat.zero_add]
 match j,hu with
 | 0,hu=>rw [c0]; exact hu
 | 1,hu=>rw [c1]; exact hu
 | 2,hu=>rw [c2]; exact hu
 | 3,hu=>rw [c3]; exact hu
 | 4,hu=>rw [c4]; exact hu
 | k+5,hu=>simp [BI.cs] at hu

theorem zdQ (y:BI):∀u∈y.cs,u.oneCell'=true:=by
 intro u hu;simp only [BI.cs,List.mem_cons,List.not_mem_nil,or_false] at hu;rcases hu with rfl | rfl | rfl | rfl | rfl <;> rfl

theorem ze1 {w:World} {base:Nat} {e:TypeId} {s:Nat} {v:Value} {n:Nat} {xs:List Value} (h:w.ownsRow base e s v n xs):∃ao cap,v=.slice ao n cap:=by
 rcases h.2 with ⟨rfl,rfl⟩ | ⟨g,cap,cur,rfl,_⟩
 ·exact ⟨_,_,rfl⟩
 ·exact ⟨_,_,rfl⟩

theorem ziB {w w':World} {base:Nat} {ao:Option Addr} {n cap:Nat} {l:List BI} (h:BOwns w base ao n cap l) (hg:w.grownBy w' (Value.slice ao n cap).ownBlock) (hb:base≤w.heap.size):Below base w w' :=
 (Only.of_grown hg).below hb (fun b hb=>(h.row.lt b (zT.2 hb)).1)

def sameV (K N:Int) (S:ByteArray) (z:List Int) (K' N':Int) (S':ByteArray) (z':List Int):Bool:=(K == K') && ((N == N') && ((S.toList == S'.toList) && decide (z=z')))

theorem zd4 (K N:Int) (S:ByteArray) (z:List Int):sameV K N S z K N S z=true:=by simp [sameV]

theorem zim {K N:Int} {S:ByteArray} {z:List Int} {K' N':Int} {S':ByteArray} {z':List Int} (h:(K != K')=true):false=sameV K N S z K' N' S' z':=by
 simp at h; simp [sameV,h]
theorem zin {K N:Int} {S:ByteArray} {z:List Int} {K' N':Int} {S':ByteArray} {z':List Int} (h:(N != N')=true):false=sameV K N S z K' N' S' z':=by
 simp at h; simp [sameV,h]
theorem zip {K N:Int} {S:ByteArray} {z:List Int} {K' N':Int} {S':ByteArray} {z':List Int} (h:(!S.toList == S'.toList)=true):false=sameV K N S z K' N' S' z':=by
 simp at h; simp [sameV,h]
theorem zio {K N:Int} {S:ByteArray} {z:List Int} {K' N':Int} {S':ByteArray} {z':List Int} (h:decide (z=z')=false):false=sameV K N S z K' N' S' z':=by
 simp at h; simp [sameV,h]
theorem ziq {K N:Int} {S:ByteArray} {z:List Int} {K' N':Int} {S':ByteArray} {z':List Int} (h1:(K != K')=false) (h2:(N != N')=false) (h3:(!S.toList == S'.toList)=false) (h4:decide (z=z')=true):true=sameV K N S z K' N' S' z':=by
 simp at h1 h2 h3 h4; simp [sameV,h1,h2,h3,h4]

theorem zgY (K N:Int) (S:ByteArray) (a1:Option Addr) (l1 c1:Nat) (z1:List Int) (K' N':Int) (S':ByteArray) (a2:Option Addr) (l2 c2:Nat) (z2:List Int) (w:World) (h1:IRow w a1 l1 c1 z1) (h2:IRow w a2 l2 c2 z2) :
  Calls Tryz.prog 176 #[.agg #[.int .i64 K,.int .i64 N,.string S,.slice a1 l1 c1],.agg #[.int .i64 K',.int .i64 N',.string S',.slice a2 l2 c2]] w fun e w'=>e=.returned (.bool (sameV K N S z1 K' N' S' z2))∧Below w.heap.size w w':=by
 generalize hP:sameV K N S z1 K' N' S' z2=P;have HP:=hide hP;clear hP;go_enter Tryz.func176,Tryz.ntmps176;go_wp2_with fail
 ·go_ret;exact ⟨zw ((zim ‹_›).trans HP.out),zz _ _ _⟩
 ·go_ret;exact ⟨zw ((zin ‹_›).trans HP.out),zz _ _ _⟩
 ·go_ret;exact ⟨zw ((zip ‹_›).trans HP.out),zz _ _ _⟩
 ·have t1:=‹(K != K')=false›;have t2:=‹(N != N')=false›;have t3:=‹(!S.toList == S'.toList)=false›;cases hD:decide (z1=z2)
  ·refine (zfl a1 l1 c1 z1 a2 l2 c2 z2 _ (h1.below (zz _ _ _)) (h2.below (zz _ _ _))).mono ?_;rintro e w1 ⟨rfl,n,rfl⟩;rw [hD];have HD:=hide hD;clear hD;go_wp2;go_ret;exact ⟨zw ((zio HD.out).trans HP.out),zaj (zz _ _ _) n⟩
  ·refine (zfl a1 l1 c1 z1 a2 l2 c2 z2 _ (h1.below (zz _ _ _)) (h2.below (zz _ _ _))).mono ?_;rintro e w1 ⟨rfl,n,rfl⟩;rw [hD];have HD:=hide hD;clear hD;go_wp2;go_ret;exact ⟨zw ((ziq t1 t2 t3 HD.out).trans HP.out),zaj (zz _ _ _) n⟩

theorem zgq (K N:Int) (S:ByteArray) (a1:Option Addr) (l1 c1:Nat) (a2:Option Addr) (l2 c2:Nat) (zs:List Int) (w:World) (h1:IRow w a1 l1 c1 zs) (h2:IRow w a2 l2 c2 zs) :
  Calls Tryz.prog 176 #[.agg #[.int .i64 K,.int .i64 N,.string S,.slice a1 l1 c1],.agg #[.int .i64 K,.int .i64 N,.string S,.slice a2 l2 c2]] w fun e w'=>e=.returned (.bool true)∧Below w.heap.size w w':=by
 refine (zgY K N S a1 l1 c1 zs K N S a2 l2 c2 zs w h1 h2).mono ?_;rintro e w' ⟨rfl,hb⟩;exact ⟨by rw [zd4],hb⟩

theorem zg5 (n:Int) (w:World) :
  Calls Tryz.prog 150 #[.int .i64 n] w fun e w'=>e=.returned (.agg #[.int .i64 2,.int .i64 n,.string ⟨#[]⟩,.slice none 0 0])∧Below w.heap.size w w':=by
 go_enter Tryz.func150,Tryz.ntmps150;go_wp2;exact bodyPost_ret (v:=.agg #[.int .i64 2,.int .i64 n,.string ⟨#[]⟩,.slice none 0 0]) (by simp [results,Tryz.results150,go_sem]) rfl ⟨rfl,zh _ _⟩

theorem zeQ {W:World} {X:Nat} {c0 c1 c2 c3 c4:Value} {T:TypeId} {K:World→Prop} (hk:W.heap[X]? = some (.cells #[c0,c1,c2,c3,c4] T)) (v0 v1 v2 v3 v4:Value) (h:∀wq,wq.heap[X]? = some (.cells #[v0,v1,v2,v3,v4] T)→W.grownBy wq (some X)→K wq):K (((((W.setCell ⟨X,0,none⟩ v0).setCell ⟨X,1,none⟩ v1).setCell ⟨X,2,none⟩ v2).setCell ⟨X,3,none⟩ v3).setCell ⟨X,4,none⟩ v4):=by
 refine h _ ?_ (zA (zA (zA (zA (zl 0 _) (zl 1 _)) (zl 2 _)) (zl 3 _)) (zl 4 _));have h0:=zt (j:=0) hk v0;have h1:=zt (j:=1) h0 v1;have h2:=zt (j:=2) h1 v2;have h3:=zt (j:=3) h2 v3;have h4:=zt (j:=4) h3 v4
 simpa using h4

theorem zeP {W:World} {X:Nat} {c0 c1:Value} {T:TypeId} {K:World→Prop} (hk:W.heap[X]? = some (.cells #[c0,c1] T)) (v0 v1:Value) (h:∀wq,wq.heap[X]? = some (.cells #[v0,v1] T)→W.grownBy wq (some X)→K wq):K ((W.setCell ⟨X,0,none⟩ v0).setCell ⟨X,1,none⟩ v1):=by
 refine h _ ?_ (zA (zl 0 _) (zl 1 _));have h1:=zt (j:=1) (zt (j:=0) hk v0) v1
 simpa using h1

end Go.Proofs.YtcpdkcdfnpcemaaGreat
