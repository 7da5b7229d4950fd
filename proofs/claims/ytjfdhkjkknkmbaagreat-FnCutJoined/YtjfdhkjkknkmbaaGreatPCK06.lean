/-
  Packed: PtRole PtSends BrList0 GTake BrLess FdbEnt AtTwo Big.
-/
import Derived.Test.YtjfdhkjkknkmbaaGreatPCKW
import Derived.Test.YtjfdhkjkknkmbaaGreatPCK01
import Derived.Test.YtjfdhkjkknkmbaaGreatPCK02
import Derived.Test.YtjfdhkjkknkmbaaGreatPCK03
import Derived.Test.YtjfdhkjkknkmbaaGreatPCK04
namespace Go.Proofs.YtjfdhkjkknkmbaaGreat
set_option maxRecDepth 100000
set_option maxHeartbeats 16000000
open Go.RowKit

abbrev q318:Oper:=⟨some 34,.move (.tmp 1),64,"l10_role.go:47",#[],none⟩
abbrev q319:Oper:=⟨some 35,.move (.tmp 2),3,"l10_role.go:47",#[],none⟩
abbrev q320:Oper:=⟨some 36,.indexAddr 64 (.tmp 34) (.tmp 35),0,"l10_role.go:47",#[⟨0,.data⟩,⟨1,.data⟩],none⟩
abbrev q321:Oper:=⟨some 37,.fieldAddr 63 (.tmp 36) 2,0,"l10_role.go:47",#[⟨2,.data⟩],none⟩
abbrev q322:Oper:=⟨some 38,.load 4 (.tmp 37),4,"l10_role.go:47",#[⟨3,.data⟩],none⟩
abbrev q323:Oper:=⟨some 39,.unOp .not 4 (.tmp 38),4,"l10_role.go:47",#[⟨4,.data⟩],none⟩
abbrev q324:Oper:=⟨some 40,.move (.tmp 39),4,"l10_role.go:47",#[⟨5,.data⟩],none⟩
abbrev q325:Oper:=⟨some 41,.move (.tmp 0),3,"l10_role.go:47",#[⟨6,.guard⟩],some (6,false)⟩
abbrev q326:Oper:=⟨some 42,.move (.tmp 1),64,"l10_role.go:47",#[⟨6,.guard⟩],some (6,false)⟩
abbrev q327:Oper:=⟨some 43,.move (.tmp 2),3,"l10_role.go:47",#[⟨6,.guard⟩],some (6,false)⟩
abbrev q328:Oper:=⟨some 44,.call ⟨.value (.func 123),#[.tmp 41,.tmp 42,.tmp 43],#[3,64,3]⟩,59,"l10_role.go:47",#[⟨7,.data⟩,⟨8,.data⟩,⟨9,.data⟩,⟨6,.chain⟩,⟨6,.guard⟩],some (6,false)⟩
abbrev q329:Oper:=⟨some 45,.move (.tmp 1),64,"l10_role.go:47",#[⟨6,.guard⟩],some (6,false)⟩
abbrev q330:Oper:=⟨some 46,.move (.tmp 2),3,"l10_role.go:47",#[⟨6,.guard⟩],some (6,false)⟩
abbrev q331:Oper:=⟨some 47,.indexAddr 64 (.tmp 45) (.tmp 46),0,"l10_role.go:47",#[⟨11,.data⟩,⟨12,.data⟩,⟨6,.guard⟩],some (6,false)⟩
abbrev q332:Oper:=⟨some 48,.fieldAddr 63 (.tmp 47) 3,0,"l10_role.go:47",#[⟨13,.data⟩,⟨6,.guard⟩],some (6,false)⟩
abbrev q333:Oper:=⟨some 49,.load 59 (.tmp 48),59,"l10_role.go:47",#[⟨14,.data⟩,⟨6,.guard⟩],some (6,false)⟩
abbrev q334:Oper:=⟨some 50,.call ⟨.value (.func 197),#[.tmp 44,.tmp 49],#[59,59]⟩,4,"l10_role.go:47",#[⟨10,.data⟩,⟨15,.data⟩,⟨10,.chain⟩,⟨6,.guard⟩],some (6,false)⟩
abbrev q335:Oper:=⟨some 51,.pick (.tmp 40) (.const (.bool true)) (.tmp 50),4,"l10_role.go:47",#[⟨6,.data⟩,⟨16,.data⟩],none⟩
abbrev q336:Oper:=⟨some 33,.assign (.tmp 51),4,"l10_role.go:47",#[⟨17,.data⟩,⟨16,.chain⟩],none⟩

theorem zby (id:Int) (a:Option Addr) (n c:Nat) (l:List PT) (port:Int) (w:World) (h:GRow ptF w a n c l) :
  Calls Tryz.prog 123 #[.int .i64 id,.slice a n c,.int .i64 port] w fun e w'=>e=.returned (.agg #[.int .i64 (sayV id l port).r,.int .i64 (sayV id l port).c,.int .i64 (sayV id l port).h,.int .i64 (sayV id l port).b,.int .i64 (sayV id l port).p])∧Below w.heap.size w w':=by
 generalize hw1:w.alloc (Obj.cells #[.int .i64 0,.int .i64 0,.int .i64 0,.int .i64 0,.int .i64 0] 59)=w1;have q1:=zb hw1;have k1:=zk hw1;have hsb:(sayV id l port)=⟨(bestV id (zV id l)).r,(bestV id (zV id l)).c,(bestV id (zV id l)).h,(bestV id (zV id l)).b,port⟩:=by
  unfold sayV;cases zV id l <;> rfl
 rw [hsb];clear hsb;go_enter Tryz.func123,Tryz.ntmps123;go_wp2_with fail
 refine (zbP id a n c l _ (h.below q1)).mono ?_;rintro e w2 ⟨rfl,hb2⟩;generalize hv:bestV id (zV id l)=v;have HV:=hide hv;clear hv;generalize hw3:w2.alloc (Obj.cells #[.int .i64 v.r,.int .i64 v.c,.int .i64 v.h,.int .i64 v.b,.int .i64 v.p] 59)=w3;have hb3:=zb hw3;have k3:=zk hw3;have k1:=za (za k1 hb2) hb3;have lt1:=(Array.getElem?_eq_some_iff.1 (za (by rw [← hw1]; exact zw _ _:w1.heap[w.heap.size]?=some (.cells #[.int .i64 0,.int .i64 0,.int .i64 0,.int .i64 0,.int .i64 0] 59)) hb2)).1;have ne1:¬w2.heap.size=w.heap.size:=by omega
 have ne2:¬w.heap.size=w2.heap.size:=by omega
 have HB:=hide (zag (zt (zc (zc q1 hb2) hb3) (g:=w2.heap.size) (by omega) 4 (.int .i64 port)) (Nat.le_refl w.heap.size) (.int .i64 v.r) (.int .i64 v.c) (.int .i64 v.h) (.int .i64 v.b) (.int .i64 port));obtain ⟨⟨x0,x1,x2,x3,x4⟩,y0,y1,y2,y3,y4⟩:=zB k3;obtain ⟨⟨r0,r1,r2,r3,r4⟩,z0,z1,z2,z3,z4⟩:=zB k1;clear hb2 hb3 k1 k3 q1 lt1;go_wp2;exact bodyPost_ret (v:=.agg #[.int .i64 v.r,.int .i64 v.c,.int .i64 v.h,.int .i64 v.b,.int .i64 port]) (by simp [results,Tryz.results123,go_sem, *]) rfl ⟨(by rw [HV.out]),HB.out⟩

theorem zga (id:Int) (a:Option Addr) (n c:Nat) (l:List PT) (port:Int) (w:World) (h:GRow ptF w a n c l) :
  Calls Tryz.prog 177 #[.int .i64 id,.slice a n c,.int .i64 port] w fun e w'=>e=.returned (.int .i64 (zaM id l port))∧Below w.heap.size w w':=by
 have hle:=h.le;have htop:=h.top;unfold maxLen at htop;have hsz:=hide h.size;cases hin:(decide (0≤port) && decide (port≤(n:Int) - 1))
 ·have HIN:=hide hin;have HR:Hid (zaM id l port=4):=hide (by unfold zaM; rw [hsz.out,hin]; rfl);clear hin;go_enter Tryz.func177,Tryz.ntmps177;(go_wp2_with fail);refine (zg port 0 ((n:Int) - 1) _).mono ?_;rintro e w1 ⟨rfl,ew⟩;obtain rfl:=ew.symm;rw [HIN.out];go_wp2;go_ret;exact ⟨(by rw [HR.out]; rfl),Below.refl _ _⟩
 obtain ⟨k,rfl⟩:∃k:Nat,port=(k:Int):=⟨port.toNat,by simp at hin; omega⟩;have hlt:k < n:=by simp at hin; omega
 have HIN:=hide hin;have i1:(0:Int)≤(k:Int):=by omega
 have i2:(k:Int) < (n:Int):=by omega
 obtain ⟨x,b,off,hx,rfl,c0,c1,c2,c3,c4,c5,c6,c7⟩:=pt_at h k hlt;have hro:zaM id l (k:Int)=zcQ id l k x:=by
  unfold zaM;rw [hsz.out,hin]
  simp [hx]
 have HRO:=hide hro;clear hin hro;cases hu:x.up
 ·rw [hu] at c0;have HR:Hid (zaM id l (k:Int)=4):=hide (by rw [HRO.out]; unfold zcQ; rw [if_pos hu]);clear hu c1 c2 c3 c4 c5 c6 c7 hx;go_enter Tryz.func177,Tryz.ntmps177;(go_wp2_with fail);refine (zg (k:Int) 0 ((n:Int) - 1) _).mono ?_;rintro e w1 ⟨rfl,ew⟩;obtain rfl:=ew.symm;rw [HIN.out];go_wp2;go_ret;exact ⟨(by rw [HR.out]; rfl),Below.refl _ _⟩
 rw [hu] at c0;have HU:=hide hu;clear hu;by_cases hp:bestP (zV id l)=(k:Int)
 ·have HR:Hid (zaM id l (k:Int)=1):=hide (by rw [HRO.out]; unfold zcQ; rw [if_neg (by rw [HU.out]; decide),if_pos hp]);have HP:=hide hp;clear c1 c2 c3 c4 c5 c6 c7 hx hp;go_enter Tryz.func177,Tryz.ntmps177;(go_wp2_with fail);refine (zg (k:Int) 0 ((n:Int) - 1) _).mono ?_;rintro e w1 ⟨rfl,ew⟩;obtain rfl:=ew.symm;rw [HIN.out];(go_wp2_with fail);refine (zbP id (some ⟨b,off,none⟩) n c l _ h).mono ?_;rintro e w2 ⟨rfl,hb2⟩;rw [HP.out];have HB:=hide (zc hb2 (zl _ (Obj.cells #[.int .i64 (bestV id (zV id l)).r,.int .i64 (bestV id (zV id l)).c,.int .i64 (bestV id (zV id l)).h,.int .i64 (bestV id (zV id l)).b,.int .i64 (bestV id (zV id l)).p] 59)));clear hb2 c0;go_wp2;go_ret;exact ⟨(by rw [HR.out]; rfl),HB.out⟩
 go_enter Tryz.func177,Tryz.ntmps177;go_wp2_with fail
 refine (zg (k:Int) 0 ((n:Int) - 1) _).mono ?_;rintro e w1 ⟨rfl,ew⟩;obtain rfl:=ew.symm;rw [HIN.out];go_wp2_with fail
 refine (zbP id (some ⟨b,off,none⟩) n c l _ h).mono ?_;rintro e w2 ⟨rfl,hb2⟩;generalize hw3:w2.alloc (Obj.cells #[.int .i64 (bestV id (zV id l)).r,.int .i64 (bestV id (zV id l)).c,.int .i64 (bestV id (zV id l)).h,.int .i64 (bestV id (zV id l)).b,.int .i64 (bestV id (zV id l)).p] 59)=w3;have HB:Hid (Below w.heap.size w w3):=hide (zc hb2 (by rw [← hw3]; exact zl _ _));clear hb2 c0 c1 c2 c3 c4 c5 c6 c7;obtain ⟨x',b',off',hx',ha',c0,c1,c2,c3,c4,c5,c6,c7⟩:=pt_at (h.below HB.out) k hlt;rw [hx] at hx';cases hx';cases ha';generalize hP:bestP (zV id l)=P at *;have hPne:(P == (k:Int))=false:=by simp [hp]
 have HX:=hide hx;have vv:Below w3.heap.size w3 w3.drew:=zq (Below.refl _ _);have HR0:Hid (zaM id l (k:Int)=(if (!x.has || lessV (sayV id l (k:Int)) x.v)=true then 2 else 3)):=hide (by rw [HRO.out]; unfold zcQ; rw [if_neg (by rw [HU.out]; decide),hP,if_neg hp]);clear c0 c1 hx hP;cases hh:x.has
 ·rw [hh] at c2;have HR:Hid (zaM id l (k:Int)=2):=hide (by rw [HR0.out,hh]; rfl);have HSS:Hid (∀W',Below w3.heap.size w3 W'→W'.cell? ⟨b,off+k*8+2,none⟩=some (.bool false)∧W'.cell? ⟨b,off+k*8+3,none⟩=some (.int .i64 x.v.r)∧W'.cell? ⟨b,off+k*8+4,none⟩=some (.int .i64 x.v.c)∧W'.cell? ⟨b,off+k*8+5,none⟩=some (.int .i64 x.v.h)∧W'.cell? ⟨b,off+k*8+6,none⟩=some (.int .i64 x.v.b)∧W'.cell? ⟨b,off+k*8+7,none⟩=some (.int .i64 x.v.p)):=hide (fun W' hb=>⟨(hb.cell (zo c2)).trans c2,(hb.cell (zo c3)).trans c3,(hb.cell (zo c4)).trans c4,(hb.cell (zo c5)).trans c5,(hb.cell (zo c6)).trans c6,(hb.cell (zo c7)).trans c7⟩);clear c2 c3 c4 c5 c6 c7 hh;(go_wp2_with fail);refine wp_region_held_drew (S:=(fun W=>W.cell? ⟨b,off+k*8+2,none⟩=some (.bool false)∧W.cell? ⟨b,off+k*8+3,none⟩=some (.int .i64 x.v.r)∧W.cell? ⟨b,off+k*8+4,none⟩=some (.int .i64 x.v.c)∧W.cell? ⟨b,off+k*8+5,none⟩=some (.int .i64 x.v.h)∧W.cell? ⟨b,off+k*8+6,none⟩=some (.int .i64 x.v.b)∧W.cell? ⟨b,off+k*8+7,none⟩=some (.int .i64 x.v.p))) (by kernel_rfl) (HSS.out _ vv) (fun hHeld => ?_);refine kK 0 q318 ?_;refine kK 1 q319 ?_;refine kK 2 q320 ?_;refine kK 3 q321 ?_;refine kK 4 q322 ?_;refine kK 5 q323 ?_;refine kK 6 q324 ?_;refine kN 7 q325 ?_;refine kN 8 q326 ?_;refine kN 9 q327 ?_;refine kN 10 q328 ?_;refine kN 11 q329 ?_;refine kN 12 q330 ?_;refine kN 13 q331 ?_;refine kN 14 q332 ?_;refine kN 15 q333 ?_;refine kN 16 q334 ?_;refine kK 17 q335 ?_;refine kK 18 q336 ?_;refine wpAnyH_done (by kernel_rfl) ?_ _;clear hHeld;go_wp2;go_ret;exact ⟨(by rw [HR.out]; rfl),zc HB.out vv⟩
 ·rw [hh] at c2;have HSS:Hid (∀W',Below w3.heap.size w3 W'→W'.cell? ⟨b,off+k*8+2,none⟩=some (.bool true)∧W'.cell? ⟨b,off+k*8+3,none⟩=some (.int .i64 x.v.r)∧W'.cell? ⟨b,off+k*8+4,none⟩=some (.int .i64 x.v.c)∧W'.cell? ⟨b,off+k*8+5,none⟩=some (.int .i64 x.v.h)∧W'.cell? ⟨b,off+k*8+6,none⟩=some (.int .i64 x.v.b)∧W'.cell? ⟨b,off+k*8+7,none⟩=some (.int .i64 x.v.p)):=hide (fun W' hb=>⟨(hb.cell (zo c2)).trans c2,(hb.cell (zo c3)).trans c3,(hb.cell (zo c4)).trans c4,(hb.cell (zo c5)).trans c5,(hb.cell (zo c6)).trans c6,(hb.cell (zo c7)).trans c7⟩);clear c2 c3 c4 c5 c6 c7;cases hl:lessV (sayV id l (k:Int)) x.v
  ·have HR:Hid (zaM id l (k:Int)=3):=hide (by rw [HR0.out,hh,hl]; rfl);have HL:Hid (zaX (sayV id l (k:Int)).r (sayV id l (k:Int)).c (sayV id l (k:Int)).b (sayV id l (k:Int)).p x.v.r x.v.c x.v.b x.v.p=false):=hide hl;clear hh hl;(go_wp2_with fail);refine wp_region_held_drew (S:=(fun W=>W.cell? ⟨b,off+k*8+2,none⟩=some (.bool true)∧W.cell? ⟨b,off+k*8+3,none⟩=some (.int .i64 x.v.r)∧W.cell? ⟨b,off+k*8+4,none⟩=some (.int .i64 x.v.c)∧W.cell? ⟨b,off+k*8+5,none⟩=some (.int .i64 x.v.h)∧W.cell? ⟨b,off+k*8+6,none⟩=some (.int .i64 x.v.b)∧W.cell? ⟨b,off+k*8+7,none⟩=some (.int .i64 x.v.p))) (by kernel_rfl) (HSS.out _ vv) (fun hHeld => ?_);refine kK 0 q318 ?_;refine kK 1 q319 ?_;refine kK 2 q320 ?_;refine kK 3 q321 ?_;refine kK 4 q322 ?_;refine kK 5 q323 ?_;refine kK 6 q324 ?_;refine kK 7 q325 ?_;refine kK 8 q326 ?_;refine kK 9 q327 ?_;refine kK 11 q329 ?_;refine kK 12 q330 ?_;refine kK 13 q331 ?_;refine kK 14 q332 ?_;refine kK 15 q333 ?_;refine kR 10 q328 (fun K hK => ?_);go_simp;refine (zby id (some ⟨b,off,none⟩) n c l (k:Int) _ (h.below (zc HB.out vv))).mono ?_;rintro e wx ⟨rfl,hbx⟩;have vv:=zc vv hbx;clear hbx;(go_wp2_with fail);refine hK.out _ _ (HSS.out _ vv) (fun hHeld => ?_);clear hK K;(try simp only [Act.put,lA,lB,lC]);refine kR 16 q334 (fun K hK => ?_);go_simp;refine (zbs (sayV id l (k:Int)).r (sayV id l (k:Int)).c (sayV id l (k:Int)).h (sayV id l (k:Int)).b (sayV id l (k:Int)).p x.v.r x.v.c x.v.h x.v.b x.v.p _).mono ?_;rintro e wx ⟨rfl,hbx⟩;rw [HL.out];have vv:=zc vv hbx;clear hbx;(go_wp2_with fail);refine hK.out _ _ (HSS.out _ vv) (fun hHeld => ?_);clear hK K;(try simp only [Act.put,lA,lB,lC]);refine kK 17 q335 ?_;refine kK 18 q336 ?_;refine wpAnyH_done (by kernel_rfl) ?_ _;clear hHeld;go_wp2;go_ret;exact ⟨(by rw [HR.out]; rfl),zc HB.out vv⟩
  ·have HR:Hid (zaM id l (k:Int)=2):=hide (by rw [HR0.out,hh,hl]; rfl);have HL:Hid (zaX (sayV id l (k:Int)).r (sayV id l (k:Int)).c (sayV id l (k:Int)).b (sayV id l (k:Int)).p x.v.r x.v.c x.v.b x.v.p=true):=hide hl;clear hh hl;(go_wp2_with fail);refine wp_region_held_drew (S:=(fun W=>W.cell? ⟨b,off+k*8+2,none⟩=some (.bool true)∧W.cell? ⟨b,off+k*8+3,none⟩=some (.int .i64 x.v.r)∧W.cell? ⟨b,off+k*8+4,none⟩=some (.int .i64 x.v.c)∧W.cell? ⟨b,off+k*8+5,none⟩=some (.int .i64 x.v.h)∧W.cell? ⟨b,off+k*8+6,none⟩=some (.int .i64 x.v.b)∧W.cell? ⟨b,off+k*8+7,none⟩=some (.int .i64 x.v.p))) (by kernel_rfl) (HSS.out _ vv) (fun hHeld => ?_);refine kK 0 q318 ?_;refine kK 1 q319 ?_;refine kK 2 q320 ?_;refine kK 3 q321 ?_;refine kK 4 q322 ?_;refine kK 5 q323 ?_;refine kK 6 q324 ?_;refine kK 7 q325 ?_;refine kK 8 q326 ?_;refine kK 9 q327 ?_;refine kK 11 q329 ?_;refine kK 12 q330 ?_;refine kK 13 q331 ?_;refine kK 14 q332 ?_;refine kK 15 q333 ?_;refine kR 10 q328 (fun K hK => ?_);go_simp;refine (zby id (some ⟨b,off,none⟩) n c l (k:Int) _ (h.below (zc HB.out vv))).mono ?_;rintro e wx ⟨rfl,hbx⟩;have vv:=zc vv hbx;clear hbx;(go_wp2_with fail);refine hK.out _ _ (HSS.out _ vv) (fun hHeld => ?_);clear hK K;(try simp only [Act.put,lA,lB,lC]);refine kR 16 q334 (fun K hK => ?_);go_simp;refine (zbs (sayV id l (k:Int)).r (sayV id l (k:Int)).c (sayV id l (k:Int)).h (sayV id l (k:Int)).b (sayV id l (k:Int)).p x.v.r x.v.c x.v.h x.v.b x.v.p _).mono ?_;rintro e wx ⟨rfl,hbx⟩;rw [HL.out];have vv:=zc vv hbx;clear hbx;(go_wp2_with fail);refine hK.out _ _ (HSS.out _ vv) (fun hHeld => ?_);clear hK K;(try simp only [Act.put,lA,lB,lC]);refine kK 17 q335 ?_;refine kK 18 q336 ?_;refine wpAnyH_done (by kernel_rfl) ?_ _;clear hHeld;go_wp2;go_ret;exact ⟨(by rw [HR.out]; rfl),zc HB.out vv⟩

theorem zfu (id:Int) (a:Option Addr) (n c:Nat) (l:List PT) (w:World) (h:GRow ptF w a n c l) :
  Calls Tryz.prog 139 #[.int .i64 id,.slice a n c] w fun e w'=>e=.returned (.int .i64 (zbg id l))∧Below w.heap.size w w':=by
 have hle:=h.le;have htop:=h.top;unfold maxLen at htop;have hsz:=hide h.size;go_enter Tryz.func139,Tryz.ntmps139;go_wp2_with fail
 go_loopw [5,6] (fun s i wr=>∃k:Nat,k≤min n 6∧i=.int .i64 k∧s=.int .i64 (za1 id l k)∧Below w.heap.size w wr) (fun _ i _=>6 - (intOf i).toNat)
 case atStart=>exact ⟨0,Nat.zero_le _,rfl,rfl,Below.refl _ _⟩
 case round =>
  obtain ⟨k,hk,rfl,rfl,hb⟩:=hrel;have hk6:k≤6:=by omega
  generalize hS:za1 id l k=S;have HS:=hide hS;clear hS;by_cases hlt:k < min n 6
  ·have hkn:k < n:=by omega
   have hk5:k < 6:=by omega
   have i1:(0:Int)≤(k:Int):=by omega
   have i2:(k:Int) < (n:Int):=by omega
   have i3:(k:Int) < 6:=by omega
   have hmin:(if (n:Int)≤6 then (n:Int) else 6)=((min n 6:Nat):Int):=by split <;> omega
   have i4:(k:Int) < ((min n 6:Nat):Int):=by omega
   have HB:=hide hb;clear hk hb;(go_wp2_with fail);refine (zga id a n c l (k:Int) _ (h.below HB.out)).mono ?_;rintro e w2 ⟨rfl,hb2⟩;have HB2:=hide (zc HB.out hb2);have h14:=zhi (id:=id) (l:=l) (k:Int);clear hb2;generalize hR:zaM id l (k:Int)=R at *;have HR:=hide hR;clear hR;by_cases hr:R≤2
   ·have HN:Hid (za1 id l (k+1)=bits .or .i64 S (2 ^ k)):=hide (by rw [za1,HR.out,if_pos hr,HS.out]);have hw2:wrap64 (2 ^ k)=2 ^ k:=by
     rcases (show k=0∨k=1∨k=2∨k=3∨k=4∨k=5 by omega) with rfl | rfl | rfl | rfl | rfl | rfl <;> exact Go.IntWalk.wrap64_in _ (by decide)
    have HW2:=hide hw2;clear hw2;go_wp2;rw [HW2.out]
    go_roundw
    case rel=>exact ⟨k+1,by omega,by go_num,by rw [HN.out],HB2.out⟩
    case measure=>simp [intOf]; omega
   ·have HN:Hid (za1 id l (k+1)=S):=hide (by rw [za1,HR.out,if_neg hr,HS.out]);go_wp2
    go_roundw
    case rel=>exact ⟨k+1,by omega,by go_num,by rw [HN.out],HB2.out⟩
    case measure=>simp [intOf]; omega
  ·have hkn:k=min n 6:=by omega
   have HK:Hid (zbg id l=S):=hide (by unfold zbg; rw [hsz.out,← hkn]; exact HS.out);have hend:¬((k:Int) < (n:Int)∧(k:Int) < 6):=by omega
   go_wp2
   all_goals go_ret
   all_goals exact ⟨(by rw [HK.out]; rfl),hb⟩

theorem zaS {α:Type} (F:Flat α) {w:World} {g base:Nat} {l:List α} {cs:Array Value} {T:TypeId} (h:w.heap[g]?=some (.cells cs T)) (hc:cs.toList=F.all l) (hb:base≤g) (hm:l.length≤1000):w.ownsRow base T F.k (.slice (some ⟨g,0,none⟩) l.length l.length) l.length (F.all l):=by
 have hl:cs.toList.length=l.length*F.k:=by rw [hc,F.all_length]
 refine ⟨by rw [F.all_length],.inr ⟨g,l.length,cs,rfl,hb,h,Nat.le_refl _,by unfold maxLen; omega, ?_, ?_⟩⟩
 ·simpa using hl
 ·rw [← hc,← hl,List.take_length]

theorem GRow.take {α:Type} {F:Flat α} {w:World} {ao:Option Addr} {n c k:Nat} {l:List α} (h:GRow F w ao n c l) (hk:k≤n):GRow F w ao k c (l.take k) where
 size:=by have:=h.size; simp; omega
 le:=Nat.le_trans hk h.le
 top:=h.top
 nil:=h.nil
 cell:=by
  rcases h.cell with h0 | ⟨b,off,ha,hc⟩
  ·exact .inl (by omega)
  ·refine .inr ⟨b,off,ha,fun i x hi j v hv=>hc i x ?_ j v hv⟩;rw [List.getElem?_take] at hi
   split at hi
   ·exact hi
   ·cases hi

def lessB (V B:BR):Prop:=V.ports.length≤B.ports.length∧V.f.length≤B.f.length∧V.v=B.v

theorem zgL (B:BR):lessB (turned B) B:=⟨Nat.le_refl _,(zb5 _ _ _).length_le,rfl⟩

theorem zeY {a b c:BR} (h:lessB a b) (k:lessB b c):lessB a c:=⟨Nat.le_trans h.1 k.1,Nat.le_trans h.2.1 k.2.1,h.2.2.trans k.2.2⟩

theorem zig (B:BR) (port:Int) (up:Bool):lessB (linkB B port up) B:=by
 unfold linkB
 split
 ·split
  ·exact zeY (zgL _) ⟨by simp,Nat.le_refl _,rfl⟩
  ·exact ⟨Nat.le_refl _,Nat.le_refl _,rfl⟩
 ·exact ⟨Nat.le_refl _,Nat.le_refl _,rfl⟩

theorem zh1 {e:FE} (h:entOk e=true):e.Rng:=by
 rw [zfD] at h;exact ⟨by omega,by omega,by omega,by omega⟩

theorem zjA (a0:Option Addr) (l0 c0:Nat) (z0:List Int) (hs:l0≤1048576):∃x:Int,0≤x∧x≤255∧∀w,Row w a0 l0 c0 z0→Calls Tryz.prog 35 #[.slice a0 l0 c0,.int .i64 2] w fun e w'=>e=.returned (.int .i64 x)∧w'=w:=by
 by_cases h2:2 < l0
 ·by_cases hr:∃w,Row w a0 l0 c0 z0
  ·obtain ⟨w0,r0⟩:=hr;have hb:=zfH r0.byte 2;refine ⟨z0.getD 2 0,hb.1,hb.2,fun w h0 => ?_⟩;obtain ⟨b,off,rfl,hc⟩:=h0.at (by omega);have c2:=hc 2 h2;have hi:(2:Int) < (l0:Int):=by omega
   generalize z0.getD 2 0=y at *;have hw:IntKind.i64.wrap y=y:=by rw [IntKind.wrap_i64]; omega
   clear hc;go_enter Tryz.func35,Tryz.ntmps35;go_wp2;go_ret;exact ⟨rfl,rfl⟩
  ·exact ⟨0,by omega,by omega,fun w h=>absurd ⟨w,h⟩ hr⟩
 ·have hi:¬(2:Int) < (l0:Int):=by omega
  refine ⟨(62+(l0:Int)*7) % 256,by omega,by omega,fun w h0 => ?_⟩;go_enter Tryz.func35,Tryz.ntmps35;go_wp2;go_ret;exact ⟨rfl,rfl⟩

theorem zjX (a0:Option Addr) (l0 c0:Nat) (w:World) (h:¬1048576 < l0):Calls Tryz.prog 8 #[.slice a0 l0 c0] w fun e w'=>e=.returned (.bool false)∧w'=w:=by
 have i1:¬(1048576:Int) < l0:=by omega
 go_enter Tryz.func8,Tryz.ntmps8;go_wp2;go_ret;exact ⟨rfl,rfl⟩

theorem Row.take {w:World} {ao:Option Addr} {n c:Nat} {zs:List Int} (h:Row w ao n c zs) (k:Nat) (hk:k≤n):Row w ao k c (zs.take k) where
 size:=by have:=h.size; simp; omega
 le:=by have:=h.le; omega
 top:=h.top
 nil:=h.nil
 byte:=fun z hz=>h.byte z (List.mem_of_mem_take hz)
 cell:=by
  rcases h.cell with h0 | ⟨b,off,ha,hc⟩
  ·exact .inl (by omega)
  ·exact .inr ⟨b,off,ha,fun i hi=>by rw [hc i (by omega)]; simp [List.getD_eq_getElem?_getD,hi]⟩

end Go.Proofs.YtjfdhkjkknkmbaaGreat
