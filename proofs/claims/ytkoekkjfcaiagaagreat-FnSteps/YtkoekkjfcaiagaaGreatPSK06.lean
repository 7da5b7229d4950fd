/-
  Packed: PtRole PtSends BrList0 GTake BrLess FdbEnt SameStr EqRows OidSame Big.
-/
import Derived.Test.YtkoekkjfcaiagaaGreatPSKW
import Derived.Test.YtkoekkjfcaiagaaGreatPSK01
import Derived.Test.YtkoekkjfcaiagaaGreatPSK02
import Derived.Test.YtkoekkjfcaiagaaGreatPSK03
import Derived.Test.YtkoekkjfcaiagaaGreatPSK04
import Derived.Deep.RegionHeld3
import Derived.Deep.CutRange
namespace Go.Proofs.YtkoekkjfcaiagaaGreat
set_option maxRecDepth 100000
set_option maxHeartbeats 16000000
open Go.RowKit

abbrev q318:Oper:=⟨some 34,.move (.tmp 1),57,"l10_role.go:47",#[],none⟩
abbrev q319:Oper:=⟨some 35,.move (.tmp 2),3,"l10_role.go:47",#[],none⟩
abbrev q320:Oper:=⟨some 36,.indexAddr 57 (.tmp 34) (.tmp 35),0,"l10_role.go:47",#[⟨0,.data⟩,⟨1,.data⟩],none⟩
abbrev q321:Oper:=⟨some 37,.fieldAddr 67 (.tmp 36) 2,0,"l10_role.go:47",#[⟨2,.data⟩],none⟩
abbrev q322:Oper:=⟨some 38,.load 4 (.tmp 37),4,"l10_role.go:47",#[⟨3,.data⟩],none⟩
abbrev q323:Oper:=⟨some 39,.unOp .not 4 (.tmp 38),4,"l10_role.go:47",#[⟨4,.data⟩],none⟩
abbrev q324:Oper:=⟨some 40,.move (.tmp 39),4,"l10_role.go:47",#[⟨5,.data⟩],none⟩
abbrev q325:Oper:=⟨some 41,.move (.tmp 0),3,"l10_role.go:47",#[⟨6,.guard⟩],some (6,false)⟩
abbrev q326:Oper:=⟨some 42,.move (.tmp 1),57,"l10_role.go:47",#[⟨6,.guard⟩],some (6,false)⟩
abbrev q327:Oper:=⟨some 43,.move (.tmp 2),3,"l10_role.go:47",#[⟨6,.guard⟩],some (6,false)⟩
abbrev q328:Oper:=⟨some 44,.call ⟨.value (.func 121),#[.tmp 41,.tmp 42,.tmp 43],#[3,57,3]⟩,65,"l10_role.go:47",#[⟨7,.data⟩,⟨8,.data⟩,⟨9,.data⟩,⟨6,.chain⟩,⟨6,.guard⟩],some (6,false)⟩
abbrev q329:Oper:=⟨some 45,.move (.tmp 1),57,"l10_role.go:47",#[⟨6,.guard⟩],some (6,false)⟩
abbrev q330:Oper:=⟨some 46,.move (.tmp 2),3,"l10_role.go:47",#[⟨6,.guard⟩],some (6,false)⟩
abbrev q331:Oper:=⟨some 47,.indexAddr 57 (.tmp 45) (.tmp 46),0,"l10_role.go:47",#[⟨11,.data⟩,⟨12,.data⟩,⟨6,.guard⟩],some (6,false)⟩
abbrev q332:Oper:=⟨some 48,.fieldAddr 67 (.tmp 47) 3,0,"l10_role.go:47",#[⟨13,.data⟩,⟨6,.guard⟩],some (6,false)⟩
abbrev q333:Oper:=⟨some 49,.load 65 (.tmp 48),65,"l10_role.go:47",#[⟨14,.data⟩,⟨6,.guard⟩],some (6,false)⟩
abbrev q334:Oper:=⟨some 50,.call ⟨.value (.func 195),#[.tmp 44,.tmp 49],#[65,65]⟩,4,"l10_role.go:47",#[⟨10,.data⟩,⟨15,.data⟩,⟨10,.chain⟩,⟨6,.guard⟩],some (6,false)⟩
abbrev q335:Oper:=⟨some 51,.pick (.tmp 40) (.const (.bool true)) (.tmp 50),4,"l10_role.go:47",#[⟨6,.data⟩,⟨16,.data⟩],none⟩
abbrev q336:Oper:=⟨some 33,.assign (.tmp 51),4,"l10_role.go:47",#[⟨17,.data⟩,⟨16,.chain⟩],none⟩

theorem zbx (id:Int) (a:Option Addr) (n c:Nat) (l:List PT) (port:Int) (w:World) (h:GRow ptF w a n c l) :
  Calls Tryz.prog 121 #[.int .i64 id,.slice a n c,.int .i64 port] w fun e w'=>e=.returned (.agg #[.int .i64 (sayV id l port).r,.int .i64 (sayV id l port).c,.int .i64 (sayV id l port).h,.int .i64 (sayV id l port).b,.int .i64 (sayV id l port).p])∧Below w.heap.size w w':=by
 generalize hw1:w.alloc (Obj.cells #[.int .i64 0,.int .i64 0,.int .i64 0,.int .i64 0,.int .i64 0] 65)=w1;have q1:=zb hw1;have k1:=zk hw1;have hsb:(sayV id l port)=⟨(bestV id (zW id l)).r,(bestV id (zW id l)).c,(bestV id (zW id l)).h,(bestV id (zW id l)).b,port⟩:=by
  unfold sayV;cases zW id l <;> rfl
 rw [hsb];clear hsb;go_enter Tryz.func121,Tryz.ntmps121;go_wp2_with fail
 refine (zbR id a n c l _ (h.below q1)).mono ?_;rintro e w2 ⟨rfl,hb2⟩;generalize hv:bestV id (zW id l)=v;have HV:=hide hv;clear hv;generalize hw3:w2.alloc (Obj.cells #[.int .i64 v.r,.int .i64 v.c,.int .i64 v.h,.int .i64 v.b,.int .i64 v.p] 65)=w3;have hb3:=zb hw3;have k3:=zk hw3;have k1:=za (za k1 hb2) hb3;have lt1:=(Array.getElem?_eq_some_iff.1 (za (by rw [← hw1]; exact zw _ _:w1.heap[w.heap.size]?=some (.cells #[.int .i64 0,.int .i64 0,.int .i64 0,.int .i64 0,.int .i64 0] 65)) hb2)).1;have ne1:¬w2.heap.size=w.heap.size:=by omega
 have ne2:¬w.heap.size=w2.heap.size:=by omega
 have HB:=hide (zag (zu (zc (zc q1 hb2) hb3) (g:=w2.heap.size) (by omega) 4 (.int .i64 port)) (Nat.le_refl w.heap.size) (.int .i64 v.r) (.int .i64 v.c) (.int .i64 v.h) (.int .i64 v.b) (.int .i64 port));obtain ⟨⟨x0,x1,x2,x3,x4⟩,y0,y1,y2,y3,y4⟩:=zC k3;obtain ⟨⟨r0,r1,r2,r3,r4⟩,z0,z1,z2,z3,z4⟩:=zC k1;clear hb2 hb3 k1 k3 q1 lt1;go_wp2;exact bodyPost_ret (v:=.agg #[.int .i64 v.r,.int .i64 v.c,.int .i64 v.h,.int .i64 v.b,.int .i64 port]) (by simp [results,Tryz.results121,go_sem, *]) rfl ⟨(by rw [HV.out]),HB.out⟩

theorem zgm (id:Int) (a:Option Addr) (n c:Nat) (l:List PT) (port:Int) (w:World) (h:GRow ptF w a n c l) :
  Calls Tryz.prog 175 #[.int .i64 id,.slice a n c,.int .i64 port] w fun e w'=>e=.returned (.int .i64 (zaL id l port))∧Below w.heap.size w w':=by
 have hle:=h.le;have htop:=h.top;unfold maxLen at htop;have hsz:=hide h.size;cases hin:(decide (0≤port) && decide (port≤(n:Int) - 1))
 ·have HIN:=hide hin;have HR:Hid (zaL id l port=4):=hide (by unfold zaL; rw [hsz.out,hin]; rfl);clear hin;go_enter Tryz.func175,Tryz.ntmps175;(go_wp2_with fail);refine (zg port 0 ((n:Int) - 1) _).mono ?_;rintro e w1 ⟨rfl,ew⟩;obtain rfl:=ew.symm;rw [HIN.out];go_wp2;go_ret;exact ⟨(by rw [HR.out]; rfl),Below.refl _ _⟩
 obtain ⟨k,rfl⟩:∃k:Nat,port=(k:Int):=⟨port.toNat,by simp at hin; omega⟩;have hlt:k < n:=by simp at hin; omega
 have HIN:=hide hin;have i1:(0:Int)≤(k:Int):=by omega
 have i2:(k:Int) < (n:Int):=by omega
 obtain ⟨x,b,off,hx,rfl,c0,c1,c2,c3,c4,c5,c6,c7⟩:=pt_at h k hlt;have hro:zaL id l (k:Int)=zcU id l k x:=by
  unfold zaL;rw [hsz.out,hin]
  simp [hx]
 have HRO:=hide hro;clear hin hro;cases hu:x.up
 ·rw [hu] at c0;have HR:Hid (zaL id l (k:Int)=4):=hide (by rw [HRO.out]; unfold zcU; rw [if_pos hu]);clear hu c1 c2 c3 c4 c5 c6 c7 hx;go_enter Tryz.func175,Tryz.ntmps175;(go_wp2_with fail);refine (zg (k:Int) 0 ((n:Int) - 1) _).mono ?_;rintro e w1 ⟨rfl,ew⟩;obtain rfl:=ew.symm;rw [HIN.out];go_wp2;go_ret;exact ⟨(by rw [HR.out]; rfl),Below.refl _ _⟩
 rw [hu] at c0;have HU:=hide hu;clear hu;by_cases hp:bestP (zW id l)=(k:Int)
 ·have HR:Hid (zaL id l (k:Int)=1):=hide (by rw [HRO.out]; unfold zcU; rw [if_neg (by rw [HU.out]; decide),if_pos hp]);have HP:=hide hp;clear c1 c2 c3 c4 c5 c6 c7 hx hp;go_enter Tryz.func175,Tryz.ntmps175;(go_wp2_with fail);refine (zg (k:Int) 0 ((n:Int) - 1) _).mono ?_;rintro e w1 ⟨rfl,ew⟩;obtain rfl:=ew.symm;rw [HIN.out];(go_wp2_with fail);refine (zbR id (some ⟨b,off,none⟩) n c l _ h).mono ?_;rintro e w2 ⟨rfl,hb2⟩;rw [HP.out];have HB:=hide (zc hb2 (zm _ (Obj.cells #[.int .i64 (bestV id (zW id l)).r,.int .i64 (bestV id (zW id l)).c,.int .i64 (bestV id (zW id l)).h,.int .i64 (bestV id (zW id l)).b,.int .i64 (bestV id (zW id l)).p] 65)));clear hb2 c0;go_wp2;go_ret;exact ⟨(by rw [HR.out]; rfl),HB.out⟩
 go_enter Tryz.func175,Tryz.ntmps175;go_wp2_with fail
 refine (zg (k:Int) 0 ((n:Int) - 1) _).mono ?_;rintro e w1 ⟨rfl,ew⟩;obtain rfl:=ew.symm;rw [HIN.out];go_wp2_with fail
 refine (zbR id (some ⟨b,off,none⟩) n c l _ h).mono ?_;rintro e w2 ⟨rfl,hb2⟩;generalize hw3:w2.alloc (Obj.cells #[.int .i64 (bestV id (zW id l)).r,.int .i64 (bestV id (zW id l)).c,.int .i64 (bestV id (zW id l)).h,.int .i64 (bestV id (zW id l)).b,.int .i64 (bestV id (zW id l)).p] 65)=w3;have HB:Hid (Below w.heap.size w w3):=hide (zc hb2 (by rw [← hw3]; exact zm _ _));clear hb2 c0 c1 c2 c3 c4 c5 c6 c7;obtain ⟨x',b',off',hx',ha',c0,c1,c2,c3,c4,c5,c6,c7⟩:=pt_at (h.below HB.out) k hlt;rw [hx] at hx';cases hx';cases ha';generalize hP:bestP (zW id l)=P at *;have hPne:(P == (k:Int))=false:=by simp [hp]
 have HX:=hide hx;have vv:Below w3.heap.size w3 w3.drew:=zp (Below.refl _ _);have HR0:Hid (zaL id l (k:Int)=(if (!x.has || lessV (sayV id l (k:Int)) x.v)=true then 2 else 3)):=hide (by rw [HRO.out]; unfold zcU; rw [if_neg (by rw [HU.out]; decide),hP,if_neg hp]);clear c0 c1 hx hP;cases hh:x.has
 ·rw [hh] at c2;have HR:Hid (zaL id l (k:Int)=2):=hide (by rw [HR0.out,hh]; rfl);have HSS:Hid (∀W',Below w3.heap.size w3 W'→W'.cell? ⟨b,off+k*8+2,none⟩=some (.bool false)∧W'.cell? ⟨b,off+k*8+3,none⟩=some (.int .i64 x.v.r)∧W'.cell? ⟨b,off+k*8+4,none⟩=some (.int .i64 x.v.c)∧W'.cell? ⟨b,off+k*8+5,none⟩=some (.int .i64 x.v.h)∧W'.cell? ⟨b,off+k*8+6,none⟩=some (.int .i64 x.v.b)∧W'.cell? ⟨b,off+k*8+7,none⟩=some (.int .i64 x.v.p)):=hide (fun W' hb=>⟨(hb.cell (zl c2)).trans c2,(hb.cell (zl c3)).trans c3,(hb.cell (zl c4)).trans c4,(hb.cell (zl c5)).trans c5,(hb.cell (zl c6)).trans c6,(hb.cell (zl c7)).trans c7⟩);clear c2 c3 c4 c5 c6 c7 hh;(go_wp2_with fail);refine wp_region_held_drew (S:=(fun W=>W.cell? ⟨b,off+k*8+2,none⟩=some (.bool false)∧W.cell? ⟨b,off+k*8+3,none⟩=some (.int .i64 x.v.r)∧W.cell? ⟨b,off+k*8+4,none⟩=some (.int .i64 x.v.c)∧W.cell? ⟨b,off+k*8+5,none⟩=some (.int .i64 x.v.h)∧W.cell? ⟨b,off+k*8+6,none⟩=some (.int .i64 x.v.b)∧W.cell? ⟨b,off+k*8+7,none⟩=some (.int .i64 x.v.p))) (by kernel_rfl) (HSS.out _ vv) (fun hHeld => ?_);refine kK 0 q318 ?_;refine kK 1 q319 ?_;refine kK 2 q320 ?_;refine kK 3 q321 ?_;refine kK 4 q322 ?_;refine kK 5 q323 ?_;refine kK 6 q324 ?_;refine kN 7 q325 ?_;refine kN 8 q326 ?_;refine kN 9 q327 ?_;refine kN 10 q328 ?_;refine kN 11 q329 ?_;refine kN 12 q330 ?_;refine kN 13 q331 ?_;refine kN 14 q332 ?_;refine kN 15 q333 ?_;refine kN 16 q334 ?_;refine kK 17 q335 ?_;refine kK 18 q336 ?_;refine wpAnyH_done (by kernel_rfl) ?_ _;clear hHeld;go_wp2;go_ret;exact ⟨(by rw [HR.out]; rfl),zc HB.out vv⟩
 ·rw [hh] at c2;have HSS:Hid (∀W',Below w3.heap.size w3 W'→W'.cell? ⟨b,off+k*8+2,none⟩=some (.bool true)∧W'.cell? ⟨b,off+k*8+3,none⟩=some (.int .i64 x.v.r)∧W'.cell? ⟨b,off+k*8+4,none⟩=some (.int .i64 x.v.c)∧W'.cell? ⟨b,off+k*8+5,none⟩=some (.int .i64 x.v.h)∧W'.cell? ⟨b,off+k*8+6,none⟩=some (.int .i64 x.v.b)∧W'.cell? ⟨b,off+k*8+7,none⟩=some (.int .i64 x.v.p)):=hide (fun W' hb=>⟨(hb.cell (zl c2)).trans c2,(hb.cell (zl c3)).trans c3,(hb.cell (zl c4)).trans c4,(hb.cell (zl c5)).trans c5,(hb.cell (zl c6)).trans c6,(hb.cell (zl c7)).trans c7⟩);clear c2 c3 c4 c5 c6 c7;cases hl:lessV (sayV id l (k:Int)) x.v
  ·have HR:Hid (zaL id l (k:Int)=3):=hide (by rw [HR0.out,hh,hl]; rfl);have HL:Hid (zaT (sayV id l (k:Int)).r (sayV id l (k:Int)).c (sayV id l (k:Int)).b (sayV id l (k:Int)).p x.v.r x.v.c x.v.b x.v.p=false):=hide hl;clear hh hl;(go_wp2_with fail);refine wp_region_held_drew (S:=(fun W=>W.cell? ⟨b,off+k*8+2,none⟩=some (.bool true)∧W.cell? ⟨b,off+k*8+3,none⟩=some (.int .i64 x.v.r)∧W.cell? ⟨b,off+k*8+4,none⟩=some (.int .i64 x.v.c)∧W.cell? ⟨b,off+k*8+5,none⟩=some (.int .i64 x.v.h)∧W.cell? ⟨b,off+k*8+6,none⟩=some (.int .i64 x.v.b)∧W.cell? ⟨b,off+k*8+7,none⟩=some (.int .i64 x.v.p))) (by kernel_rfl) (HSS.out _ vv) (fun hHeld => ?_);refine kK 0 q318 ?_;refine kK 1 q319 ?_;refine kK 2 q320 ?_;refine kK 3 q321 ?_;refine kK 4 q322 ?_;refine kK 5 q323 ?_;refine kK 6 q324 ?_;refine kK 7 q325 ?_;refine kK 8 q326 ?_;refine kK 9 q327 ?_;refine kK 11 q329 ?_;refine kK 12 q330 ?_;refine kK 13 q331 ?_;refine kK 14 q332 ?_;refine kK 15 q333 ?_;refine kR 10 q328 (fun K hK => ?_);go_simp;refine (zbx id (some ⟨b,off,none⟩) n c l (k:Int) _ (h.below (zc HB.out vv))).mono ?_;rintro e wx ⟨rfl,hbx⟩;have vv:=zc vv hbx;clear hbx;(go_wp2_with fail);refine hK.out _ _ (HSS.out _ vv) (fun hHeld => ?_);clear hK K;(try simp only [Act.put,lA,lB,lC]);refine kR 16 q334 (fun K hK => ?_);go_simp;refine (zbp (sayV id l (k:Int)).r (sayV id l (k:Int)).c (sayV id l (k:Int)).h (sayV id l (k:Int)).b (sayV id l (k:Int)).p x.v.r x.v.c x.v.h x.v.b x.v.p _).mono ?_;rintro e wx ⟨rfl,hbx⟩;rw [HL.out];have vv:=zc vv hbx;clear hbx;(go_wp2_with fail);refine hK.out _ _ (HSS.out _ vv) (fun hHeld => ?_);clear hK K;(try simp only [Act.put,lA,lB,lC]);refine kK 17 q335 ?_;refine kK 18 q336 ?_;refine wpAnyH_done (by kernel_rfl) ?_ _;clear hHeld;go_wp2;go_ret;exact ⟨(by rw [HR.out]; rfl),zc HB.out vv⟩
  ·have HR:Hid (zaL id l (k:Int)=2):=hide (by rw [HR0.out,hh,hl]; rfl);have HL:Hid (zaT (sayV id l (k:Int)).r (sayV id l (k:Int)).c (sayV id l (k:Int)).b (sayV id l (k:Int)).p x.v.r x.v.c x.v.b x.v.p=true):=hide hl;clear hh hl;(go_wp2_with fail);refine wp_region_held_drew (S:=(fun W=>W.cell? ⟨b,off+k*8+2,none⟩=some (.bool true)∧W.cell? ⟨b,off+k*8+3,none⟩=some (.int .i64 x.v.r)∧W.cell? ⟨b,off+k*8+4,none⟩=some (.int .i64 x.v.c)∧W.cell? ⟨b,off+k*8+5,none⟩=some (.int .i64 x.v.h)∧W.cell? ⟨b,off+k*8+6,none⟩=some (.int .i64 x.v.b)∧W.cell? ⟨b,off+k*8+7,none⟩=some (.int .i64 x.v.p))) (by kernel_rfl) (HSS.out _ vv) (fun hHeld => ?_);refine kK 0 q318 ?_;refine kK 1 q319 ?_;refine kK 2 q320 ?_;refine kK 3 q321 ?_;refine kK 4 q322 ?_;refine kK 5 q323 ?_;refine kK 6 q324 ?_;refine kK 7 q325 ?_;refine kK 8 q326 ?_;refine kK 9 q327 ?_;refine kK 11 q329 ?_;refine kK 12 q330 ?_;refine kK 13 q331 ?_;refine kK 14 q332 ?_;refine kK 15 q333 ?_;refine kR 10 q328 (fun K hK => ?_);go_simp;refine (zbx id (some ⟨b,off,none⟩) n c l (k:Int) _ (h.below (zc HB.out vv))).mono ?_;rintro e wx ⟨rfl,hbx⟩;have vv:=zc vv hbx;clear hbx;(go_wp2_with fail);refine hK.out _ _ (HSS.out _ vv) (fun hHeld => ?_);clear hK K;(try simp only [Act.put,lA,lB,lC]);refine kR 16 q334 (fun K hK => ?_);go_simp;refine (zbp (sayV id l (k:Int)).r (sayV id l (k:Int)).c (sayV id l (k:Int)).h (sayV id l (k:Int)).b (sayV id l (k:Int)).p x.v.r x.v.c x.v.h x.v.b x.v.p _).mono ?_;rintro e wx ⟨rfl,hbx⟩;rw [HL.out];have vv:=zc vv hbx;clear hbx;(go_wp2_with fail);refine hK.out _ _ (HSS.out _ vv) (fun hHeld => ?_);clear hK K;(try simp only [Act.put,lA,lB,lC]);refine kK 17 q335 ?_;refine kK 18 q336 ?_;refine wpAnyH_done (by kernel_rfl) ?_ _;clear hHeld;go_wp2;go_ret;exact ⟨(by rw [HR.out]; rfl),zc HB.out vv⟩

theorem zfB (id:Int) (a:Option Addr) (n c:Nat) (l:List PT) (w:World) (h:GRow ptF w a n c l) :
  Calls Tryz.prog 137 #[.int .i64 id,.slice a n c] w fun e w'=>e=.returned (.int .i64 (zbd id l))∧Below w.heap.size w w':=by
 have hle:=h.le;have htop:=h.top;unfold maxLen at htop;have hsz:=hide h.size;go_enter Tryz.func137,Tryz.ntmps137;go_wp2_with fail
 go_loopw [5,6] (fun s i wr=>∃k:Nat,k≤min n 6∧i=.int .i64 k∧s=.int .i64 (zaY id l k)∧Below w.heap.size w wr) (fun _ i _=>6 - (intOf i).toNat)
 case atStart=>exact ⟨0,Nat.zero_le _,rfl,rfl,Below.refl _ _⟩
 case round =>
  obtain ⟨k,hk,rfl,rfl,hb⟩:=hrel;have hk6:k≤6:=by omega
  generalize hS:zaY id l k=S;have HS:=hide hS;clear hS;by_cases hlt:k < min n 6
  ·have hkn:k < n:=by omega
   have hk5:k < 6:=by omega
   have i1:(0:Int)≤(k:Int):=by omega
   have i2:(k:Int) < (n:Int):=by omega
   have i3:(k:Int) < 6:=by omega
   have hmin:(if (n:Int)≤6 then (n:Int) else 6)=((min n 6:Nat):Int):=by split <;> omega
   have i4:(k:Int) < ((min n 6:Nat):Int):=by omega
   have HB:=hide hb;clear hk hb;(go_wp2_with fail);refine (zgm id a n c l (k:Int) _ (h.below HB.out)).mono ?_;rintro e w2 ⟨rfl,hb2⟩;have HB2:=hide (zc HB.out hb2);have h14:=zhv (id:=id) (l:=l) (k:Int);clear hb2;generalize hR:zaL id l (k:Int)=R at *;have HR:=hide hR;clear hR;by_cases hr:R≤2
   ·have HN:Hid (zaY id l (k+1)=bits .or .i64 S (2 ^ k)):=hide (by rw [zaY,HR.out,if_pos hr,HS.out]);have hw2:wrap64 (2 ^ k)=2 ^ k:=by
     rcases (show k=0∨k=1∨k=2∨k=3∨k=4∨k=5 by omega) with rfl | rfl | rfl | rfl | rfl | rfl <;> exact Go.IntWalk.wrap64_in _ (by decide)
    have HW2:=hide hw2;clear hw2;go_wp2;rw [HW2.out]
    go_roundw
    case rel=>exact ⟨k+1,by omega,by go_num,by rw [HN.out],HB2.out⟩
    case measure=>simp [intOf]; omega
   ·have HN:Hid (zaY id l (k+1)=S):=hide (by rw [zaY,HR.out,if_neg hr,HS.out]);go_wp2
    go_roundw
    case rel=>exact ⟨k+1,by omega,by go_num,by rw [HN.out],HB2.out⟩
    case measure=>simp [intOf]; omega
  ·have hkn:k=min n 6:=by omega
   have HK:Hid (zbd id l=S):=hide (by unfold zbd; rw [hsz.out,← hkn]; exact HS.out);have hend:¬((k:Int) < (n:Int)∧(k:Int) < 6):=by omega
   go_wp2
   all_goals go_ret
   all_goals exact ⟨(by rw [HK.out]; rfl),hb⟩

theorem zaP {α:Type} (F:Flat α) {w:World} {g base:Nat} {l:List α} {cs:Array Value} {T:TypeId} (h:w.heap[g]?=some (.cells cs T)) (hc:cs.toList=F.all l) (hb:base≤g) (hm:l.length≤1000):w.ownsRow base T F.k (.slice (some ⟨g,0,none⟩) l.length l.length) l.length (F.all l):=by
 have hl:cs.toList.length=l.length*F.k:=by rw [hc,F.all_length]
 refine ⟨by rw [F.all_length],.inr ⟨g,l.length,cs,rfl,hb,h,Nat.le_refl _,by unfold maxLen; omega, ?_, ?_⟩⟩
 ·simpa using hl
 ·rw [← hc,← hl,List.take_length]

theorem GRow.take {α:Type} {F:Flat α} {w:World} {ao:Option Addr} {n c k:Nat} {l:List α} (h:GRow F w ao n c l) (hk:k≤n):GRow F w ao k c (l.take k) where
 size:=by have:=h.size; simp; omega
 le:=Nat.le_trans hk h.le
 top:=h.top
 nil:=h.nil
 cell:=by
  rcases h.cell with h0 | ⟨b,off,ha,hc⟩
  ·exact .inl (by omega)
  ·refine .inr ⟨b,off,ha,fun i x hi j v hv=>hc i x ?_ j v hv⟩;rw [List.getElem?_take] at hi
   split at hi
   ·exact hi
   ·cases hi

def lessB (V B:BR):Prop:=V.ports.length≤B.ports.length∧V.f.length≤B.f.length∧V.v=B.v

theorem zgZ (B:BR):lessB (turned B) B:=⟨Nat.le_refl _,(zb8 _ _ _).length_le,rfl⟩

theorem ze0 {a b c:BR} (h:lessB a b) (k:lessB b c):lessB a c:=⟨Nat.le_trans h.1 k.1,Nat.le_trans h.2.1 k.2.1,h.2.2.trans k.2.2⟩

theorem ziw (B:BR) (port:Int) (up:Bool):lessB (linkB B port up) B:=by
 unfold linkB
 split
 ·split
  ·exact ze0 (zgZ _) ⟨by simp,Nat.le_refl _,rfl⟩
  ·exact ⟨Nat.le_refl _,Nat.le_refl _,rfl⟩
 ·exact ⟨Nat.le_refl _,Nat.le_refl _,rfl⟩

theorem zig {e:FE} (h:entOk e=true):e.Rng:=by
 rw [zfK] at h;exact ⟨by omega,by omega,by omega,by omega⟩

def zgh (x y:VD):Bool:=(x.r == y.r) && ((x.c == y.c) && ((x.h == y.h) && ((x.b == y.b) && (x.p == y.p))))
def zgg (x y:PT):Bool:=(x.up == y.up) && ((x.k == y.k) && ((x.has == y.has) && zgh x.v y.v))
def zgf (x y:FE):Bool:=(x.t == y.t) && ((x.m == y.m) && ((x.p == y.p) && ((x.a == y.a) && (x.s == y.s))))
def zgi (x y:VR):Bool:=(x.i == y.i) && ((x.m == y.m) && (x.b == y.b))

theorem ze9 (x y:PT):zgg x y=true↔x=y:=by
 obtain ⟨u,k,h,⟨r,c,hh,b,p⟩⟩:=x;obtain ⟨u',k',h',⟨r',c',hh',b',p'⟩⟩:=y
 simp [zgg,zgh]

theorem ze8 (x y:FE):zgf x y=true↔x=y:=by
 obtain ⟨t,m,p,a,s⟩:=x;obtain ⟨t',m',p',a',s'⟩:=y
 simp [zgf]

theorem zfa (x y:VR):zgi x y=true↔x=y:=by
 obtain ⟨i,m,b⟩:=x;obtain ⟨i',m',b'⟩:=y
 simp [zgi]

theorem zfO (x y:FE) (w:World):(binOp .neq 131 (.agg #[.int .i64 x.t,.int .i64 x.m,.int .i64 x.p,.int .i64 x.a,.bool x.s]) (.agg #[.int .i64 y.t,.int .i64 y.m,.int .i64 y.p,.int .i64 y.a,.bool y.s])).run Tryz.prog w=.ok (.bool (!zgf x y)) w:=by
 have u3:=Tryz.underlying3;have a3:=Tryz.isAgg3;have z3:=Tryz.sizeOf3;have u4:=Tryz.underlying4;have a4:=Tryz.isAgg4;have z4:=Tryz.sizeOf4;have hS:Tryz.prog.underlying 131=some (.struct (Tryz.prog.fieldsOf 131)):=by kernel_rfl
 have hp:Tryz.prog.stoodInHeld 131=false:=by kernel_rfl
 rw [run_neq_struct,show (10000:Nat)=9999+1 from rfl,run_equalIn_agg w 9999 131 _ _ hS hp];simp only [Program.fieldsOf,Tryz.underlying131];unfold zgf;go_simp;by_cases h1:x.t=y.t <;> by_cases h2:x.m=y.m <;> by_cases h3:x.p=y.p <;> by_cases h4:x.a=y.a <;> by_cases h5:x.s=y.s <;> simp [h1,h2,h3,h4,h5]

theorem zgn (x y:VR) (w:World):(binOp .neq 134 (.agg #[.int .i64 x.i,.int .i64 x.m,.int .i64 x.b]) (.agg #[.int .i64 y.i,.int .i64 y.m,.int .i64 y.b])).run Tryz.prog w=.ok (.bool (!zgi x y)) w:=by
 have u3:=Tryz.underlying3;have a3:=Tryz.isAgg3;have z3:=Tryz.sizeOf3;have hS:Tryz.prog.underlying 134=some (.struct (Tryz.prog.fieldsOf 134)):=by kernel_rfl
 have hp:Tryz.prog.stoodInHeld 134=false:=by kernel_rfl
 rw [run_neq_struct,show (10000:Nat)=9999+1 from rfl,run_equalIn_agg w 9999 134 _ _ hS hp];simp only [Program.fieldsOf,Tryz.underlying134];unfold zgi;go_simp;by_cases h1:x.i=y.i <;> by_cases h2:x.m=y.m <;> by_cases h3:x.b=y.b <;> simp [h1,h2,h3]

theorem ziH (x y:PT) (w:World):(binOp .neq 67 (.agg #[.bool x.up,.int .i64 x.k,.bool x.has,.int .i64 x.v.r,.int .i64 x.v.c,.int .i64 x.v.h,.int .i64 x.v.b,.int .i64 x.v.p]) (.agg #[.bool y.up,.int .i64 y.k,.bool y.has,.int .i64 y.v.r,.int .i64 y.v.c,.int .i64 y.v.h,.int .i64 y.v.b,.int .i64 y.v.p])).run Tryz.prog w=.ok (.bool (!zgg x y)) w:=by
 have u3:=Tryz.underlying3;have a3:=Tryz.isAgg3;have z3:=Tryz.sizeOf3;have u4:=Tryz.underlying4;have a4:=Tryz.isAgg4;have z4:=Tryz.sizeOf4;have u5:=Tryz.underlying65;have a5:=Tryz.isAgg65;have z5:=Tryz.sizeOf65;have hS:Tryz.prog.underlying 67=some (.struct (Tryz.prog.fieldsOf 67)):=by kernel_rfl
 have hp:Tryz.prog.stoodInHeld 67=false:=by kernel_rfl
 have hS5:Tryz.prog.underlying 65=some (.struct (Tryz.prog.fieldsOf 65)):=by kernel_rfl
 have hp5:Tryz.prog.stoodInHeld 65=false:=by kernel_rfl
 have hE:∀W,(Op.equalIn 9999 65 (.agg #[.int .i64 x.v.r,.int .i64 x.v.c,.int .i64 x.v.h,.int .i64 x.v.b,.int .i64 x.v.p]) (.agg #[.int .i64 y.v.r,.int .i64 y.v.c,.int .i64 y.v.h,.int .i64 y.v.b,.int .i64 y.v.p])).run Tryz.prog W=.ok (zgh x.v y.v) W:=by
  intro W;rw [show (9999:Nat)=9998+1 from rfl,run_equalIn_agg W 9998 65 _ _ hS5 hp5];simp only [Program.fieldsOf,Tryz.underlying65];unfold zgh;clear hS hp hS5 hp5 u4 a4 z4 u5 a5 z5;go_simp;by_cases h1:x.v.r=y.v.r <;> by_cases h2:x.v.c=y.v.c <;> by_cases h3:x.v.h=y.v.h <;> by_cases h4:x.v.b=y.v.b <;> by_cases h5:x.v.p=y.v.p <;> simp [h1,h2,h3,h4,h5]
 rw [run_neq_struct,show (10000:Nat)=9999+1 from rfl,run_equalIn_agg w 9999 67 _ _ hS hp];simp only [Program.fieldsOf,Tryz.underlying67];unfold zgg;generalize hV:zgh x.v y.v=V at *;clear hS hp hS5 hp5 hV;go_simp;by_cases h1:x.up=y.up <;> by_cases h2:x.k=y.k <;> by_cases h3:x.has=y.has <;> cases V <;> simp [h1,h2,h3]

theorem zji (a b c d e a' b' c' d' e':Int) (w:World):(binOp .eql 135 (.agg #[.int .i64 a,.int .i64 b,.int .i64 c,.int .i64 d,.int .i64 e]) (.agg #[.int .i64 a',.int .i64 b',.int .i64 c',.int .i64 d',.int .i64 e'])).run Tryz.prog w=.ok (.bool ((a == a') && ((b == b') && ((c == c') && ((d == d') && (e == e')))))) w:=by
 have u3:=Tryz.underlying3;have a3:=Tryz.isAgg3;have z3:=Tryz.sizeOf3;obtain ⟨i0,hi,-,-,-⟩:=zb7 (k:=1) Tryz.infoI64;have hc:Tryz.prog.cellsOf 3=1:=by kernel_rfl
 rw [run_eql_struct,show (10000:Nat)=9999+1 from rfl,run_equalIn_array w 9999 _ _ Tryz.underlying135 hi,hc];simp only [show List.range 5=[0,1,2,3,4] from rfl,Op.eqItems];go_simp;by_cases h1:a=a' <;> by_cases h2:b=b' <;> by_cases h3:c=c' <;> by_cases h4:d=d' <;> by_cases h5:e=e' <;> simp [h1,h2,h3,h4,h5]

abbrev q474:Oper:=⟨some 16,.move (.tmp 0),57,"slices.go:25",#[],none⟩
abbrev q475:Oper:=⟨some 17,.move (.tmp 5),3,"slices.go:25",#[],none⟩
abbrev q476:Oper:=⟨some 18,.indexAddr 57 (.tmp 16) (.tmp 17),0,"slices.go:25",#[⟨0,.data⟩,⟨1,.data⟩],none⟩
abbrev q477:Oper:=⟨some 19,.load 67 (.tmp 18),67,"slices.go:25",#[⟨2,.data⟩],none⟩
abbrev q478:Oper:=⟨some 20,.move (.tmp 1),57,"slices.go:25",#[],none⟩
abbrev q479:Oper:=⟨some 21,.move (.tmp 5),3,"slices.go:25",#[],none⟩
abbrev q480:Oper:=⟨some 22,.indexAddr 57 (.tmp 20) (.tmp 21),0,"slices.go:25",#[⟨4,.data⟩,⟨5,.data⟩],none⟩
abbrev q481:Oper:=⟨some 23,.load 67 (.tmp 22),67,"slices.go:25",#[⟨6,.data⟩],none⟩
abbrev q482:Oper:=⟨some 24,.binOp .neq 67 (.tmp 19) (.tmp 23) 67,4,"slices.go:25",#[⟨3,.data⟩,⟨7,.data⟩],none⟩
abbrev q483:Oper:=⟨some 16,.move (.tmp 0),58,"slices.go:25",#[],none⟩
abbrev q484:Oper:=⟨some 18,.indexAddr 58 (.tmp 16) (.tmp 17),0,"slices.go:25",#[⟨0,.data⟩,⟨1,.data⟩],none⟩
abbrev q485:Oper:=⟨some 19,.load 131 (.tmp 18),131,"slices.go:25",#[⟨2,.data⟩],none⟩
abbrev q486:Oper:=⟨some 20,.move (.tmp 1),58,"slices.go:25",#[],none⟩
abbrev q487:Oper:=⟨some 22,.indexAddr 58 (.tmp 20) (.tmp 21),0,"slices.go:25",#[⟨4,.data⟩,⟨5,.data⟩],none⟩
abbrev q488:Oper:=⟨some 23,.load 131 (.tmp 22),131,"slices.go:25",#[⟨6,.data⟩],none⟩
abbrev q489:Oper:=⟨some 24,.binOp .neq 131 (.tmp 19) (.tmp 23) 131,4,"slices.go:25",#[⟨3,.data⟩,⟨7,.data⟩],none⟩
abbrev q490:Oper:=⟨some 16,.move (.tmp 0),59,"slices.go:25",#[],none⟩
abbrev q491:Oper:=⟨some 18,.indexAddr 59 (.tmp 16) (.tmp 17),0,"slices.go:25",#[⟨0,.data⟩,⟨1,.data⟩],none⟩
abbrev q492:Oper:=⟨some 19,.load 134 (.tmp 18),134,"slices.go:25",#[⟨2,.data⟩],none⟩
abbrev q493:Oper:=⟨some 20,.move (.tmp 1),59,"slices.go:25",#[],none⟩
abbrev q494:Oper:=⟨some 22,.indexAddr 59 (.tmp 20) (.tmp 21),0,"slices.go:25",#[⟨4,.data⟩,⟨5,.data⟩],none⟩
abbrev q495:Oper:=⟨some 23,.load 134 (.tmp 22),134,"slices.go:25",#[⟨6,.data⟩],none⟩
abbrev q496:Oper:=⟨some 24,.binOp .neq 134 (.tmp 19) (.tmp 23) 134,4,"slices.go:25",#[⟨3,.data⟩,⟨7,.data⟩],none⟩

theorem zdf (a:Option Addr) (n c:Nat) (l:List PT) (a2:Option Addr) (n2 c2:Nat) (l2:List PT) (w:World) (h:GRow ptF w a n c l) (h2:GRow ptF w a2 n2 c2 l2) :
  Calls Tryz.prog 87 #[.slice a n c,.slice a2 n2 c2] w fun e w'=>∃q:Bool,e=.returned (.bool q)∧(q=true↔l=l2)∧Below w.heap.size w w':=by
 have hle:=h.le;have htop:=h.top;have hle2:=h2.le;have htop2:=h2.top;unfold maxLen at htop htop2;have hsz:=h.size;have hsz2:=h2.size;by_cases hnn:n=n2
 ·subst hnn;go_enter Tryz.func87,Tryz.ntmps87;go_wp2
  go_loopw [13] (fun i wr=>∃k:Nat,k≤n∧i=.int .i64 k∧(∀j:Nat,j < k→l[j]?=l2[j]?)∧Below w.heap.size w wr) (fun i _=>n - (intOf i).toNat)
  case atStart=>exact ⟨0,Nat.zero_le _,rfl,fun j hj=>by omega,Below.refl _ _⟩
  case round =>
   obtain ⟨k,hk,rfl,hall,hb⟩:=hrel;by_cases hlt:k < n
   ·obtain ⟨x,b,off,hx,rfl,c0,c1,c2,c3,c4,c5,c6,c7⟩:=pt_at (h.below hb) k hlt;obtain ⟨y,b2,off2,hy,rfl,d0,d1,d2,d3,d4,d5,d6,d7⟩:=pt_at (h2.below hb) k hlt;have i1:(0:Int)≤(k:Int):=by omega
    have i2:(k:Int) < (n:Int):=by omega
    cases hs:zgg x y
    ·have HN:Hid (¬l=l2):=hide (by
      intro e;rw [e,hy] at hx;cases hx;rw [(ze9 x x).2 rfl] at hs;cases hs)
     have hne:∀W,(binOp .neq 67 (.agg #[.bool x.up,.int .i64 x.k,.bool x.has,.int .i64 x.v.r,.int .i64 x.v.c,.int .i64 x.v.h,.int .i64 x.v.b,.int .i64 x.v.p]) (.agg #[.bool y.up,.int .i64 y.k,.bool y.has,.int .i64 y.v.r,.int .i64 y.v.c,.int .i64 y.v.h,.int .i64 y.v.b,.int .i64 y.v.p])).run Tryz.prog W=.ok (.bool true) W:=fun W=>by rw [ziH,hs]; rfl
     have hgd:Tryz.prog.eqGuardType Tryz.prog.depth 67=false:=by kernel_rfl
     have HS:(fun W=>(W.cell? ⟨b,off+k*8,none⟩=some (.bool x.up)∧W.cell? ⟨b,off+k*8+1,none⟩=some (.int .i64 x.k)∧W.cell? ⟨b,off+k*8+2,none⟩=some (.bool x.has)∧W.cell? ⟨b,off+k*8+3,none⟩=some (.int .i64 x.v.r)∧W.cell? ⟨b,off+k*8+4,none⟩=some (.int .i64 x.v.c)∧W.cell? ⟨b,off+k*8+5,none⟩=some (.int .i64 x.v.h)∧W.cell? ⟨b,off+k*8+6,none⟩=some (.int .i64 x.v.b)∧W.cell? ⟨b,off+k*8+7,none⟩=some (.int .i64 x.v.p))∧(W.cell? ⟨b2,off2+k*8,none⟩=some (.bool y.up)∧W.cell? ⟨b2,off2+k*8+1,none⟩=some (.int .i64 y.k)∧W.cell? ⟨b2,off2+k*8+2,none⟩=some (.bool y.has)∧W.cell? ⟨b2,off2+k*8+3,none⟩=some (.int .i64 y.v.r)∧W.cell? ⟨b2,off2+k*8+4,none⟩=some (.int .i64 y.v.c)∧W.cell? ⟨b2,off2+k*8+5,none⟩=some (.int .i64 y.v.h)∧W.cell? ⟨b2,off2+k*8+6,none⟩=some (.int .i64 y.v.b)∧W.cell? ⟨b2,off2+k*8+7,none⟩=some (.int .i64 y.v.p))) wr.drew:=⟨⟨c0,c1,c2,c3,c4,c5,c6,c7⟩,d0,d1,d2,d3,d4,d5,d6,d7⟩;clear hs hall hx hy;(go_wp2_with fail);refine wp_region_held_drew (S:=(fun W=>(W.cell? ⟨b,off+k*8,none⟩=some (.bool x.up)∧W.cell? ⟨b,off+k*8+1,none⟩=some (.int .i64 x.k)∧W.cell? ⟨b,off+k*8+2,none⟩=some (.bool x.has)∧W.cell? ⟨b,off+k*8+3,none⟩=some (.int .i64 x.v.r)∧W.cell? ⟨b,off+k*8+4,none⟩=some (.int .i64 x.v.c)∧W.cell? ⟨b,off+k*8+5,none⟩=some (.int .i64 x.v.h)∧W.cell? ⟨b,off+k*8+6,none⟩=some (.int .i64 x.v.b)∧W.cell? ⟨b,off+k*8+7,none⟩=some (.int .i64 x.v.p))∧(W.cell? ⟨b2,off2+k*8,none⟩=some (.bool y.up)∧W.cell? ⟨b2,off2+k*8+1,none⟩=some (.int .i64 y.k)∧W.cell? ⟨b2,off2+k*8+2,none⟩=some (.bool y.has)∧W.cell? ⟨b2,off2+k*8+3,none⟩=some (.int .i64 y.v.r)∧W.cell? ⟨b2,off2+k*8+4,none⟩=some (.int .i64 y.v.c)∧W.cell? ⟨b2,off2+k*8+5,none⟩=some (.int .i64 y.v.h)∧W.cell? ⟨b2,off2+k*8+6,none⟩=some (.int .i64 y.v.b)∧W.cell? ⟨b2,off2+k*8+7,none⟩=some (.int .i64 y.v.p)))) (by kernel_rfl) (HS) (fun hHeld => ?_);refine kK 0 q474 ?_;refine kK 1 q475 ?_;refine kK 2 q476 ?_;refine kK 3 q477 ?_;refine kK 4 q478 ?_;refine kK 5 q479 ?_;refine kK 6 q480 ?_;refine kK 7 q481 ?_;refine kK 8 q482 ?_;refine wpAnyH_done (by kernel_rfl) ?_ _;clear HS hne hgd c0 c1 c2 c3 c4 c5 c6 c7 d0 d1 d2 d3 d4 d5 d6 d7;go_wp2;go_ret;exact ⟨false,rfl,⟨(fun e=>by cases e),fun e=>absurd e HN.out⟩,zp hb⟩
    ·have HA:Hid (∀j:Nat,j < k+1→l[j]?=l2[j]?):=hide (by
      intro j hj;by_cases e:j=k
      ·subst e;rw [hx,hy,(ze9 x y).1 hs]
      ·exact hall j (by omega))
     have hne:∀W,(binOp .neq 67 (.agg #[.bool x.up,.int .i64 x.k,.bool x.has,.int .i64 x.v.r,.int .i64 x.v.c,.int .i64 x.v.h,.int .i64 x.v.b,.int .i64 x.v.p]) (.agg #[.bool y.up,.int .i64 y.k,.bool y.has,.int .i64 y.v.r,.int .i64 y.v.c,.int .i64 y.v.h,.int .i64 y.v.b,.int .i64 y.v.p])).run Tryz.prog W=.ok (.bool false) W:=fun W=>by rw [ziH,hs]; rfl
     have hgd:Tryz.prog.eqGuardType Tryz.prog.depth 67=false:=by kernel_rfl
     have HS:(fun W=>(W.cell? ⟨b,off+k*8,none⟩=some (.bool x.up)∧W.cell? ⟨b,off+k*8+1,none⟩=some (.int .i64 x.k)∧W.cell? ⟨b,off+k*8+2,none⟩=some (.bool x.has)∧W.cell? ⟨b,off+k*8+3,none⟩=some (.int .i64 x.v.r)∧W.cell? ⟨b,off+k*8+4,none⟩=some (.int .i64 x.v.c)∧W.cell? ⟨b,off+k*8+5,none⟩=some (.int .i64 x.v.h)∧W.cell? ⟨b,off+k*8+6,none⟩=some (.int .i64 x.v.b)∧W.cell? ⟨b,off+k*8+7,none⟩=some (.int .i64 x.v.p))∧(W.cell? ⟨b2,off2+k*8,none⟩=some (.bool y.up)∧W.cell? ⟨b2,off2+k*8+1,none⟩=some (.int .i64 y.k)∧W.cell? ⟨b2,off2+k*8+2,none⟩=some (.bool y.has)∧W.cell? ⟨b2,off2+k*8+3,none⟩=some (.int .i64 y.v.r)∧W.cell? ⟨b2,off2+k*8+4,none⟩=some (.int .i64 y.v.c)∧W.cell? ⟨b2,off2+k*8+5,none⟩=some (.int .i64 y.v.h)∧W.cell? ⟨b2,off2+k*8+6,none⟩=some (.int .i64 y.v.b)∧W.cell? ⟨b2,off2+k*8+7,none⟩=some (.int .i64 y.v.p))) wr.drew:=⟨⟨c0,c1,c2,c3,c4,c5,c6,c7⟩,d0,d1,d2,d3,d4,d5,d6,d7⟩;clear hs hall hx hy;(go_wp2_with fail);refine wp_region_held_drew (S:=(fun W=>(W.cell? ⟨b,off+k*8,none⟩=some (.bool x.up)∧W.cell? ⟨b,off+k*8+1,none⟩=some (.int .i64 x.k)∧W.cell? ⟨b,off+k*8+2,none⟩=some (.bool x.has)∧W.cell? ⟨b,off+k*8+3,none⟩=some (.int .i64 x.v.r)∧W.cell? ⟨b,off+k*8+4,none⟩=some (.int .i64 x.v.c)∧W.cell? ⟨b,off+k*8+5,none⟩=some (.int .i64 x.v.h)∧W.cell? ⟨b,off+k*8+6,none⟩=some (.int .i64 x.v.b)∧W.cell? ⟨b,off+k*8+7,none⟩=some (.int .i64 x.v.p))∧(W.cell? ⟨b2,off2+k*8,none⟩=some (.bool y.up)∧W.cell? ⟨b2,off2+k*8+1,none⟩=some (.int .i64 y.k)∧W.cell? ⟨b2,off2+k*8+2,none⟩=some (.bool y.has)∧W.cell? ⟨b2,off2+k*8+3,none⟩=some (.int .i64 y.v.r)∧W.cell? ⟨b2,off2+k*8+4,none⟩=some (.int .i64 y.v.c)∧W.cell? ⟨b2,off2+k*8+5,none⟩=some (.int .i64 y.v.h)∧W.cell? ⟨b2,off2+k*8+6,none⟩=some (.int .i64 y.v.b)∧W.cell? ⟨b2,off2+k*8+7,none⟩=some (.int .i64 y.v.p)))) (by kernel_rfl) (HS) (fun hHeld => ?_);refine kK 0 q474 ?_;refine kK 1 q475 ?_;refine kK 2 q476 ?_;refine kK 3 q477 ?_;refine kK 4 q478 ?_;refine kK 5 q479 ?_;refine kK 6 q480 ?_;refine kK 7 q481 ?_;refine kK 8 q482 ?_;refine wpAnyH_done (by kernel_rfl) ?_ _;clear HS hne hgd c0 c1 c2 c3 c4 c5 c6 c7 d0 d1 d2 d3 d4 d5 d6 d7;go_wp2
     go_roundw
     case rel=>exact ⟨k+1,by omega,by go_num,HA.out,zp hb⟩
     case measure=>simp [intOf]; omega
   ·have hkn:k=n:=by omega
    subst hkn;have HE:Hid (l=l2):=hide (by
     refine List.ext_getElem? (fun j => ?_);by_cases hj:j < k
     ·exact hall j hj
     ·rw [List.getElem?_eq_none (by omega),List.getElem?_eq_none (by omega)])
    clear hall;go_wp2;go_ret;exact ⟨true,rfl,⟨fun _=>HE.out,fun _=>rfl⟩,hb⟩
 ·have hne:¬(n:Int)=(n2:Int):=by omega
  go_enter Tryz.func87,Tryz.ntmps87;go_wp2;go_ret;exact ⟨false,rfl,⟨(fun e=>by cases e),fun e=>absurd (by rw [← hsz,← hsz2,e]) hnn⟩,Below.refl _ _⟩

theorem zcI (a:Option Addr) (n c:Nat) (l:List FE) (a2:Option Addr) (n2 c2:Nat) (l2:List FE) (w:World) (h:GRow fentF w a n c l) (h2:GRow fentF w a2 n2 c2 l2) :
  Calls Tryz.prog 88 #[.slice a n c,.slice a2 n2 c2] w fun e w'=>∃q:Bool,e=.returned (.bool q)∧(q=true↔l=l2)∧Below w.heap.size w w':=by
 have hle:=h.le;have htop:=h.top;have hle2:=h2.le;have htop2:=h2.top;unfold maxLen at htop htop2;have hsz:=h.size;have hsz2:=h2.size;by_cases hnn:n=n2
 ·subst hnn;go_enter Tryz.func88,Tryz.ntmps88;go_wp2
  go_loopw [13] (fun i wr=>∃k:Nat,k≤n∧i=.int .i64 k∧(∀j:Nat,j < k→l[j]?=l2[j]?)∧Below w.heap.size w wr) (fun i _=>n - (intOf i).toNat)
  case atStart=>exact ⟨0,Nat.zero_le _,rfl,fun j hj=>by omega,Below.refl _ _⟩
  case round =>
   obtain ⟨k,hk,rfl,hall,hb⟩:=hrel;by_cases hlt:k < n
   ·obtain ⟨x,b,off,hx,rfl,c0,c1,c2,c3,c4⟩:=zcx (h.below hb) k hlt;obtain ⟨y,b2,off2,hy,rfl,d0,d1,d2,d3,d4⟩:=zcx (h2.below hb) k hlt;have i1:(0:Int)≤(k:Int):=by omega
    have i2:(k:Int) < (n:Int):=by omega
    cases hs:zgf x y
    ·have HN:Hid (¬l=l2):=hide (by
      intro e;rw [e,hy] at hx;cases hx;rw [(ze8 x x).2 rfl] at hs;cases hs)
     have hne:∀W,(binOp .neq 131 (.agg #[.int .i64 x.t,.int .i64 x.m,.int .i64 x.p,.int .i64 x.a,.bool x.s]) (.agg #[.int .i64 y.t,.int .i64 y.m,.int .i64 y.p,.int .i64 y.a,.bool y.s])).run Tryz.prog W=.ok (.bool true) W:=fun W=>by rw [zfO,hs]; rfl
     have hgd:Tryz.prog.eqGuardType Tryz.prog.depth 131=false:=by kernel_rfl
     have HS:(fun W=>(W.cell? ⟨b,off+k*5,none⟩=some (.int .i64 x.t)∧W.cell? ⟨b,off+k*5+1,none⟩=some (.int .i64 x.m)∧W.cell? ⟨b,off+k*5+2,none⟩=some (.int .i64 x.p)∧W.cell? ⟨b,off+k*5+3,none⟩=some (.int .i64 x.a)∧W.cell? ⟨b,off+k*5+4,none⟩=some (.bool x.s))∧(W.cell? ⟨b2,off2+k*5,none⟩=some (.int .i64 y.t)∧W.cell? ⟨b2,off2+k*5+1,none⟩=some (.int .i64 y.m)∧W.cell? ⟨b2,off2+k*5+2,none⟩=some (.int .i64 y.p)∧W.cell? ⟨b2,off2+k*5+3,none⟩=some (.int .i64 y.a)∧W.cell? ⟨b2,off2+k*5+4,none⟩=some (.bool y.s))) wr.drew:=⟨⟨c0,c1,c2,c3,c4⟩,d0,d1,d2,d3,d4⟩;clear hs hall hx hy;(go_wp2_with fail);refine wp_region_held_drew (S:=(fun W=>(W.cell? ⟨b,off+k*5,none⟩=some (.int .i64 x.t)∧W.cell? ⟨b,off+k*5+1,none⟩=some (.int .i64 x.m)∧W.cell? ⟨b,off+k*5+2,none⟩=some (.int .i64 x.p)∧W.cell? ⟨b,off+k*5+3,none⟩=some (.int .i64 x.a)∧W.cell? ⟨b,off+k*5+4,none⟩=some (.bool x.s))∧(W.cell? ⟨b2,off2+k*5,none⟩=some (.int .i64 y.t)∧W.cell? ⟨b2,off2+k*5+1,none⟩=some (.int .i64 y.m)∧W.cell? ⟨b2,off2+k*5+2,none⟩=some (.int .i64 y.p)∧W.cell? ⟨b2,off2+k*5+3,none⟩=some (.int .i64 y.a)∧W.cell? ⟨b2,off2+k*5+4,none⟩=some (.bool y.s)))) (by kernel_rfl) (HS) (fun hHeld => ?_);refine kK 0 q483 ?_;refine kK 1 q475 ?_;refine kK 2 q484 ?_;refine kK 3 q485 ?_;refine kK 4 q486 ?_;refine kK 5 q479 ?_;refine kK 6 q487 ?_;refine kK 7 q488 ?_;refine kK 8 q489 ?_;refine wpAnyH_done (by kernel_rfl) ?_ _;clear HS hne hgd c0 c1 c2 c3 c4 d0 d1 d2 d3 d4;go_wp2;go_ret;exact ⟨false,rfl,⟨(fun e=>by cases e),fun e=>absurd e HN.out⟩,zp hb⟩
    ·have HA:Hid (∀j:Nat,j < k+1→l[j]?=l2[j]?):=hide (by
      intro j hj;by_cases e:j=k
      ·subst e;rw [hx,hy,(ze8 x y).1 hs]
      ·exact hall j (by omega))
     have hne:∀W,(binOp .neq 131 (.agg #[.int .i64 x.t,.int .i64 x.m,.int .i64 x.p,.int .i64 x.a,.bool x.s]) (.agg #[.int .i64 y.t,.int .i64 y.m,.int .i64 y.p,.int .i64 y.a,.bool y.s])).run Tryz.prog W=.ok (.bool false) W:=fun W=>by rw [zfO,hs]; rfl
     have hgd:Tryz.prog.eqGuardType Tryz.prog.depth 131=false:=by kernel_rfl
     have HS:(fun W=>(W.cell? ⟨b,off+k*5,none⟩=some (.int .i64 x.t)∧W.cell? ⟨b,off+k*5+1,none⟩=some (.int .i64 x.m)∧W.cell? ⟨b,off+k*5+2,none⟩=some (.int .i64 x.p)∧W.cell? ⟨b,off+k*5+3,none⟩=some (.int .i64 x.a)∧W.cell? ⟨b,off+k*5+4,none⟩=some (.bool x.s))∧(W.cell? ⟨b2,off2+k*5,none⟩=some (.int .i64 y.t)∧W.cell? ⟨b2,off2+k*5+1,none⟩=some (.int .i64 y.m)∧W.cell? ⟨b2,off2+k*5+2,none⟩=some (.int .i64 y.p)∧W.cell? ⟨b2,off2+k*5+3,none⟩=some (.int .i64 y.a)∧W.cell? ⟨b2,off2+k*5+4,none⟩=some (.bool y.s))) wr.drew:=⟨⟨c0,c1,c2,c3,c4⟩,d0,d1,d2,d3,d4⟩;clear hs hall hx hy;(go_wp2_with fail);refine wp_region_held_drew (S:=(fun W=>(W.cell? ⟨b,off+k*5,none⟩=some (.int .i64 x.t)∧W.cell? ⟨b,off+k*5+1,none⟩=some (.int .i64 x.m)∧W.cell? ⟨b,off+k*5+2,none⟩=some (.int .i64 x.p)∧W.cell? ⟨b,off+k*5+3,none⟩=some (.int .i64 x.a)∧W.cell? ⟨b,off+k*5+4,none⟩=some (.bool x.s))∧(W.cell? ⟨b2,off2+k*5,none⟩=some (.int .i64 y.t)∧W.cell? ⟨b2,off2+k*5+1,none⟩=some (.int .i64 y.m)∧W.cell? ⟨b2,off2+k*5+2,none⟩=some (.int .i64 y.p)∧W.cell? ⟨b2,off2+k*5+3,none⟩=some (.int .i64 y.a)∧W.cell? ⟨b2,off2+k*5+4,none⟩=some (.bool y.s)))) (by kernel_rfl) (HS) (fun hHeld => ?_);refine kK 0 q483 ?_;refine kK 1 q475 ?_;refine kK 2 q484 ?_;refine kK 3 q485 ?_;refine kK 4 q486 ?_;refine kK 5 q479 ?_;refine kK 6 q487 ?_;refine kK 7 q488 ?_;refine kK 8 q489 ?_;refine wpAnyH_done (by kernel_rfl) ?_ _;clear HS hne hgd c0 c1 c2 c3 c4 d0 d1 d2 d3 d4;go_wp2
     go_roundw
     case rel=>exact ⟨k+1,by omega,by go_num,HA.out,zp hb⟩
     case measure=>simp [intOf]; omega
   ·have hkn:k=n:=by omega
    subst hkn;have HE:Hid (l=l2):=hide (by
     refine List.ext_getElem? (fun j => ?_);by_cases hj:j < k
     ·exact hall j hj
     ·rw [List.getElem?_eq_none (by omega),List.getElem?_eq_none (by omega)])
    clear hall;go_wp2;go_ret;exact ⟨true,rfl,⟨fun _=>HE.out,fun _=>rfl⟩,hb⟩
 ·have hne:¬(n:Int)=(n2:Int):=by omega
  go_enter Tryz.func88,Tryz.ntmps88;go_wp2;go_ret;exact ⟨false,rfl,⟨(fun e=>by cases e),fun e=>absurd (by rw [← hsz,← hsz2,e]) hnn⟩,Below.refl _ _⟩

theorem zdE (a:Option Addr) (n c:Nat) (l:List VR) (a2:Option Addr) (n2 c2:Nat) (l2:List VR) (w:World) (h:GRow vrowF w a n c l) (h2:GRow vrowF w a2 n2 c2 l2) :
  Calls Tryz.prog 89 #[.slice a n c,.slice a2 n2 c2] w fun e w'=>∃q:Bool,e=.returned (.bool q)∧(q=true↔l=l2)∧Below w.heap.size w w':=by
 have hle:=h.le;have htop:=h.top;have hle2:=h2.le;have htop2:=h2.top;unfold maxLen at htop htop2;have hsz:=h.size;have hsz2:=h2.size;by_cases hnn:n=n2
 ·subst hnn;go_enter Tryz.func89,Tryz.ntmps89;go_wp2
  go_loopw [13] (fun i wr=>∃k:Nat,k≤n∧i=.int .i64 k∧(∀j:Nat,j < k→l[j]?=l2[j]?)∧Below w.heap.size w wr) (fun i _=>n - (intOf i).toNat)
  case atStart=>exact ⟨0,Nat.zero_le _,rfl,fun j hj=>by omega,Below.refl _ _⟩
  case round =>
   obtain ⟨k,hk,rfl,hall,hb⟩:=hrel;by_cases hlt:k < n
   ·obtain ⟨x,b,off,hx,rfl,c0,c1,c2⟩:=zco (h.below hb) k hlt;obtain ⟨y,b2,off2,hy,rfl,d0,d1,d2⟩:=zco (h2.below hb) k hlt;have i1:(0:Int)≤(k:Int):=by omega
    have i2:(k:Int) < (n:Int):=by omega
    cases hs:zgi x y
    ·have HN:Hid (¬l=l2):=hide (by
      intro e;rw [e,hy] at hx;cases hx;rw [(zfa x x).2 rfl] at hs;cases hs)
     have hne:∀W,(binOp .neq 134 (.agg #[.int .i64 x.i,.int .i64 x.m,.int .i64 x.b]) (.agg #[.int .i64 y.i,.int .i64 y.m,.int .i64 y.b])).run Tryz.prog W=.ok (.bool true) W:=fun W=>by rw [zgn,hs]; rfl
     have hgd:Tryz.prog.eqGuardType Tryz.prog.depth 134=false:=by kernel_rfl
     have HS:(fun W=>(W.cell? ⟨b,off+k*3,none⟩=some (.int .i64 x.i)∧W.cell? ⟨b,off+k*3+1,none⟩=some (.int .i64 x.m)∧W.cell? ⟨b,off+k*3+2,none⟩=some (.int .i64 x.b))∧(W.cell? ⟨b2,off2+k*3,none⟩=some (.int .i64 y.i)∧W.cell? ⟨b2,off2+k*3+1,none⟩=some (.int .i64 y.m)∧W.cell? ⟨b2,off2+k*3+2,none⟩=some (.int .i64 y.b))) wr.drew:=⟨⟨c0,c1,c2⟩,d0,d1,d2⟩;clear hs hall hx hy;(go_wp2_with fail);refine wp_region_held_drew (S:=(fun W=>(W.cell? ⟨b,off+k*3,none⟩=some (.int .i64 x.i)∧W.cell? ⟨b,off+k*3+1,none⟩=some (.int .i64 x.m)∧W.cell? ⟨b,off+k*3+2,none⟩=some (.int .i64 x.b))∧(W.cell? ⟨b2,off2+k*3,none⟩=some (.int .i64 y.i)∧W.cell? ⟨b2,off2+k*3+1,none⟩=some (.int .i64 y.m)∧W.cell? ⟨b2,off2+k*3+2,none⟩=some (.int .i64 y.b)))) (by kernel_rfl) (HS) (fun hHeld => ?_);refine kK 0 q490 ?_;refine kK 1 q475 ?_;refine kK 2 q491 ?_;refine kK 3 q492 ?_;refine kK 4 q493 ?_;refine kK 5 q479 ?_;refine kK 6 q494 ?_;refine kK 7 q495 ?_;refine kK 8 q496 ?_;refine wpAnyH_done (by kernel_rfl) ?_ _;clear HS hne hgd c0 c1 c2 d0 d1 d2;go_wp2;go_ret;exact ⟨false,rfl,⟨(fun e=>by cases e),fun e=>absurd e HN.out⟩,zp hb⟩
    ·have HA:Hid (∀j:Nat,j < k+1→l[j]?=l2[j]?):=hide (by
      intro j hj;by_cases e:j=k
      ·subst e;rw [hx,hy,(zfa x y).1 hs]
      ·exact hall j (by omega))
     have hne:∀W,(binOp .neq 134 (.agg #[.int .i64 x.i,.int .i64 x.m,.int .i64 x.b]) (.agg #[.int .i64 y.i,.int .i64 y.m,.int .i64 y.b])).run Tryz.prog W=.ok (.bool false) W:=fun W=>by rw [zgn,hs]; rfl
     have hgd:Tryz.prog.eqGuardType Tryz.prog.depth 134=false:=by kernel_rfl
     have HS:(fun W=>(W.cell? ⟨b,off+k*3,none⟩=some (.int .i64 x.i)∧W.cell? ⟨b,off+k*3+1,none⟩=some (.int .i64 x.m)∧W.cell? ⟨b,off+k*3+2,none⟩=some (.int .i64 x.b))∧(W.cell? ⟨b2,off2+k*3,none⟩=some (.int .i64 y.i)∧W.cell? ⟨b2,off2+k*3+1,none⟩=some (.int .i64 y.m)∧W.cell? ⟨b2,off2+k*3+2,none⟩=some (.int .i64 y.b))) wr.drew:=⟨⟨c0,c1,c2⟩,d0,d1,d2⟩;clear hs hall hx hy;(go_wp2_with fail);refine wp_region_held_drew (S:=(fun W=>(W.cell? ⟨b,off+k*3,none⟩=some (.int .i64 x.i)∧W.cell? ⟨b,off+k*3+1,none⟩=some (.int .i64 x.m)∧W.cell? ⟨b,off+k*3+2,none⟩=some (.int .i64 x.b))∧(W.cell? ⟨b2,off2+k*3,none⟩=some (.int .i64 y.i)∧W.cell? ⟨b2,off2+k*3+1,none⟩=some (.int .i64 y.m)∧W.cell? ⟨b2,off2+k*3+2,none⟩=some (.int .i64 y.b)))) (by kernel_rfl) (HS) (fun hHeld => ?_);refine kK 0 q490 ?_;refine kK 1 q475 ?_;refine kK 2 q491 ?_;refine kK 3 q492 ?_;refine kK 4 q493 ?_;refine kK 5 q479 ?_;refine kK 6 q494 ?_;refine kK 7 q495 ?_;refine kK 8 q496 ?_;refine wpAnyH_done (by kernel_rfl) ?_ _;clear HS hne hgd c0 c1 c2 d0 d1 d2;go_wp2
     go_roundw
     case rel=>exact ⟨k+1,by omega,by go_num,HA.out,zp hb⟩
     case measure=>simp [intOf]; omega
   ·have hkn:k=n:=by omega
    subst hkn;have HE:Hid (l=l2):=hide (by
     refine List.ext_getElem? (fun j => ?_);by_cases hj:j < k
     ·exact hall j hj
     ·rw [List.getElem?_eq_none (by omega),List.getElem?_eq_none (by omega)])
    clear hall;go_wp2;go_ret;exact ⟨true,rfl,⟨fun _=>HE.out,fun _=>rfl⟩,hb⟩
 ·have hne:¬(n:Int)=(n2:Int):=by omega
  go_enter Tryz.func89,Tryz.ntmps89;go_wp2;go_ret;exact ⟨false,rfl,⟨(fun e=>by cases e),fun e=>absurd (by rw [← hsz,← hsz2,e]) hnn⟩,Below.refl _ _⟩

theorem zfM (a1:Option Addr) (l1 c1:Nat) (z1:List Int) (a2:Option Addr) (l2 c2:Nat) (z2:List Int) (w:World) (h1:IRow w a1 l1 c1 z1) (h2:IRow w a2 l2 c2 z2) :
  Calls Tryz.prog 90 #[.slice a1 l1 c1,.slice a2 l2 c2] w fun e w'=>e=.returned (.bool (decide (z1=z2)))∧∃n,w'=w.drewN n:=by
 have m1:=h1.top; have m2:=h2.top; have s1:=h1.size; have s2:=h2.size; have e1:=h1.le; have e2:=h2.le
 unfold maxLen at m1 m2;by_cases hl:l1=l2
 ·subst hl;by_cases h0:l1=0
  ·subst h0;have hz:z1=z2:=by rw [List.eq_nil_of_length_eq_zero s1,List.eq_nil_of_length_eq_zero s2]
   go_enter Tryz.func90,Tryz.ntmps90;go_wp2
   go_loop [13] (fun i=>i=.int .i64 0) (fun _=>0)
   case atStart=>rfl
   case round =>
    subst hrel;go_wp2;go_ret;exact ⟨by simp,0,rfl⟩
  ·rcases h1.cell with h | ⟨b1,o1,rfl,g1⟩
   ·exact absurd h h0
   rcases h2.cell with h | ⟨b2,o2,rfl,g2⟩
   ·exact absurd h h0
   clear h1 h2;have G1:Hid (∀i,i < l1→w.cell? ⟨b1,o1+i,none⟩=some (.int .i64 (z1.getD i 0))):=g1;have G2:Hid (∀i,i < l1→w.cell? ⟨b2,o2+i,none⟩=some (.int .i64 (z2.getD i 0))):=g2;clear g1 g2;go_enter Tryz.func90,Tryz.ntmps90;go_wp2
   go_loopw [13] (fun i wr=>∃k:Nat,k≤l1∧i=.int .i64 k∧z1.take k=z2.take k∧∃n,wr=w.drewN n) (fun i _=>l1 - (intOf i).toNat)
   case atStart=>exact ⟨0,Nat.zero_le _,rfl,rfl,0,rfl⟩
   case round =>
    obtain ⟨k,hk,rfl,ht,n,rfl⟩:=hrel;have HT:Hid (z1.take k=z2.take k):=ht;clear ht;by_cases hlt:k < l1
    ·have c1:=G1.out k hlt;have c2:=G2.out k hlt;generalize hx:z1.getD k 0=x at c1;generalize hy:z2.getD k 0=y at c2;have HX:Hid (z1.getD k 0=x):=hx;have HY:Hid (z2.getD k 0=y):=hy;clear hx hy;by_cases hq:x=y
     ·subst hq;go_wp2
      go_quiet (fail)
      go_wp2
      go_roundw
      case rel=>exact ⟨k+1,by omega,by go_num,by rw [zcY _ _ (by omega),zcY _ _ (by omega),HT.out,HX.out,HY.out],_,rfl⟩
      case measure=>simp [intOf]; omega
     ·have hne:(x != y)=true:=by simp [hq]
      go_wp2
      go_quiet (fail)
      go_wp2;go_ret;exact ⟨zI (decide_eq_false (ne_at k (by rw [HX.out,HY.out]; exact hq))).symm,_,World.drewN_drewN _ _ _⟩
    ·go_wp2;go_ret;have hk':k=l1:=by omega
     exact ⟨zI (decide_eq_true (zgz (by omega) (by rw [s1,← hk']; exact HT.out))).symm,_,rfl⟩
 ·have hne:((l1:Int) != (l2:Int))=true:=by simp; omega
  have hz:¬z1=z2:=by intro e; rw [e] at s1; omega
  go_enter Tryz.func90,Tryz.ntmps90;go_wp2;go_ret;exact ⟨zI (decide_eq_false hz).symm,0,rfl⟩

theorem zki (a0:Option Addr) (l0 c0:Nat) (w:World) (h:¬1048576 < l0):Calls Tryz.prog 7 #[.slice a0 l0 c0] w fun e w'=>e=.returned (.bool false)∧w'=w:=by
 have i1:¬(1048576:Int) < l0:=by omega
 go_enter Tryz.func7,Tryz.ntmps7;go_wp2;go_ret;exact ⟨rfl,rfl⟩

theorem Row.take {w:World} {ao:Option Addr} {n c:Nat} {zs:List Int} (h:Row w ao n c zs) (k:Nat) (hk:k≤n):Row w ao k c (zs.take k) where
 size:=by have:=h.size; simp; omega
 le:=by have:=h.le; omega
 top:=h.top
 nil:=h.nil
 byte:=fun z hz=>h.byte z (List.mem_of_mem_take hz)
 cell:=by
  rcases h.cell with h0 | ⟨b,off,ha,hc⟩
  ·exact .inl (by omega)
  ·exact .inr ⟨b,off,ha,fun i hi=>by rw [hc i (by omega)]; simp [List.getD_eq_getElem?_getD,hi]⟩

end Go.Proofs.YtkoekkjfcaiagaaGreat
