/-
  Packed: PtRoleI PtSendsI VlanRow BitPort MapIs.
-/
import Derived.Test.YtpaneiaflfegoaaGreatPTKW
import Derived.Test.YtpaneiaflfegoaaGreatPTK01
import Derived.Test.YtpaneiaflfegoaaGreatPTK03
import Derived.Test.YtpaneiaflfegoaaGreatPTK04
import Derived.Test.YtpaneiaflfegoaaGreatPTK05
import Derived.Deep.RegionHeld3
import Derived.Maps.RangeWalk
namespace Go.Proofs.YtpaneiaflfegoaaGreat
set_option maxRecDepth 100000
set_option maxHeartbeats 16000000
open Go.RowKit

abbrev q227:Oper:=⟨some 32,.move (.tmp 1),57,"l10_role.go:54",#[],none⟩
abbrev q228:Oper:=⟨some 33,.move (.tmp 2),3,"l10_role.go:54",#[],none⟩
abbrev q229:Oper:=⟨some 34,.indexAddr 57 (.tmp 32) (.tmp 33),0,"l10_role.go:54",#[⟨0,.data⟩,⟨1,.data⟩],none⟩
abbrev q230:Oper:=⟨some 35,.fieldAddr 103 (.tmp 34) 2,0,"l10_role.go:54",#[⟨2,.data⟩],none⟩
abbrev q231:Oper:=⟨some 36,.load 4 (.tmp 35),4,"l10_role.go:54",#[⟨3,.data⟩],none⟩
abbrev q232:Oper:=⟨some 37,.unOp .not 4 (.tmp 36),4,"l10_role.go:54",#[⟨4,.data⟩],none⟩
abbrev q233:Oper:=⟨some 38,.move (.tmp 37),4,"l10_role.go:54",#[⟨5,.data⟩],none⟩
abbrev q234:Oper:=⟨some 39,.move (.tmp 0),3,"l10_role.go:54",#[⟨6,.guard⟩],some (6,false)⟩
abbrev q235:Oper:=⟨some 40,.move (.tmp 1),57,"l10_role.go:54",#[⟨6,.guard⟩],some (6,false)⟩
abbrev q236:Oper:=⟨some 41,.move (.tmp 2),3,"l10_role.go:54",#[⟨6,.guard⟩],some (6,false)⟩
abbrev q237:Oper:=⟨some 42,.call ⟨.value (.func 157),#[.tmp 39,.tmp 40,.tmp 41],#[3,57,3]⟩,101,"l10_role.go:54",#[⟨7,.data⟩,⟨8,.data⟩,⟨9,.data⟩,⟨6,.chain⟩,⟨6,.guard⟩],some (6,false)⟩
abbrev q238:Oper:=⟨some 43,.move (.tmp 1),57,"l10_role.go:54",#[⟨6,.guard⟩],some (6,false)⟩
abbrev q239:Oper:=⟨some 44,.move (.tmp 2),3,"l10_role.go:54",#[⟨6,.guard⟩],some (6,false)⟩
abbrev q240:Oper:=⟨some 45,.indexAddr 57 (.tmp 43) (.tmp 44),0,"l10_role.go:54",#[⟨11,.data⟩,⟨12,.data⟩,⟨6,.guard⟩],some (6,false)⟩
abbrev q241:Oper:=⟨some 46,.fieldAddr 103 (.tmp 45) 3,0,"l10_role.go:54",#[⟨13,.data⟩,⟨6,.guard⟩],some (6,false)⟩
abbrev q242:Oper:=⟨some 47,.load 101 (.tmp 46),101,"l10_role.go:54",#[⟨14,.data⟩,⟨6,.guard⟩],some (6,false)⟩
abbrev q243:Oper:=⟨some 48,.call ⟨.value (.func 195),#[.tmp 42,.tmp 47],#[101,101]⟩,4,"l10_role.go:54",#[⟨10,.data⟩,⟨15,.data⟩,⟨10,.chain⟩,⟨6,.guard⟩],some (6,false)⟩
abbrev q244:Oper:=⟨some 49,.pick (.tmp 38) (.const (.bool true)) (.tmp 48),4,"l10_role.go:54",#[⟨6,.data⟩,⟨16,.data⟩],none⟩

theorem zb2 (id:Int) (a:Option Addr) (n c:Nat) (l:List PT) (port:Int) (w:World) (h:GRow ptF w a n c l) :
  Calls Tryz.prog 157 #[.int .i64 id,.slice a n c,.int .i64 port] w fun e w'=>e=.returned (.agg #[.int .i64 (sayV id l port).r,.int .i64 (sayV id l port).c,.int .i64 (sayV id l port).h,.int .i64 (sayV id l port).b,.int .i64 (sayV id l port).p])∧Below w.heap.size w w':=by
 generalize hw1:w.alloc (Obj.cells #[.int .i64 0,.int .i64 0,.int .i64 0,.int .i64 0,.int .i64 0] 101)=w1;have q1:=zb hw1;have k1:=zk hw1;have hsb:(sayV id l port)=⟨(bestV id (zW id l)).r,(bestV id (zW id l)).c,(bestV id (zW id l)).h,(bestV id (zW id l)).b,port⟩:=by
  unfold sayV;cases zW id l <;> rfl
 rw [hsb];clear hsb;go_enter Tryz.func157,Tryz.ntmps157;go_wp2_with fail
 refine (zbR id a n c l _ (h.below q1)).mono ?_;rintro e w2 ⟨rfl,hb2⟩;generalize hv:bestV id (zW id l)=v;have HV:=hide hv;clear hv;generalize hw3:w2.alloc (Obj.cells #[.int .i64 v.r,.int .i64 v.c,.int .i64 v.h,.int .i64 v.b,.int .i64 v.p] 101)=w3;have hb3:=zb hw3;have k3:=zk hw3;have k1:=za (za k1 hb2) hb3;have lt1:=(Array.getElem?_eq_some_iff.1 (za (by rw [← hw1]; exact zr _ _:w1.heap[w.heap.size]?=some (.cells #[.int .i64 0,.int .i64 0,.int .i64 0,.int .i64 0,.int .i64 0] 101)) hb2)).1;have ne1:¬w2.heap.size=w.heap.size:=by omega
 have ne2:¬w.heap.size=w2.heap.size:=by omega
 have HB:=hide (zad (zn (zc (zc q1 hb2) hb3) (g:=w2.heap.size) (by omega) 4 (.int .i64 port)) (Nat.le_refl w.heap.size) (.int .i64 v.r) (.int .i64 v.c) (.int .i64 v.h) (.int .i64 v.b) (.int .i64 port));obtain ⟨⟨x0,x1,x2,x3,x4⟩,y0,y1,y2,y3,y4⟩:=zC k3;obtain ⟨⟨r0,r1,r2,r3,r4⟩,z0,z1,z2,z3,z4⟩:=zC k1;clear hb2 hb3 k1 k3 q1 lt1;go_wp2;exact bodyPost_ret (v:=.agg #[.int .i64 v.r,.int .i64 v.c,.int .i64 v.h,.int .i64 v.b,.int .i64 port]) (by simp [results,Tryz.results157,go_sem, *]) rfl ⟨(by rw [HV.out]),HB.out⟩

theorem zgr (id:Int) (a:Option Addr) (n c:Nat) (l:List PT) (port:Int) (w:World) (h:GRow ptF w a n c l) :
  Calls Tryz.prog 204 #[.int .i64 id,.slice a n c,.int .i64 port] w fun e w'=>e=.returned (.int .i64 (zaI id l port))∧Below w.heap.size w w':=by
 have hle:=h.le;have htop:=h.top;unfold maxLen at htop;have hsz:=hide h.size;cases hin:(decide (0≤port) && decide (port≤(n:Int) - 1))
 ·have HIN:=hide hin;have HR:Hid (zaI id l port=4):=hide (by unfold zaI; rw [hsz.out,hin]; rfl);clear hin;go_enter Tryz.func204,Tryz.ntmps204;(go_wp2_with fail);refine (zE port 0 ((n:Int) - 1) _).mono ?_;rintro e w1 ⟨rfl,ew⟩;obtain rfl:=ew.symm;rw [HIN.out];go_wp2;go_ret;exact ⟨(by rw [HR.out]; rfl),Below.refl _ _⟩
 obtain ⟨k,rfl⟩:∃k:Nat,port=(k:Int):=⟨port.toNat,by simp at hin; omega⟩;have hlt:k < n:=by simp at hin; omega
 have HIN:=hide hin;have i1:(0:Int)≤(k:Int):=by omega
 have i2:(k:Int) < (n:Int):=by omega
 obtain ⟨x,b,off,hx,rfl,c0,c1,c2,c3,c4,c5,c6,c7⟩:=pt_at h k hlt;have hro:zaI id l (k:Int)=zcO id l k x:=by
  unfold zaI;rw [hsz.out,hin]
  simp [hx]
 have HRO:=hide hro;clear hin hro;cases hu:x.up
 ·rw [hu] at c0;have HR:Hid (zaI id l (k:Int)=4):=hide (by rw [HRO.out]; unfold zcO; rw [if_pos hu]);clear hu c1 c2 c3 c4 c5 c6 c7 hx;go_enter Tryz.func204,Tryz.ntmps204;(go_wp2_with fail);refine (zE (k:Int) 0 ((n:Int) - 1) _).mono ?_;rintro e w1 ⟨rfl,ew⟩;obtain rfl:=ew.symm;rw [HIN.out];go_wp2;go_ret;exact ⟨(by rw [HR.out]; rfl),Below.refl _ _⟩
 rw [hu] at c0;have HU:=hide hu;clear hu;by_cases hp:bestP (zW id l)=(k:Int)
 ·have HR:Hid (zaI id l (k:Int)=1):=hide (by rw [HRO.out]; unfold zcO; rw [if_neg (by rw [HU.out]; decide),if_pos hp]);have HP:=hide hp;clear c1 c2 c3 c4 c5 c6 c7 hx hp;go_enter Tryz.func204,Tryz.ntmps204;(go_wp2_with fail);refine (zE (k:Int) 0 ((n:Int) - 1) _).mono ?_;rintro e w1 ⟨rfl,ew⟩;obtain rfl:=ew.symm;rw [HIN.out];(go_wp2_with fail);refine (zbR id (some ⟨b,off,none⟩) n c l _ h).mono ?_;rintro e w2 ⟨rfl,hb2⟩;rw [HP.out];have HB:=hide (zc hb2 (zl _ (Obj.cells #[.int .i64 (bestV id (zW id l)).r,.int .i64 (bestV id (zW id l)).c,.int .i64 (bestV id (zW id l)).h,.int .i64 (bestV id (zW id l)).b,.int .i64 (bestV id (zW id l)).p] 101)));clear hb2 c0;go_wp2;go_ret;exact ⟨(by rw [HR.out]; rfl),HB.out⟩
 go_enter Tryz.func204,Tryz.ntmps204;go_wp2_with fail
 refine (zE (k:Int) 0 ((n:Int) - 1) _).mono ?_;rintro e w1 ⟨rfl,ew⟩;obtain rfl:=ew.symm;rw [HIN.out];go_wp2_with fail
 refine (zbR id (some ⟨b,off,none⟩) n c l _ h).mono ?_;rintro e w2 ⟨rfl,hb2⟩;generalize hw3:w2.alloc (Obj.cells #[.int .i64 (bestV id (zW id l)).r,.int .i64 (bestV id (zW id l)).c,.int .i64 (bestV id (zW id l)).h,.int .i64 (bestV id (zW id l)).b,.int .i64 (bestV id (zW id l)).p] 101)=w3;have HB:Hid (Below w.heap.size w w3):=hide (zc hb2 (by rw [← hw3]; exact zl _ _));clear hb2 c0 c1 c2 c3 c4 c5 c6 c7;obtain ⟨x',b',off',hx',ha',c0,c1,c2,c3,c4,c5,c6,c7⟩:=pt_at (h.below HB.out) k hlt;rw [hx] at hx';cases hx';cases ha';generalize hP:bestP (zW id l)=P at *;have hPne:((k:Int) == P)=false:=by simp; exact fun e=>hp e.symm
 have HX:=hide hx;have vv:Below w3.heap.size w3 w3.drew:=zp (Below.refl _ _);have HR0:Hid (zaI id l (k:Int)=(if (!x.has || lessV (sayV id l (k:Int)) x.v)=true then 2 else 3)):=hide (by rw [HRO.out]; unfold zcO; rw [if_neg (by rw [HU.out]; decide),hP,if_neg hp]);clear c0 c1 hx hP;cases hh:x.has
 ·rw [hh] at c2;have HR:Hid (zaI id l (k:Int)=2):=hide (by rw [HR0.out,hh]; rfl);have HSS:Hid (∀W',Below w3.heap.size w3 W'→W'.cell? ⟨b,off+k*8+2,none⟩=some (.bool false)∧W'.cell? ⟨b,off+k*8+3,none⟩=some (.int .i64 x.v.r)∧W'.cell? ⟨b,off+k*8+4,none⟩=some (.int .i64 x.v.c)∧W'.cell? ⟨b,off+k*8+5,none⟩=some (.int .i64 x.v.h)∧W'.cell? ⟨b,off+k*8+6,none⟩=some (.int .i64 x.v.b)∧W'.cell? ⟨b,off+k*8+7,none⟩=some (.int .i64 x.v.p)):=hide (fun W' hb=>⟨(hb.cell (zF c2)).trans c2,(hb.cell (zF c3)).trans c3,(hb.cell (zF c4)).trans c4,(hb.cell (zF c5)).trans c5,(hb.cell (zF c6)).trans c6,(hb.cell (zF c7)).trans c7⟩);clear c2 c3 c4 c5 c6 c7 hh;(go_wp2_with fail);refine wp_region_held_drew (S:=(fun W=>W.cell? ⟨b,off+k*8+2,none⟩=some (.bool false)∧W.cell? ⟨b,off+k*8+3,none⟩=some (.int .i64 x.v.r)∧W.cell? ⟨b,off+k*8+4,none⟩=some (.int .i64 x.v.c)∧W.cell? ⟨b,off+k*8+5,none⟩=some (.int .i64 x.v.h)∧W.cell? ⟨b,off+k*8+6,none⟩=some (.int .i64 x.v.b)∧W.cell? ⟨b,off+k*8+7,none⟩=some (.int .i64 x.v.p))) (by kernel_rfl) (HSS.out _ vv) (fun hHeld => ?_);refine kK 0 q227 ?_;refine kK 1 q228 ?_;refine kK 2 q229 ?_;refine kK 3 q230 ?_;refine kK 4 q231 ?_;refine kK 5 q232 ?_;refine kK 6 q233 ?_;refine kN 7 q234 ?_;refine kN 8 q235 ?_;refine kN 9 q236 ?_;refine kN 10 q237 ?_;refine kN 11 q238 ?_;refine kN 12 q239 ?_;refine kN 13 q240 ?_;refine kN 14 q241 ?_;refine kN 15 q242 ?_;refine kN 16 q243 ?_;refine kK 17 q244 ?_;refine wpAnyH_done (by kernel_rfl) ?_ _;clear hHeld;go_wp2;go_ret;exact ⟨(by rw [HR.out]; rfl),zc HB.out vv⟩
 ·rw [hh] at c2;have HSS:Hid (∀W',Below w3.heap.size w3 W'→W'.cell? ⟨b,off+k*8+2,none⟩=some (.bool true)∧W'.cell? ⟨b,off+k*8+3,none⟩=some (.int .i64 x.v.r)∧W'.cell? ⟨b,off+k*8+4,none⟩=some (.int .i64 x.v.c)∧W'.cell? ⟨b,off+k*8+5,none⟩=some (.int .i64 x.v.h)∧W'.cell? ⟨b,off+k*8+6,none⟩=some (.int .i64 x.v.b)∧W'.cell? ⟨b,off+k*8+7,none⟩=some (.int .i64 x.v.p)):=hide (fun W' hb=>⟨(hb.cell (zF c2)).trans c2,(hb.cell (zF c3)).trans c3,(hb.cell (zF c4)).trans c4,(hb.cell (zF c5)).trans c5,(hb.cell (zF c6)).trans c6,(hb.cell (zF c7)).trans c7⟩);clear c2 c3 c4 c5 c6 c7;cases hl:lessV (sayV id l (k:Int)) x.v
  ·have HR:Hid (zaI id l (k:Int)=3):=hide (by rw [HR0.out,hh,hl]; rfl);have HL:Hid (zaT (sayV id l (k:Int)).r (sayV id l (k:Int)).c (sayV id l (k:Int)).b (sayV id l (k:Int)).p x.v.r x.v.c x.v.b x.v.p=false):=hide hl;clear hh hl;(go_wp2_with fail);refine wp_region_held_drew (S:=(fun W=>W.cell? ⟨b,off+k*8+2,none⟩=some (.bool true)∧W.cell? ⟨b,off+k*8+3,none⟩=some (.int .i64 x.v.r)∧W.cell? ⟨b,off+k*8+4,none⟩=some (.int .i64 x.v.c)∧W.cell? ⟨b,off+k*8+5,none⟩=some (.int .i64 x.v.h)∧W.cell? ⟨b,off+k*8+6,none⟩=some (.int .i64 x.v.b)∧W.cell? ⟨b,off+k*8+7,none⟩=some (.int .i64 x.v.p))) (by kernel_rfl) (HSS.out _ vv) (fun hHeld => ?_);refine kK 0 q227 ?_;refine kK 1 q228 ?_;refine kK 2 q229 ?_;refine kK 3 q230 ?_;refine kK 4 q231 ?_;refine kK 5 q232 ?_;refine kK 6 q233 ?_;refine kK 7 q234 ?_;refine kK 8 q235 ?_;refine kK 9 q236 ?_;refine kK 11 q238 ?_;refine kK 12 q239 ?_;refine kK 13 q240 ?_;refine kK 14 q241 ?_;refine kK 15 q242 ?_;refine kR 10 q237 (fun K hK => ?_);go_simp;refine (zb2 id (some ⟨b,off,none⟩) n c l (k:Int) _ (h.below (zc HB.out vv))).mono ?_;rintro e wx ⟨rfl,hbx⟩;have vv:=zc vv hbx;clear hbx;(go_wp2_with fail);refine hK.out _ _ (HSS.out _ vv) (fun hHeld => ?_);clear hK K;(try simp only [Act.put,lA,lB,lC]);refine kR 16 q243 (fun K hK => ?_);go_simp;refine (zbm (sayV id l (k:Int)).r (sayV id l (k:Int)).c (sayV id l (k:Int)).h (sayV id l (k:Int)).b (sayV id l (k:Int)).p x.v.r x.v.c x.v.h x.v.b x.v.p _).mono ?_;rintro e wx ⟨rfl,hbx⟩;rw [HL.out];have vv:=zc vv hbx;clear hbx;(go_wp2_with fail);refine hK.out _ _ (HSS.out _ vv) (fun hHeld => ?_);clear hK K;(try simp only [Act.put,lA,lB,lC]);refine kK 17 q244 ?_;refine wpAnyH_done (by kernel_rfl) ?_ _;clear hHeld;go_wp2;go_ret;exact ⟨(by rw [HR.out]; rfl),zc HB.out vv⟩
  ·have HR:Hid (zaI id l (k:Int)=2):=hide (by rw [HR0.out,hh,hl]; rfl);have HL:Hid (zaT (sayV id l (k:Int)).r (sayV id l (k:Int)).c (sayV id l (k:Int)).b (sayV id l (k:Int)).p x.v.r x.v.c x.v.b x.v.p=true):=hide hl;clear hh hl;(go_wp2_with fail);refine wp_region_held_drew (S:=(fun W=>W.cell? ⟨b,off+k*8+2,none⟩=some (.bool true)∧W.cell? ⟨b,off+k*8+3,none⟩=some (.int .i64 x.v.r)∧W.cell? ⟨b,off+k*8+4,none⟩=some (.int .i64 x.v.c)∧W.cell? ⟨b,off+k*8+5,none⟩=some (.int .i64 x.v.h)∧W.cell? ⟨b,off+k*8+6,none⟩=some (.int .i64 x.v.b)∧W.cell? ⟨b,off+k*8+7,none⟩=some (.int .i64 x.v.p))) (by kernel_rfl) (HSS.out _ vv) (fun hHeld => ?_);refine kK 0 q227 ?_;refine kK 1 q228 ?_;refine kK 2 q229 ?_;refine kK 3 q230 ?_;refine kK 4 q231 ?_;refine kK 5 q232 ?_;refine kK 6 q233 ?_;refine kK 7 q234 ?_;refine kK 8 q235 ?_;refine kK 9 q236 ?_;refine kK 11 q238 ?_;refine kK 12 q239 ?_;refine kK 13 q240 ?_;refine kK 14 q241 ?_;refine kK 15 q242 ?_;refine kR 10 q237 (fun K hK => ?_);go_simp;refine (zb2 id (some ⟨b,off,none⟩) n c l (k:Int) _ (h.below (zc HB.out vv))).mono ?_;rintro e wx ⟨rfl,hbx⟩;have vv:=zc vv hbx;clear hbx;(go_wp2_with fail);refine hK.out _ _ (HSS.out _ vv) (fun hHeld => ?_);clear hK K;(try simp only [Act.put,lA,lB,lC]);refine kR 16 q243 (fun K hK => ?_);go_simp;refine (zbm (sayV id l (k:Int)).r (sayV id l (k:Int)).c (sayV id l (k:Int)).h (sayV id l (k:Int)).b (sayV id l (k:Int)).p x.v.r x.v.c x.v.h x.v.b x.v.p _).mono ?_;rintro e wx ⟨rfl,hbx⟩;rw [HL.out];have vv:=zc vv hbx;clear hbx;(go_wp2_with fail);refine hK.out _ _ (HSS.out _ vv) (fun hHeld => ?_);clear hK K;(try simp only [Act.put,lA,lB,lC]);refine kK 17 q244 ?_;refine wpAnyH_done (by kernel_rfl) ?_ _;clear hHeld;go_wp2;go_ret;exact ⟨(by rw [HR.out]; rfl),zc HB.out vv⟩

theorem zfG (id:Int) (a:Option Addr) (n c:Nat) (l:List PT) (w:World) (h:GRow ptF w a n c l) :
  Calls Tryz.prog 197 #[.int .i64 id,.slice a n c] w fun e w'=>e=.returned (.int .i64 (zbh id l))∧Below w.heap.size w w':=by
 have hle:=h.le;have htop:=h.top;unfold maxLen at htop;have hsz:=hide h.size;go_enter Tryz.func197,Tryz.ntmps197;go_wp2_with fail
 go_loopw [5,10] (fun s i wr=>∃k:Nat,k≤min n 6∧i=.int .i64 k∧s=.int .i64 (zaZ id l k)∧Below w.heap.size w wr) (fun _ i _=>6 - (intOf i).toNat)
 case atStart=>exact ⟨0,Nat.zero_le _,rfl,rfl,Below.refl _ _⟩
 case round =>
  obtain ⟨k,hk,rfl,rfl,hb⟩:=hrel;have hk6:k≤6:=by omega
  generalize hS:zaZ id l k=S;have HS:=hide hS;clear hS;by_cases hlt:k < min n 6
  ·have hkn:k < n:=by omega
   have hk5:k < 6:=by omega
   have i1:(0:Int)≤(k:Int):=by omega
   have i2:(k:Int) < (n:Int):=by omega
   have i3:(k:Int) < 6:=by omega
   have hmin:(if (n:Int)≤6 then (n:Int) else 6)=((min n 6:Nat):Int):=by split <;> omega
   have i4:(k:Int) < ((min n 6:Nat):Int):=by omega
   have HB:=hide hb;clear hk hb;(go_wp2_with fail);refine (zgr id a n c l (k:Int) _ (h.below HB.out)).mono ?_;rintro e w2 ⟨rfl,hb2⟩;have HB2:=hide (zc HB.out hb2);have h14:=ziC (id:=id) (l:=l) (k:Int);clear hb2;generalize hR:zaI id l (k:Int)=R at *;have HR:=hide hR;clear hR;by_cases hr:R≤2
   ·have HN:Hid (zaZ id l (k+1)=bits .or .i64 S (2 ^ k)):=hide (by rw [zaZ,HR.out,if_pos hr,HS.out]);have hw2:wrap64 (2 ^ k)=2 ^ k:=by
     rcases (show k=0∨k=1∨k=2∨k=3∨k=4∨k=5 by omega) with rfl | rfl | rfl | rfl | rfl | rfl <;> exact Go.IntWalk.wrap64_in _ (by decide)
    have HW2:=hide hw2;clear hw2;obtain rfl | rfl:R=1∨R=2:=by omega
    ·go_wp2;rw [HW2.out]
     go_roundw
     case rel=>exact ⟨k+1,by omega,by go_num,by rw [HN.out],HB2.out⟩
     case measure=>simp [intOf]; omega
    ·go_wp2;rw [HW2.out]
     go_roundw
     case rel=>exact ⟨k+1,by omega,by go_num,by rw [HN.out],HB2.out⟩
     case measure=>simp [intOf]; omega
   ·have HN:Hid (zaZ id l (k+1)=S):=hide (by rw [zaZ,HR.out,if_neg hr,HS.out]);have hne1:¬R=1:=by omega
    have hne2:¬R=2:=by omega
    go_wp2
    go_roundw
    case rel=>exact ⟨k+1,by omega,by go_num,by rw [HN.out],HB2.out⟩
    case measure=>simp [intOf]; omega
  ·have hkn:k=min n 6:=by omega
   have HK:Hid (zbh id l=S):=hide (by unfold zbh; rw [hsz.out,← hkn]; exact HS.out);have hend:¬((k:Int) < (n:Int)∧(k:Int) < 6):=by omega
   go_wp2
   all_goals go_ret
   all_goals exact ⟨(by rw [HK.out]; rfl),hb⟩

theorem cell1 {w:World} {g:Nat} {T:TypeId} {v:Value} (h:w.heap[g]?=some (.cells #[v] T)):w.cell? ⟨g,0,none⟩=some v:=by simp [World.cell?,h]

theorem zgF (v:Value) (w:World):(method 362 184 v "loop.example/g00326/impl.number").run Tryz.prog w=.ok (221,v) w:=by kernel_rfl

theorem za8 (r:VR) (w:World):Calls Tryz.prog 221 #[.agg #[.int .i64 r.i,.int .i64 r.m,.int .i64 r.b]] w fun e w'=>e=.returned (.int .i64 r.i)∧Below w.heap.size w w':=by
 go_enter Tryz.func221,Tryz.ntmps221;go_wp2;go_ret;exact ⟨rfl,zl _ _⟩

theorem zb1 (a:Option Addr) (n c:Nat) (o:Option Addr) (p q:Nat) (w:World):Calls Tryz.prog 174 #[.agg #[.slice a n c,.slice o p q]] w fun e w'=>e=.returned (.slice a n c)∧Below w.heap.size w w':=by
 go_enter Tryz.func174,Tryz.ntmps174;go_wp2;go_ret;exact ⟨rfl,zl _ _⟩

theorem zcK (r:VR) (id:Int) (g:Nat) (w:World) (c:w.heap[g]?=some (.cells #[.int .i64 id] 3)) :
  Calls Tryz.prog 200 #[.agg #[.int .i64 r.i,.int .i64 r.m,.int .i64 r.b],.pointer (some ⟨g,0,none⟩)] w fun e w'=>e=.returned (.bool (r.i == id))∧Below w.heap.size w w':=by
 have hm:=zgF;generalize hw1:w.alloc (Obj.cells #[.int .i64 r.i,.int .i64 r.m,.int .i64 r.b] 184)=w1;have q:=zb hw1;have k0:=zk hw1;have HS:Hid (∀W,Below w1.heap.size w1 W→(W.cell? ⟨w.heap.size,0,none⟩=some (.int .i64 r.i)∧W.cell? ⟨w.heap.size,1,none⟩=some (.int .i64 r.m)∧W.cell? ⟨w.heap.size,2,none⟩=some (.int .i64 r.b))∧W.cell? ⟨g,0,none⟩=some (.int .i64 id)):=hide (fun W hW=>⟨(zaz (za k0 hW)).1,cell1 (za (za c q) hW)⟩);clear k0;have vv:Below w1.heap.size w1 w1.drew:=zp (Below.refl _ _);go_enter Tryz.func200,Tryz.ntmps200;go_wp2_with fail
 refine wp_region_held_drew (S:=(fun W=>(W.cell? ⟨w.heap.size,0,none⟩=some (.int .i64 r.i)∧W.cell? ⟨w.heap.size,1,none⟩=some (.int .i64 r.m)∧W.cell? ⟨w.heap.size,2,none⟩=some (.int .i64 r.b))∧W.cell? ⟨g,0,none⟩=some (.int .i64 id))) (by kernel_rfl) (HS.out _ vv) (fun hHeld => ?_);refine kK 0 ⟨some 4,.load 184 (.tmp 2),184,"l09_vlan.go:152",#[],none⟩ ?_;refine kK 1 ⟨some 5,.makeInterface 184 (.tmp 4),20,"l09_vlan.go:152",#[⟨0,.data⟩],none⟩ ?_;refine kK 3 ⟨some 7,.load 3 (.tmp 1),3,"l09_vlan.go:152",#[],none⟩ ?_;refine kR 2 ⟨some 6,.call ⟨.invoke (.tmp 5) "loop.example/g00326/impl.number",#[],#[]⟩,3,"l09_vlan.go:152",#[⟨1,.data⟩],none⟩ (fun K hK => ?_);go_simp;refine (za8 r _).mono ?_;rintro e wz ⟨rfl,hbz⟩;have vv:=zc vv hbz;go_wp2_with fail
 refine hK.out _ _ (HS.out _ vv) (fun hHeld => ?_);clear hK K
 try simp only [Act.put,lA,lB,lC]
 refine kK 4 ⟨some 8,.binOp .eql 3 (.tmp 6) (.tmp 7) 3,4,"l09_vlan.go:152",#[⟨2,.data⟩,⟨3,.data⟩],none⟩ ?_;refine kK 5 ⟨some 3,.assign (.tmp 8),4,"l09_vlan.go:152",#[⟨4,.data⟩,⟨2,.chain⟩,⟨0,.phase⟩,⟨1,.phase⟩,⟨2,.phase⟩,⟨3,.phase⟩,⟨4,.phase⟩],none⟩ ?_;refine wpAnyH_done (by kernel_rfl) ?_ _;have HB:=hide (zc q vv);clear HS vv q;go_wp2;go_ret;exact ⟨rfl,HB.out⟩

theorem zgP (a:Option Addr) (n c:Nat) (l:List VR) (id:Int) (g:Nat) (w:World) (h:GRow vrowF w a n c l) (cg:w.heap[g]?=some (.cells #[.int .i64 id] 3)) :
  Calls Tryz.prog 199 #[.slice a n c,.func (.func 200) #[] #[.pointer (some ⟨g,0,none⟩)]] w fun r w'=>r=.returned (.int .i64 (rowAt l id))∧Below w.heap.size w w':=by
 have hle:=h.le;have htop:=h.top;unfold maxLen at htop;have hsz:=h.size;go_enter Tryz.func199,Tryz.ntmps199;go_wp2
 go_loopw [8] (fun i wr=>∃k:Nat,k≤n∧i=.int .i64 k∧(∀(j:Nat) (y:VR),j < k→l[j]?=some y→(y.i == id)=false)∧Below w.heap.size w wr) (fun i _=>n - (intOf i).toNat)
 case atStart=>exact ⟨0,Nat.zero_le _,rfl,fun j y hj=>by omega,Below.refl _ _⟩
 case round =>
  obtain ⟨k,hk,rfl,hno,hb⟩:=hrel;by_cases hlt:k < n
  ·obtain ⟨x,b,off,hx,rfl,c0,c1,c2⟩:=zbC (h.below hb) k hlt;cases t1:(x.i == id)
   ·have HO:=hide (ziL hno hx t1);have HA:=hide t1;have HB:=hide hb;clear t1 hno hb hx;(go_wp2_with fail);refine (zcK x id g _ (za cg HB.out)).mono ?_;rintro r w1 ⟨rfl,hb1⟩;rw [HA.out];have HB1:=hide (zc HB.out hb1);clear hb1 c0 c1 c2;go_wp2
    go_roundw
    case rel=>exact ⟨k+1,by omega,by go_num,HO.out,HB1.out⟩
    case measure=>simp [intOf]; omega
   ·have HF:=hide (zew hno hx t1);have HA:=hide t1;have HB:=hide hb;clear t1 hno hb hx;(go_wp2_with fail);refine (zcK x id g _ (za cg HB.out)).mono ?_;rintro r w1 ⟨rfl,hb1⟩;rw [HA.out];have HB1:=hide (zc HB.out hb1);clear hb1 c0 c1 c2;go_wp2;go_ret;exact ⟨(by rw [HF.out]; rfl),HB1.out⟩
  ·have hkn:k=n:=by omega
   have HF:=hide (zfh (l:=l) (id:=id) (fun i y hy=>hno i y (by have:=(List.getElem?_eq_some_iff.1 hy).1; omega) hy));have HB:=hide hb;clear hno hb;subst hkn;go_wp2;go_ret;exact ⟨(by rw [HF.out]; rfl),HB.out⟩

theorem zfF (a:Option Addr) (n c:Nat) (l:List VR) (id:Int) (w:World) (h:GRow vrowF w a n c l) :
  Calls Tryz.prog 193 #[.slice a n c,.int .i64 id] w fun r w'=>r=.returned (.int .i64 (rowAt l id))∧Below w.heap.size w w':=by
 have hmf:∀(fn:Fn) (first cap:Array Value) (w:World),(Instr.makeFunc fn first cap).run Tryz.prog w=.ok (.func fn first cap) w:=fun _ _ _ _=>rfl
 have q:=zl w (.cells #[.int .i64 id] 3);go_enter Tryz.func193,Tryz.ntmps193;go_wp2_with fail
 refine (zgP a n c l id _ _ (h.below q) (zr w _)).mono ?_;rintro r w1 ⟨rfl,hb1⟩;have HB:=hide (zc q hb1);clear hb1 q;go_wp2;go_ret;exact ⟨rfl,HB.out⟩

theorem zdc (a:Option Addr) (n c:Nat) (l:List VR) (o:Option Addr) (p q:Nat) (id:Int) (w:World) (h:GRow vrowF w a n c l) :
  Calls Tryz.prog 177 #[.agg #[.slice a n c,.slice o p q],.int .i64 id] w fun r w'=>r=.returned (.int .i64 (rowAt l id))∧Below w.heap.size w w':=by
 have q0:=zl w (.cells #[.slice a n c,.slice o p q] 62);go_enter Tryz.func177,Tryz.ntmps177;go_wp2_with fail
 refine (zb1 a n c o p q _).mono ?_;rintro r w1 ⟨rfl,hb1⟩;have q1:=zc q0 hb1;clear hb1;go_wp2_with fail
 refine (zfF a n c l id _ (h.below q1)).mono ?_;rintro r w2 ⟨rfl,hb2⟩;have HB:=hide (zc q1 hb2);clear hb2 q1 q0;go_wp2;go_ret;exact ⟨rfl,HB.out⟩

theorem zd3 {n port:Int} (h:in3 port 0 7=false):bitOf n port=false:=by
 unfold bitOf;rw [h]
 rfl

theorem zia {n:Int} {k:Nat} (h:k≤7):bitOf n (k:Int)=(bits .and .i64 (n / 2 ^ k) 1 == 1):=by
 unfold bitOf in3;rw [Int.toNat_natCast,decide_eq_true (show (0:Int)≤(k:Int) by omega),decide_eq_true (show (k:Int)≤7 by omega)]
 rfl

theorem zhV (n port:Int) (w:World) :
  Calls Tryz.prog 102 #[.int .i64 n,.int .i64 port] w fun e w'=>e=.returned (.bool (bitOf n port))∧w'=w:=by
 cases hin:in3 port 0 7
 ·rw [zd3 hin];have HIN:=hide hin;clear hin;go_enter Tryz.func102,Tryz.ntmps102;(go_wp2_with fail);refine (zh port 0 7 _).mono ?_;rintro e w1 ⟨rfl,e1⟩;obtain rfl:=e1.symm;rw [show (decide (0≤port) && decide (port≤7))=false from HIN.out];go_wp2;go_ret;exact ⟨rfl,rfl⟩
 ·have hp:0≤port∧port≤7:=by unfold in3 at hin; simpa using hin
  obtain ⟨k,rfl⟩:∃k:Nat,port=(k:Int):=⟨port.toNat,by omega⟩;rw [zia (by omega)];generalize hB:(bits .and .i64 (n / 2 ^ k) 1 == 1)=B;have hwk:IntKind.u64.wrap (k:Int)=(k:Int):=by rw [IntKind.wrap_u64]; omega
  have HIN:=hide hin;clear hin;go_enter Tryz.func102,Tryz.ntmps102;(go_wp2_with fail);refine (zh (k:Int) 0 7 _).mono ?_;rintro e w1 ⟨rfl,e1⟩;obtain rfl:=e1.symm;rw [show (decide (0≤(k:Int)) && decide ((k:Int)≤7))=true from HIN.out];go_wp2;go_ret;exact ⟨zK (by first | rfl | simp [hB]),rfl⟩

def hasP (n port:Int):Bool:=decide (0≤port) && (bits .and .i64 n (2 ^ port.toNat) != 0)

theorem zjM {n port:Int} (hn:I64 n) (h:port≤7∨(port≤9∧0≤n∧n≤63)):hasP n port=bitOf n port:=by
 unfold hasP;by_cases h0:0≤port
 ·obtain ⟨k,rfl⟩:∃k:Nat,port=(k:Int):=⟨port.toNat,by omega⟩;rw [decide_eq_true h0,Bool.true_and,Int.toNat_natCast,zkG n k (by omega) hn];by_cases h7:k≤7
  ·rw [zia h7]
  ·rw [zd3 (by unfold in3; rw [decide_eq_false (show ¬(k:Int)≤7 by omega),Bool.and_false])];have hn2:0≤n∧n≤63:=by rcases h with h | h <;> omega
   rcases (show k=8∨k=9 by omega) with rfl | rfl
   ·rw [show n / 2 ^ 8=0 by simp; omega]
    decide
   ·rw [show n / 2 ^ 9=0 by simp; omega]
    decide
 ·rw [decide_eq_false h0,Bool.false_and,zd3 (by unfold in3; rw [decide_eq_false h0,Bool.false_and])]

theorem zeh (n port:Int) (hp:port≤9) (w:World) :
  Calls Tryz.prog 198 #[.int .i64 n,.int .i64 port] w fun e w'=>e=.returned (.bool (hasP n port))∧w'=w:=by
 by_cases h0:0≤port
 ·have hx:port=0∨port=1∨port=2∨port=3∨port=4∨port=5∨port=6∨port=7∨port=8∨port=9:=by omega
  rcases hx with rfl | rfl | rfl | rfl | rfl | rfl | rfl | rfl | rfl | rfl
  ·rw [show hasP n 0=(bits .and .i64 n 1 != 0) from rfl];generalize hB:(bits .and .i64 n 1 != 0)=B;go_enter Tryz.func198,Tryz.ntmps198;go_wp2;go_ret;exact ⟨zK (by first | rfl | simp [hB]),rfl⟩
  ·rw [show hasP n 1=(bits .and .i64 n 2 != 0) from rfl];generalize hB:(bits .and .i64 n 2 != 0)=B;go_enter Tryz.func198,Tryz.ntmps198;go_wp2;go_ret;exact ⟨zK (by first | rfl | simp [hB]),rfl⟩
  ·rw [show hasP n 2=(bits .and .i64 n 4 != 0) from rfl];generalize hB:(bits .and .i64 n 4 != 0)=B;go_enter Tryz.func198,Tryz.ntmps198;go_wp2;go_ret;exact ⟨zK (by first | rfl | simp [hB]),rfl⟩
  ·rw [show hasP n 3=(bits .and .i64 n 8 != 0) from rfl];generalize hB:(bits .and .i64 n 8 != 0)=B;go_enter Tryz.func198,Tryz.ntmps198;go_wp2;go_ret;exact ⟨zK (by first | rfl | simp [hB]),rfl⟩
  ·rw [show hasP n 4=(bits .and .i64 n 16 != 0) from rfl];generalize hB:(bits .and .i64 n 16 != 0)=B;go_enter Tryz.func198,Tryz.ntmps198;go_wp2;go_ret;exact ⟨zK (by first | rfl | simp [hB]),rfl⟩
  ·rw [show hasP n 5=(bits .and .i64 n 32 != 0) from rfl];generalize hB:(bits .and .i64 n 32 != 0)=B;go_enter Tryz.func198,Tryz.ntmps198;go_wp2;go_ret;exact ⟨zK (by first | rfl | simp [hB]),rfl⟩
  ·rw [show hasP n 6=(bits .and .i64 n 64 != 0) from rfl];generalize hB:(bits .and .i64 n 64 != 0)=B;go_enter Tryz.func198,Tryz.ntmps198;go_wp2;go_ret;exact ⟨zK (by first | rfl | simp [hB]),rfl⟩
  ·rw [show hasP n 7=(bits .and .i64 n 128 != 0) from rfl];generalize hB:(bits .and .i64 n 128 != 0)=B;go_enter Tryz.func198,Tryz.ntmps198;go_wp2;go_ret;exact ⟨zK (by first | rfl | simp [hB]),rfl⟩
  ·rw [show hasP n 8=(bits .and .i64 n 256 != 0) from rfl];generalize hB:(bits .and .i64 n 256 != 0)=B;go_enter Tryz.func198,Tryz.ntmps198;go_wp2;go_ret;exact ⟨zK (by first | rfl | simp [hB]),rfl⟩
  ·rw [show hasP n 9=(bits .and .i64 n 512 != 0) from rfl];generalize hB:(bits .and .i64 n 512 != 0)=B;go_enter Tryz.func198,Tryz.ntmps198;go_wp2;go_ret;exact ⟨zK (by first | rfl | simp [hB]),rfl⟩
 ·rw [show hasP n port=false by unfold hasP; rw [decide_eq_false h0]; rfl];go_enter Tryz.func198,Tryz.ntmps198;go_wp2;go_ret;exact ⟨rfl,rfl⟩

section
open Go.RowKit Go.ChangeMaps Go.MapKept
open Go.WideElems (Fit rd rd_mk rd_key other_key)
open Go.Maps (Keyed)

def rdAny (_:Value):Option (DataW Unit × List MemPlace):=some (.nil,[])

structure MK (P:Program) (α β:Type) where
 T:TypeId
 K:TypeId
 E:TypeId
 law:Keyed P K
 und:P.underlying T=some (.map K E)
 kv:α→Value
 vv:β→Value
 ok:α→Prop
 key:∀a,ok a→∃l,keyOf P K (kv a)=some l
 inj:∀a b,kv a=kv b→a=b
 z:β
 zero:∀w,(zeroValue E).run P w=.ok (vv z) w

def upd {α γ:Type} [DecidableEq α] (g:α→γ) (a:α) (v:γ):α→γ:=fun x=>if x=a then v else g x

theorem zap {α γ:Type} [DecidableEq α] (g:α→γ) (a:α) (v:γ):upd g a v a=v:=if_pos rfl
theorem zaf {α γ:Type} [DecidableEq α] (g:α→γ) {a b:α} (v:γ) (h:b≠a):upd g a v b=g b:=if_neg h

variable {P:Program} {α β:Type}

structure Ents (M:MK P α β) (es:Array MapEntry) (clock n:Nat) (g:α→Option β):Prop where
 fit:Fit P M.K rdAny es clock
 size:es.size≤n
 down:∀x∈es.toList,∃a v,M.ok a∧x.key=M.kv a∧x.val=M.vv v∧g a=some v
 up:∀a v,g a=some v→∃x∈es.toList,x.key=M.kv a∧x.val=M.vv v

def MapIs (M:MK P α β) (w:World) (b n:Nat) (g:α→Option β):Prop:=∃es clock,w.heap[b]?=some (.map es clock)∧Ents M es clock n g

theorem MapIs.made (M:MK P α β) (w:World):MapIs M (w.alloc (.map #[] 0)) w.heap.size 0 (fun _=>none) :=
 ⟨#[],0,zr w _,⟨⟨by simp,stamped_empty 0,by simp⟩,Nat.le_refl _,by simp,by simp⟩⟩

theorem MapIs.block {M:MK P α β} {w w':World} {b n:Nat} {g:α→Option β} (h:MapIs M w b n g) (hb:w'.heap[b]?=w.heap[b]?):MapIs M w' b n g:=by
 obtain ⟨es,clock,h1,h2⟩:=h;exact ⟨es,clock,hb.trans h1,h2⟩

theorem MapIs.lt {M:MK P α β} {w:World} {b n:Nat} {g:α→Option β} (h:MapIs M w b n g):b < w.heap.size:=by
 obtain ⟨es,clock,h1,-⟩:=h;exact (Array.getElem?_eq_some_iff.1 h1).1

theorem MapIs.below {M:MK P α β} {w w':World} {b n B:Nat} {g:α→Option β} (h:MapIs M w b n g) (hb:Below B w w') (hB:b < B):MapIs M w' b n g:=h.block (hb.block b hB)

theorem MapIs.kept {M:MK P α β} {w w':World} {b n:Nat} {g:α→Option β} (h:MapIs M w b n g) (hb:Below w.heap.size w w'):MapIs M w' b n g:=h.below hb h.lt

theorem MapIs.grown {M:MK P α β} {w w':World} {b n:Nat} {g:α→Option β} (h:MapIs M w b n g) {row:Option Nat} (hg:w.grownBy w' row) (hne:row≠some b):MapIs M w' b n g:=h.block (hg.block b h.lt (fun e=>hne e.symm))

theorem MapIs.mono {M:MK P α β} {w:World} {b n n':Nat} {g:α→Option β} (h:MapIs M w b n g) (hn:n≤n'):MapIs M w b n' g:=by
 obtain ⟨es,clock,h1,h2⟩:=h;exact ⟨es,clock,h1,h2.fit,Nat.le_trans h2.size hn,h2.down,h2.up⟩

theorem zfv {M:MK P α β} {es:Array MapEntry} {clock n:Nat} {g:α→Option β} (h:Ents M es clock n g) {x:MapEntry} (hx:x∈es.toList) {a:α} (hk:x.key=M.kv a):∃v,x.val=M.vv v∧g a=some v:=by
 obtain ⟨a',v,_,h1,h2,h3⟩:=h.down x hx
 have:a'=a:=M.inj _ _ (h1.symm.trans hk)
 subst this;exact ⟨v,h2,h3⟩

theorem MapIs.look {M:MK P α β} {w:World} {b n:Nat} {g:α→Option β} (h:MapIs M w b n g) (c:Bool) {a:α} (ha:M.ok a) :
  (Instr.lookup M.T (.map (some b)) (M.kv a) c).run P w=.ok (if c=true then .tuple #[M.vv ((g a).getD M.z),.bool (g a).isSome] else M.vv ((g a).getD M.z)) w:=by
 obtain ⟨es,clock,hb,he⟩:=h;obtain ⟨kl,hkey⟩:=M.key a ha;rcases M.law.find w hkey es.toList he.fit.keys with ⟨h1,h2⟩ | ⟨j,e0,h1,h2,h3⟩
 ·have hg:g a=none:=by
   cases hga:g a with
   | none=>rfl
   | some v =>
    obtain ⟨x,hx,hk,_⟩:=he.up a v hga;exact absurd hk (h2 x hx)
  rw [hg]
  simp [Instr.lookup,run_underlying M.und,MapKept.run_getObj_map hb,M.law.check w _ hkey,h1,M.zero,Result.andThen]
 ·obtain ⟨v,hv,hg⟩:=zfv he (List.mem_of_getElem? h2) h3;rw [hg]
  simp [Instr.lookup,run_underlying M.und,MapKept.run_getObj_map hb,M.law.check w _ hkey,h1,hv,Result.andThen]

theorem ze1 [DecidableEq α] {M:MK P α β} {w:World} {b n:Nat} {es:Array MapEntry} {clock:Nat} {g:α→Option β} (hb:w.heap[b]?=some (.map es clock)) (he:Ents M es clock n g) (hn:n < maxLen) {a:α} (ha:M.ok a) (v:β) :
  ∃es' clock',(Instr.mapUpdate M.T (.map (some b)) (M.kv a) (M.vv v)).run P w=.ok () (setBlock w b (.map es' clock'))∧Ents M es' clock' (n+1) (upd g a (some v)) ∧
   ((g a).isSome=true→clock'=clock∧es'.size=es.size∧(∀x'∈es'.toList,∃x∈es.toList,x.key=x'.key∧x.born=x'.born)∧es'.toList.map (·.born)=es.toList.map (·.born)):=by
 obtain ⟨kl,hkey⟩:=M.key a ha;rcases M.law.find w hkey es.toList he.fit.keys with ⟨h1,h2⟩ | ⟨j,e0,h1,h2,h3⟩
 ·have hg:g a=none:=by
   cases hga:g a with
   | none=>rfl
   | some u =>
    obtain ⟨x,hx,hk,_⟩:=he.up a u hga;exact absurd hk (h2 x hx)
  have hsz:=he.size;refine ⟨es.push ⟨M.kv a,M.vv v,clock⟩,clock+1, ?_,⟨⟨by simp; omega,stamped_push he.fit.stamped h2, ?_⟩,by simp; omega, ?_, ?_⟩, ?_⟩
  ·simp [Instr.mapUpdate,run_underlying M.und,MapKept.run_getObj_map hb,M.law.check w false hkey,h1,MapKept.run_setObj_map _ hb,Result.andThen,setBlock]
  ·intro x hx;simp only [Array.toList_push,List.mem_append,List.mem_singleton] at hx;rcases hx with hx | rfl
   ·exact he.fit.reads x hx
   ·exact ⟨_,rd_mk (R:=rdAny) hkey rfl⟩
  ·intro x hx;simp only [Array.toList_push,List.mem_append,List.mem_singleton] at hx;rcases hx with hx | rfl
   ·obtain ⟨a',v',h4,h5,h6,h7⟩:=he.down x hx;refine ⟨a',v',h4,h5,h6, ?_⟩;rw [zaf g _ (fun e=>h2 x hx (by rw [h5,e]))];exact h7
   ·exact ⟨a,v,ha,rfl,rfl,zap g a _⟩
  ·intro a' v' h4;by_cases e:a'=a
   ·subst e;rw [zap] at h4;cases h4;exact ⟨⟨M.kv a',M.vv v,clock⟩,by simp,rfl,rfl⟩
   ·rw [zaf g _ e] at h4;obtain ⟨x,hx,h5,h6⟩:=he.up a' v' h4;exact ⟨x,by simp only [Array.toList_push,List.mem_append]; exact .inl hx,h5,h6⟩
  ·rw [hg]; intro h; cases h
 ·have hj:es[j]?=some e0:=by simpa using h2
  have hjl:j < es.toList.length:=(List.getElem?_eq_some_iff.1 h2).1;have hm0:=List.mem_of_getElem? h2;have hlist:(es.modify j (fun e'=>{ e' with key:=M.kv a,val:=M.vv v })).toList=es.toList.set j { e0 with key:=M.kv a,val:=M.vv v }:=by rw [Array.toList_modify,modify_eq_set _ _ _ _ h2]
  have who:∀x∈es.toList.set j { e0 with key:=M.kv a,val:=M.vv v },x={ e0 with key:=M.kv a,val:=M.vv v }∨(x∈es.toList∧x.key≠M.kv a):=by
   intro x hx;obtain ⟨i,hi,ex⟩:=List.getElem_of_mem hx;rw [List.getElem_set] at ex
   split at ex
   ·exact Or.inl ex.symm
   ·rename_i hne
    have hi':i < es.toList.length:=by simpa using hi
    refine Or.inr ⟨ex▸List.getElem_mem hi', ?_⟩;rw [← h3];exact other_key he.fit h2 (by rw [List.getElem?_eq_getElem hi',ex]) (fun e1=>hne e1.symm)
  have hkeyf:∀e',es[j]?=some e'→({ e' with key:=M.kv a,val:=M.vv v }:MapEntry).key=e'.key:=fun e' he'=>by rw [hj] at he'; cases he'; exact h3.symm
  have hsz:=he.size;refine ⟨es.modify j (fun e'=>{ e' with key:=M.kv a,val:=M.vv v }),clock, ?_,⟨⟨by simpa using he.fit.size,stamped_modify he.fit.stamped _ _ (fun _ _=>rfl) (fun e' _ he'=>hkeyf e' he'), ?_⟩,by simp; omega, ?_, ?_⟩, ?_⟩
  ·simp [Instr.mapUpdate,run_underlying M.und,MapKept.run_getObj_map hb,M.law.check w false hkey,h1,hj,h3,M.law.stays w hkey,MapKept.run_setObj_map _ hb,Result.andThen,setBlock]
  ·intro x hx;rw [hlist] at hx;rcases who x hx with rfl | ⟨hx',_⟩
   ·exact ⟨_,rd_mk (R:=rdAny) hkey rfl⟩
   ·exact he.fit.reads x hx'
  ·intro x hx;rw [hlist] at hx;rcases who x hx with rfl | ⟨hx',hne⟩
   ·exact ⟨a,v,ha,rfl,rfl,zap g a _⟩
   ·obtain ⟨a',v',h4,h5,h6,h7⟩:=he.down x hx';refine ⟨a',v',h4,h5,h6, ?_⟩;rw [zaf g _ (fun e=>hne (by rw [h5,e]))];exact h7
  ·intro a' v' h4;rw [hlist];by_cases e:a'=a
   ·subst e;rw [zap] at h4;cases h4;exact ⟨{ e0 with key:=M.kv a',val:=M.vv v },List.mem_iff_getElem.2 ⟨j,by simpa using hjl,by simp⟩,rfl,rfl⟩
   ·rw [zaf g _ e] at h4;obtain ⟨x,hx,h5,h6⟩:=he.up a' v' h4;obtain ⟨i,hi,ex⟩:=List.getElem_of_mem hx;have hij:j≠i:=by
     intro e1;subst e1;rw [List.getElem?_eq_getElem hi] at h2;cases h2;rw [ex] at h3;exact e (M.inj _ _ (h5.symm.trans h3))
    exact ⟨x,List.mem_iff_getElem.2 ⟨i,by simpa using hi,by rw [List.getElem_set_ne hij]; exact ex⟩,h5,h6⟩
  ·intro _;refine ⟨rfl,by simp, ?_, ?_⟩
   ·intro x' hx';rw [hlist] at hx';rcases who x' hx' with rfl | ⟨hx,_⟩
    ·exact ⟨e0,hm0,h3,rfl⟩
    ·exact ⟨x',hx,rfl,rfl⟩
   ·rw [hlist,List.map_set]
    have:(es.toList.map (·.born))[j]'(by simpa using hjl)=e0.born:=by
     obtain ⟨hl,e1⟩:=List.getElem?_eq_some_iff.1 h2
     simp [← e1]
    rw [← this];exact List.set_getElem_self _

theorem MapIs.store [DecidableEq α] {M:MK P α β} {w:World} {b n:Nat} {g:α→Option β} (h:MapIs M w b n g) (hn:n < maxLen) {a:α} (ha:M.ok a) (v:β) :
  ∃w',(Instr.mapUpdate M.T (.map (some b)) (M.kv a) (M.vv v)).run P w=.ok () w'∧MapIs M w' b (n+1) (upd g a (some v))∧w.grownBy w' (some b)∧w'.heap.size=w.heap.size:=by
 obtain ⟨es,clock,hb,he⟩:=h;obtain ⟨es',clock',hrun,he',-⟩:=ze1 hb he hn ha v;exact ⟨_,hrun,⟨es',clock',heap_setBlock_same hb _,he'⟩,⟨rfl,rfl,rfl,by simp [setBlock],fun i _ hi=>heap_setBlock_other hb _ (fun e=>hi (by rw [e]))⟩,by simp [setBlock]⟩

theorem zjz [DecidableEq α] {M:MK P α β} {w:World} {b n:Nat} {es:Array MapEntry} {clock:Nat} {g:α→Option β} (hb:w.heap[b]?=some (.map es clock)) (he:Ents M es clock n g) {a:α} (ha:M.ok a) (ty:TypeId) :
  ∃es',(Builtin.delete_ #[M.T,M.K] ty #[.map (some b),M.kv a]).run P w=.ok (.tuple #[]) (setBlock w b (.map es' clock))∧Ents M es' clock n (upd g a none)∧es'.toList.Sublist es.toList∧∀x,x∈es'.toList↔(x∈es.toList∧x.key≠M.kv a):=by
 obtain ⟨kl,hkey⟩:=M.key a ha;obtain ⟨es',hrun,hfit,hsz,-,hsub,hwho⟩:=fit_drop_who (ty:=ty) M.law M.und hb he.fit hkey;refine ⟨es',hrun,⟨hfit,Nat.le_trans hsz he.size, ?_, ?_⟩,hsub,hwho⟩
 ·intro x hx;obtain ⟨hx1,hx2⟩:=(hwho x).1 hx;obtain ⟨a',v',h4,h5,h6,h7⟩:=he.down x hx1;refine ⟨a',v',h4,h5,h6, ?_⟩;rw [zaf g _ (fun e=>hx2 (by rw [h5,e]))];exact h7
 ·intro a' v' h4;by_cases e:a'=a
  ·subst e;rw [zap] at h4;cases h4
  ·rw [zaf g _ e] at h4;obtain ⟨x,hx,h5,h6⟩:=he.up a' v' h4;exact ⟨x,(hwho x).2 ⟨hx,fun e1=>e (M.inj _ _ (h5.symm.trans e1))⟩,h5,h6⟩

def Ranging (M:MK P α β) (w:World) (b r n:Nat) (g:α→Option β) (left:α→Bool) (cnt:Nat):Prop :=
 ∃es clock since seen c0,w.heap[b]?=some (.map es clock)∧Ents M es clock n g∧w.heap[r]?=some (.mapIter (some b) since seen c0)∧(∀x∈es.toList,x.born < since)∧(leftOf es seen).size=cnt ∧
  (∀x∈es.toList,∀a,x.key=M.kv a→left a = !seen.contains x.born)∧(∀a,left a=true→(g a).isSome=true)∧since≤c0∧since≤clock

theorem Ranging.is {M:MK P α β} {w:World} {b r n:Nat} {g:α→Option β} {left:α→Bool} {cnt:Nat} (h:Ranging M w b r n g left cnt):MapIs M w b n g:=by
 obtain ⟨es,clock,since,seen,c0,hb,he,-⟩:=h;exact ⟨es,clock,hb,he⟩

theorem Ranging.ne {M:MK P α β} {w:World} {b r n:Nat} {g:α→Option β} {left:α→Bool} {cnt:Nat} (h:Ranging M w b r n g left cnt):r≠b:=by
 obtain ⟨es,clock,since,seen,c0,hb,he,hr,-⟩:=h;intro e;rw [e,hb] at hr;cases hr

theorem Ranging.lt {M:MK P α β} {w:World} {b r n:Nat} {g:α→Option β} {left:α→Bool} {cnt:Nat} (h:Ranging M w b r n g left cnt):r < w.heap.size:=by
 obtain ⟨es,clock,since,seen,c0,hb,he,hr,-⟩:=h;exact (Array.getElem?_eq_some_iff.1 hr).1

theorem Ranging.kept {M:MK P α β} {w w':World} {b r n:Nat} {g:α→Option β} {left:α→Bool} {cnt:Nat} (h:Ranging M w b r n g left cnt) (hb1:w'.heap[b]?=w.heap[b]?) (hr1:w'.heap[r]?=w.heap[r]?):Ranging M w' b r n g left cnt:=by
 obtain ⟨es,clock,since,seen,c0,hb,he,hr,rest⟩:=h;exact ⟨es,clock,since,seen,c0,hb1.trans hb,he,hr1.trans hr,rest⟩

theorem Ranging.below {M:MK P α β} {w w':World} {b r n:Nat} {g:α→Option β} {left:α→Bool} {cnt:Nat} (h:Ranging M w b r n g left cnt) (hb:Below w.heap.size w w'):Ranging M w' b r n g left cnt :=
 h.kept (hb.block b h.is.lt) (hb.block r h.lt)

theorem Ranging.left_eq {M:MK P α β} {w:World} {b r n:Nat} {g:α→Option β} {left:α→Bool} {cnt:Nat} (h:Ranging M w b r n g left cnt):w.rangeLeft b r=cnt:=by
 obtain ⟨es,clock,since,seen,c0,hb,he,hr,h1,h2,-⟩:=h;simp only [World.rangeLeft,hb,hr];exact h2

theorem MapIs.range {M:MK P α β} {w:World} {b n:Nat} {g:α→Option β} (h:MapIs M w b n g) :
  ∃w' cnt,(Instr.range M.T (.map (some b))).run P w=.ok (.pointer (some ⟨w.heap.size,0,none⟩)) w'∧Ranging M w' b w.heap.size n g (fun a=>(g a).isSome) cnt∧Below w.heap.size w w'∧w'.heap.size=w.heap.size+1:=by
 have hlt:=h.lt;obtain ⟨es,clock,hb,he⟩:=h;refine ⟨_,_,run_range_map w M.T M.K M.E b es clock M.und hb,⟨es,clock,clock,#[],clock,((MapKept.heap_alloc w _).2 b hlt).trans hb,he,(MapKept.heap_alloc w _).1,he.fit.stamped.1,rfl, ?_, ?_,Nat.le_refl _,Nat.le_refl _⟩,zl w _,by simp⟩
 ·intro x hx a hk;obtain ⟨v,_,hg⟩:=zfv he hx hk
  simp [hg]
 ·intro a ha;exact ha

theorem Ranging.next [DecidableEq α] {M:MK P α β} {w:World} {b r n:Nat} {g:α→Option β} {left:α→Bool} {cnt:Nat} (h:Ranging M w b r n g left cnt) (ty:TypeId) :
  (cnt=0∧(∀a,left a=false)∧(Instr.next (.pointer (some ⟨r,0,none⟩)) false ty).run P w=.ok (.tuple #[.bool false]) w) ∨
  ∃a v w' cnt',M.ok a∧left a=true∧g a=some v∧(Instr.next (.pointer (some ⟨r,0,none⟩)) false ty).run P w=.ok (.tuple #[.bool true,M.kv a,M.vv v]) w' ∧
   Ranging M w' b r n g (upd left a false) cnt'∧cnt' < cnt∧w.grownBy w' (some r)∧w'.heap.size=w.heap.size∧(Instr.entry (.pointer (some ⟨r,0,none⟩))).run P w'=.ok (.tuple #[M.kv a,M.vv v]) w':=by
 have hne:=h.ne;obtain ⟨es,clock,since,seen,c0,hb,he,hr,hold,rfl,hl1,hl2,hsc,hsk⟩:=h;have hst:=(stamped_iff es clock).1 he.fit.stamped;rcases run_next_at (P:=P) w ty r b since c0 seen es clock hr hb hold hsc with ⟨h0,hrun⟩ | ⟨e,hem',w1,hal,hrun⟩
 ·refine Or.inl ⟨h0,fun a => ?_,hrun⟩;cases hk:left a
  ·rfl
  ·obtain ⟨v,hv⟩:=Option.isSome_iff_exists.1 (hl2 a hk);obtain ⟨x,hx,hxk,_⟩:=he.up a v hv;rw [hl1 x hx a hxk,all_seen es seen h0 x hx] at hk;cases hk
 ·obtain ⟨hem,hes⟩:=mem_left hem';obtain ⟨a,v,hok,hka,hva,hga⟩:=he.down e hem;have hr1:w1.heap[r]?=some (.mapIter (some b) since seen c0):=by rcases hal with rfl | rfl <;> exact hr
  have hb1:w1.heap[b]?=some (.map es clock):=by rcases hal with rfl | rfl <;> exact hb
  have hset:=heap_set (o':=.mapIter (some b) since (seen.push e.born) clock) hr1;have hb':(setBlock w1 r (.mapIter (some b) since (seen.push e.born) clock)).heap[b]?=some (.map es clock):=(hset.2 b (fun e1=>hne e1.symm)).trans hb1;rw [hka,hva] at hrun;refine Or.inr ⟨a,v,_,_,hok,by rw [hl1 e hem a hka,hes]; rfl,hga,hrun,
   ⟨es,clock,since,seen.push e.born,clock,hb',he,hset.1,hold,rfl,fun x hx a' hxa => ?_,fun a' ha' => ?_,hsk,hsk⟩,left_shrinks es seen e hem', ?_, ?_, ?_⟩
  ·rw [contains_push];by_cases e1:a'=a
   ·subst e1;rw [zap]
    have:x=e:=entry_eq_of_key hst.2.2 hx hem (hxa.trans hka.symm)
    subst this
    simp
   ·rw [zaf left _ e1,hl1 x hx a' hxa]
    have:(x.born == e.born)=false:=by
     rw [beq_eq_false_iff_ne];intro e2
     have:=born_inj hst.2.1 hx hem e2
     subst this;exact e1 (M.inj _ _ (hxa.symm.trans hka))
    rw [this,Bool.or_false]
  ·refine hl2 a' ?_;by_cases e1:a'=a
   ·subst e1;rw [zap] at ha';cases ha'
   ·rw [zaf left _ e1] at ha';exact ha'
  ·rcases hal with rfl | rfl <;> exact ⟨rfl,rfl,rfl,by simp [setBlock],fun i _ hi=>hset.2 i (fun e1=>hi (by rw [e1]))⟩
  ·rcases hal with rfl | rfl <;> simp [setBlock]
  ·have:=run_entry_at (P:=P) _ r b since seen es clock e hset.1 hb' hem hst.2.1
   rw [hka,hva] at this;exact this

theorem zcj (es:Array MapEntry) (seen:Array Nat):(leftOf es seen).size=((es.toList.map (·.born)).filter fun k => !seen.contains k).length:=by
 unfold leftOf;rw [← Array.length_toList,Array.toList_filter,List.filter_map,List.length_map]
 rfl

theorem Ranging.store [DecidableEq α] {M:MK P α β} {w:World} {b r n:Nat} {g:α→Option β} {left:α→Bool} {cnt:Nat} (h:Ranging M w b r n g left cnt) (hn:n < maxLen) {a:α} (ha:M.ok a) (hs:(g a).isSome=true) (v:β) :
  ∃w',(Instr.mapUpdate M.T (.map (some b)) (M.kv a) (M.vv v)).run P w=.ok () w'∧Ranging M w' b r n (upd g a (some v)) left cnt∧w.grownBy w' (some b)∧w'.heap.size=w.heap.size:=by
 have hne:=h.ne;obtain ⟨es,clock,since,seen,c0,hb,he,hr,hold,rfl,hl1,hl2,hsc,hsk⟩:=h;obtain ⟨es',clock',hrun,he',hz⟩:=ze1 hb he hn ha v;obtain ⟨rfl,hsz,hwho,hborn⟩:=hz hs;refine ⟨_,hrun,⟨es',clock',since,seen,c0,heap_setBlock_same hb _,⟨he'.fit,by rw [hsz]; exact he.size,he'.down,he'.up⟩,(heap_setBlock_other hb _ hne).trans hr, ?_, ?_, ?_, ?_,hsc,hsk⟩,⟨rfl,rfl,rfl,by simp [setBlock],fun i _ hi=>heap_setBlock_other hb _ (fun e=>hi (by rw [e]))⟩,by simp [setBlock]⟩
 ·intro x' hx';obtain ⟨x,hx,_,hxb⟩:=hwho x' hx';rw [← hxb];exact hold x hx
 ·rw [zcj,zcj,hborn]
 ·intro x' hx' a' hk;obtain ⟨x,hx,hxk,hxb⟩:=hwho x' hx';rw [← hxb];exact hl1 x hx a' (hxk.trans hk)
 ·intro a' ha';by_cases e:a'=a
  ·subst e; rw [zap]; rfl
  ·rw [zaf g _ e]; exact hl2 a' ha'

theorem Ranging.drop [DecidableEq α] {M:MK P α β} {w:World} {b r n:Nat} {g:α→Option β} {left:α→Bool} {cnt:Nat} (h:Ranging M w b r n g left cnt) {a:α} (ha:M.ok a) (hs:left a=false) (ty:TypeId) :
  ∃w' cnt',(Builtin.delete_ #[M.T,M.K] ty #[.map (some b),M.kv a]).run P w=.ok (.tuple #[]) w'∧Ranging M w' b r n (upd g a none) left cnt'∧cnt'≤cnt∧w.grownBy w' (some b)∧w'.heap.size=w.heap.size:=by
 have hne:=h.ne;obtain ⟨es,clock,since,seen,c0,hb,he,hr,hold,rfl,hl1,hl2,hsc,hsk⟩:=h;obtain ⟨es',hrun,he',hsub,hwho⟩:=zjz hb he ha ty;refine ⟨_,_,hrun,⟨es',clock,since,seen,c0,heap_setBlock_same hb _,he',(heap_setBlock_other hb _ hne).trans hr, ?_,rfl, ?_, ?_,hsc,hsk⟩, ?_,⟨rfl,rfl,rfl,by simp [setBlock],fun i _ hi=>heap_setBlock_other hb _ (fun e=>hi (by rw [e]))⟩,by simp [setBlock]⟩
 ·intro x hx;exact hold x ((hwho x).1 hx).1
 ·intro x hx a' hk;exact hl1 x ((hwho x).1 hx).1 a' hk
 ·intro a' ha';by_cases e:a'=a
  ·subst e; rw [hs] at ha'; cases ha'
  ·rw [zaf g _ e]; exact hl2 a' ha'
 ·rw [zcj,zcj];exact ((hsub.map _).filter _).length_le

end

end Go.Proofs.YtpaneiaflfegoaaGreat
