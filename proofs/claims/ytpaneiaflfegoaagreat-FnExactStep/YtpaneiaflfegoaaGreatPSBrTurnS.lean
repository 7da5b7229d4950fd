/-
  A bridge behind a turn, as the specification has it.
-/
import Derived.Test.YtpaneiaflfegoaaGreatPSK01
import Derived.Test.YtpaneiaflfegoaaGreatPSK04
import Derived.Test.YtpaneiaflfegoaaGreatPSK07
import Derived.Test.YtpaneiaflfegoaaGreatPSK11
import Derived.Test.YtpaneiaflfegoaaGreatPSK15
import Derived.Test.YtpaneiaflfegoaaGreatPSK16
namespace Go.Proofs.YtpaneiaflfegoaaGreat
set_option maxRecDepth 100000
set_option maxHeartbeats 16000000
open Go.RowKit

theorem zeo (n:Int) (w:World) (h:n≤9223372036854775806) (h0 : -9223372036854775808≤n) :
  Calls Tryz.prog 52 #[.int .i64 n] w fun e w'=>e=.returned (.int .i64 (zab n))∧w'=w:=by
 by_cases h1:n≥1000000
 ·rw [show zab n=n from if_pos h1];have h1':(1000000:Int)≤n:=h1;go_enter Tryz.func52,Tryz.ntmps52;go_wp2;go_ret;exact ⟨rfl,rfl⟩
 ·rw [show zab n=n+1 from if_neg h1];have h1':¬(1000000:Int)≤n:=h1;go_enter Tryz.func52,Tryz.ntmps52;go_wp2;go_ret;exact ⟨rfl,rfl⟩

theorem zgW (bits:Int) (l:List FE) (k:Nat):(zaz bits l k).length≤l.length:=(zcR bits l k).length_le

theorem zbW (base:Nat) (a:Option Addr) (n c:Nat) (fa:Option Addr) (fn fc:Nat) (ra:Option Addr) (rn rc:Nat) (oa:Option Addr) (on oc:Nat) (B:BR) (w:World) (h:BrOwn w base a n c fa fn fc ra rn rc oa on oc B) (hbase:base≤w.heap.size) (hn:n≤1048576) (hfn:fn≤16777216) (hv : -9223372036854775808≤B.vers∧B.vers≤9223372036854775806) :
  Calls Tryz.prog 54 #[.agg #[.int .i64 B.id,.string B.name,.slice a n c,.slice fa fn fc,.slice ra rn rc,.slice oa on oc,.int .i64 B.ticks,.int .i64 B.parse,.int .i64 B.word,.int .i64 B.drops,.int .i64 B.vers]] w fun e w'=>∃(fa2:Option Addr) (fn2 fc2:Nat),e=.returned (.agg #[.int .i64 B.id,.string B.name,.slice a n c,.slice fa2 fn2 fc2,.slice ra rn rc,.slice oa on oc,.int .i64 B.ticks,.int .i64 B.parse,.int .i64 B.word,.int .i64 B.drops,.int .i64 (zab B.vers)])∧BrOwn w' base a n c fa2 fn2 fc2 ra rn rc oa on oc (turned B)∧Below w.heap.size w w':=by
 have hpl:B.ports.length=n:=(zH (F:=ptF) h.ports).size;have hfl:B.f.length=fn:=(zH (F:=fentF) h.f).size;generalize hw1:w.alloc (Obj.cells #[.int .i64 B.id,.string B.name,.slice a n c,.slice fa fn fc,.slice ra rn rc,.slice oa on oc,.int .i64 B.ticks,.int .i64 B.parse,.int .i64 B.word,.int .i64 B.drops,.int .i64 B.vers] 64)=w1;generalize hw2:w1.alloc (Obj.cells #[.int .i64 0,.string ⟨#[]⟩,.slice none 0 0,.slice none 0 0,.slice none 0 0,.slice none 0 0,.int .i64 0,.int .i64 0,.int .i64 0,.int .i64 0,.int .i64 0] 64)=w2;have b01:=zb hw1;have b12:=zb hw2;have z1:w.heap.size < w1.heap.size:=by rw [← hw1]; simp
 have st2:BcSt w w2 w1.heap.size w.heap.size #[.int .i64 B.id,.string B.name,.slice a n c,.slice fa fn fc,.slice ra rn rc,.slice oa on oc,.int .i64 B.ticks,.int .i64 B.parse,.int .i64 B.word,.int .i64 B.drops,.int .i64 B.vers]:=⟨za (zk hw1) b12,by rw [← hw2]; exact zr _ _,zc b01 b12,Nat.le_refl _,Nat.le_of_lt z1,Nat.ne_of_gt z1⟩;have own2:=h.below (zc b01 b12);obtain ⟨x0,x1,x2,x3,x4,x5,x6,x7,x8,x9,x10⟩:=zp st2.box;have f10:=ze st2.box 10;obtain ⟨V,hV⟩:∃V,V=zab B.vers:=⟨_,rfl⟩;have HV:=hide hV;have HVR:=hide hv;clear hv;go_enter Tryz.func54,Tryz.ntmps54;go_wp2_with fail
 refine (zeo B.vers _ HVR.out.2 HVR.out.1).mono ?_;rintro e w3 ⟨rfl,e3⟩;obtain rfl:=e3.symm;rw [← hV];clear hV hw1 hw2;generalize hR:w1.heap.size=R at *;generalize hw4:w2.setCell ⟨w.heap.size,10,none⟩ (.int .i64 V)=w4;have st4:=st2.put 10 (.int .i64 V) (cs':=#[.int .i64 B.id,.string B.name,.slice a n c,.slice fa fn fc,.slice ra rn rc,.slice oa on oc,.int .i64 B.ticks,.int .i64 B.parse,.int .i64 B.word,.int .i64 B.drops,.int .i64 V]) rfl;have own4:=own2.boxed st2.box 10 (.int .i64 V);rw [hw4] at st4 own4;go_upto_region 2 with fail
 clear x0 x1 x2 x3 x4 x5 x6 x7 x8 x9 x10 f10 st2 own2 hw4;obtain ⟨x0,x1,x2,x3,x4,x5,x6,x7,x8,x9,x10⟩:=zp st4.box;go_wp2_with fail
 refine (zfI B.id a n c B.ports _ (zH (F:=ptF) own4.ports)).mono ?_;rintro e w5 ⟨rfl,hb5⟩;have st5:=st4.later hb5;have own5:=own4.below hb5;generalize hbits:zbk B.id B.ports=bits;have HBI:=hide hbits;clear x0 x1 x2 x3 x4 x5 x6 x7 x8 x9 x10 st4 own4 hb5 hbits;have HFL:=hide hfl;clear hfl;go_wp2_with fail
 go_loopw [4] (fun i wr=>∃(k:Nat) (fa2:Option Addr) (fn2 fc2:Nat),k≤n∧i=.int .i64 k∧fn2≤fn∧BcSt w wr R w.heap.size #[.int .i64 B.id,.string B.name,.slice a n c,.slice fa2 fn2 fc2,.slice ra rn rc,.slice oa on oc,.int .i64 B.ticks,.int .i64 B.parse,.int .i64 B.word,.int .i64 B.drops,.int .i64 V]∧BrOwn wr base a n c fa2 fn2 fc2 ra rn rc oa on oc { B with f:=zaz bits B.f k }) (fun i _=>n - (intOf i).toNat)
 case atStart=>exact ⟨0,fa,fn,fc,Nat.zero_le _,rfl,Nat.le_refl _,st5,own5⟩
 case round =>
  obtain ⟨k,fa2,fn2,fc2,hk,rfl,hf2,st,own⟩:=hrel;clear st5 own5;obtain ⟨x0,x1,x2,x3,x4,x5,x6,x7,x8,x9,x10⟩:=zp st.box;by_cases hlt:k < n
  ·have i1:(0:Int)≤(k:Int):=by omega
   have i2:(k:Int) < (n:Int):=by omega
   (go_wp2_with fail);refine (zhu bits (k:Int) _).mono ?_;rintro e w6 ⟨rfl,e6⟩;obtain rfl:=e6.symm;cases hb:bitOf bits (k:Int)
   ·have HF:Hid (zaz bits B.f (k+1)=zY (zaz bits B.f k) (k:Int)):=hide (by rw [zaz,if_neg (by rw [hb]; decide)]);clear hb;(go_wp2_with fail);refine (zfG fa2 fn2 fc2 (zaz bits B.f k) (k:Int) _ (zH (F:=fentF) own.f) (by omega)).mono ?_;rintro e w7 ⟨fa7,fc7,rfl,o7,-,hb7⟩;have hlen:(zY (zaz bits B.f k) (k:Int)).length≤fn:=by
     have h1:(zY (zaz bits B.f k) (k:Int)).length≤(zaz bits B.f k).length:=List.length_filter_le _ _;have h2:=zgW bits B.f k;have h3:=HFL.out;omega
    have st7:=st.later hb7;have o7:=zD o7 (base':=base) (Nat.le_trans hbase st.below.size);have own7:=(own.below hb7).putF (Below.refl _ _) o7;clear x0 x1 x2 x3 x4 x5 x6 x7 x8 x9 x10 hb7 o7 st own;obtain ⟨x0,x1,x2,x3,x4,x5,x6,x7,x8,x9,x10⟩:=zp st7.box;have f3:=ze st7.box 3;rw [← HF.out] at own7 hlen ⊢;generalize hL:(zaz bits B.f (k+1)).length=L at *;have HST:=hide (st7.put 3 (.slice fa7 L fc7) (cs':=#[.int .i64 B.id,.string B.name,.slice a n c,.slice fa7 L fc7,.slice ra rn rc,.slice oa on oc,.int .i64 B.ticks,.int .i64 B.parse,.int .i64 B.word,.int .i64 B.drops,.int .i64 V]) rfl);have HOW:=hide (own7.boxed st7.box 3 (.slice fa7 L fc7));clear st7 own7;go_wp2
    go_roundw
    case rel=>exact ⟨k+1,fa7,L,fc7,by omega,by go_num,hlen,HST.out,HOW.out⟩
    case measure=>simp [intOf]; omega
   ·have HF:Hid (zaz bits B.f (k+1)=zaz bits B.f k):=hide (by rw [zaz,if_pos hb]);have HOW:Hid (BrOwn wr base a n c fa2 fn2 fc2 ra rn rc oa on oc { B with f:=zaz bits B.f (k+1) }):=hide (by rw [HF.out]; exact own);have HST:=hide st;clear hb st own x0 x1 x2 x3 x4 x5 x6 x7 x8 x9 x10;go_wp2
    go_roundw
    case rel=>exact ⟨k+1,fa2,fn2,fc2,by omega,by go_num,hf2,HST.out,HOW.out⟩
    case measure=>simp [intOf]; omega
  ·obtain rfl:n=k:=by omega
   obtain ⟨y0,y1,y2,y3,y4,y5,y6,y7,y8,y9,y10⟩:=zp st.res;have fr:=ze st.res;have f0:=fr 0;have f1:=fr 1;have f2:=fr 2;have f3:=fr 3;have f4:=fr 4;have f5:=fr 5;have f6:=fr 6;have f7:=fr 7;have f8:=fr 8;have f9:=fr 9;have f10:=fr 10;have ne1:¬R=w.heap.size:=st.ne;have ne2:¬w.heap.size=R:=fun e=>st.ne e.symm
   have HT:Hid (turned B={ B with vers:=V,f:=zaz bits B.f n }):=hide (by unfold turned; rw [HBI.out,hpl,HV.out]);obtain ⟨HO0,HB0⟩:=st.out own (.int .i64 B.id) (.string B.name) (.slice a n c) (.slice fa2 fn2 fc2) (.slice ra rn rc) (.slice oa on oc) (.int .i64 B.ticks) (.int .i64 B.parse) (.int .i64 B.word) (.int .i64 B.drops) (.int .i64 V);have HO:=hide HO0;have HB:=hide HB0;clear st own fr HO0 HB0;go_wp2;exact bodyPost_ret (v:=.agg #[.int .i64 B.id,.string B.name,.slice a n c,.slice fa2 fn2 fc2,.slice ra rn rc,.slice oa on oc,.int .i64 B.ticks,.int .i64 B.parse,.int .i64 B.word,.int .i64 B.drops,.int .i64 V]) (by simp [results,Tryz.results54,go_sem, *]) rfl ⟨fa2,fn2,fc2,(by rw [HV.out]),(by rw [HT.out]; exact ⟨HO.out.ports,HO.out.f,HO.out.v⟩),HB.out⟩

end Go.Proofs.YtpaneiaflfegoaaGreat
