/-
  Packed: BrCopyS Say14 BrTurnS Agr LivS LivA NetMark.
-/
import Derived.Test.YtkaefmfopejbaaaGreatPAK18
namespace Go.Proofs.YtkaefmfopejbaaaGreat
set_option maxRecDepth 100000
set_option maxHeartbeats 16000000
open Go.RowKit

theorem zbb (a:Option Addr) (n c:Nat) (fa:Option Addr) (fn fc:Nat) (ra:Option Addr) (rn rc:Nat) (oa:Option Addr) (on oc:Nat) (B:BR) (w:World) (h:BrRow w a n c fa fn fc ra rn rc oa on oc B) (hn:n≤16777216) (hfn:fn≤16777216) (hrn:rn≤16777216) (hon:on≤16777216) :
  Calls Tryz.prog 101 #[.agg #[.int .i64 B.id,.string B.name,.slice a n c,.slice fa fn fc,.slice ra rn rc,.slice oa on oc,.int .i64 B.ticks,.int .i64 B.parse,.int .i64 B.word,.int .i64 B.drops,.int .i64 B.vers]] w fun e w'=>∃(a2:Option Addr) (c2:Nat) (fa2:Option Addr) (fc2:Nat) (ra2:Option Addr) (rc2:Nat) (oa2:Option Addr) (oc2:Nat),e=.returned (.agg #[.int .i64 B.id,.string B.name,.slice a2 n c2,.slice fa2 fn fc2,.slice ra2 rn rc2,.slice oa2 on oc2,.int .i64 B.ticks,.int .i64 B.parse,.int .i64 B.word,.int .i64 B.drops,.int .i64 B.vers])∧BrOwn w' w.heap.size a2 n c2 fa2 fn fc2 ra2 rn rc2 oa2 on oc2 B∧Below w.heap.size w w':=by
 generalize hw1:w.alloc (Obj.cells #[.int .i64 B.id,.string B.name,.slice a n c,.slice fa fn fc,.slice ra rn rc,.slice oa on oc,.int .i64 B.ticks,.int .i64 B.parse,.int .i64 B.word,.int .i64 B.drops,.int .i64 B.vers] 44)=w1;generalize hw2:w1.alloc (Obj.cells #[.int .i64 0,.string ⟨#[]⟩,.slice none 0 0,.slice none 0 0,.slice none 0 0,.slice none 0 0,.int .i64 0,.int .i64 0,.int .i64 0,.int .i64 0,.int .i64 0] 44)=w2;generalize hw3:w2.alloc (Obj.cells #[.int .i64 B.id,.string B.name,.slice a n c,.slice fa fn fc,.slice ra rn rc,.slice oa on oc,.int .i64 B.ticks,.int .i64 B.parse,.int .i64 B.word,.int .i64 B.drops,.int .i64 B.vers] 44)=w3;generalize hw4:w3.alloc (Obj.cells #[] 53)=w4;have b01:=zb hw1;have b12:=zb hw2;have b23:=zb hw3;have b34:=zb hw4;have z1:w.heap.size < w1.heap.size:=by rw [← hw1]; simp
 have z2:w1.heap.size < w2.heap.size:=by rw [← hw2]; simp
 have k1:=zk hw1;have kA2:=za k1 b12;have kA4:=za (za kA2 b23) b34;have st4:BcSt w w4 w1.heap.size w2.heap.size #[.int .i64 B.id,.string B.name,.slice a n c,.slice fa fn fc,.slice ra rn rc,.slice oa on oc,.int .i64 B.ticks,.int .i64 B.parse,.int .i64 B.word,.int .i64 B.drops,.int .i64 B.vers]:=BcSt.later ⟨by rw [← hw3]; exact zy _ _,za (zk hw2) b23,zc (zc b01 b12) b23,by omega,Nat.le_of_lt z1,Nat.ne_of_lt z2⟩ b34;have k4:=zk hw4;have b03:=zc (zc b01 b12) b23;have nil4:w4.ownsRow w.heap.size 53 8 (.slice (some ⟨w3.heap.size,0,none⟩) 0 0) 0 (ptF.all []):=zaG ptF w w4 53 w3.heap.size k4 b03.size;have HZ1:=hide z1;have HZ2:=hide z2;have nAX:¬w.heap.size=w2.heap.size:=by omega
 have nXA:¬w2.heap.size=w.heap.size:=by omega
 obtain ⟨x0,x1,x2,x3,x4,x5,x6,x7,x8,x9,x10⟩:=zx kA2;have SZ23:=hide b23.size;clear z1 z2 b01 b12 b23 b34 k1 b03;go_enter Tryz.func101,Tryz.ntmps101;go_upto_region 2 with fail
 clear x0 x1 x2 x3 x4 x5 x6 x7 x8 x9 x10 hw1 hw2 hw3;obtain ⟨x0,x1,x2,x3,x4,x5,x6,x7,x8,x9,x10⟩:=zx kA4;have HST:=hide st4;have HKA:=hide kA4;have HN4:=hide nil4;have hp4:=h.ports.below st4.below;have hs4:=st4.below.size;clear st4 kA4 kA2;go_wp2_with (at_builtin; refine zfC _ rfl _ _ rfl w.heap.size _ 0 [] rfl nil4 a n c B.ports rfl hp4 (by omega) hs4 ?_)
 intro a4 c4 w5 o5 hr5 hg5 hb5;have o5:w5.ownsRow w.heap.size 53 8 (.slice a4 n c4) n (ptF.all B.ports):=by simpa using o5
 have st5:=HST.out.grown HN4.out (by decide) hg5 hb5;have kA5:=ze HKA.out hg5 (fun i e=>by have h1:=(HN4.out.lt i e).1; have h2:i=w3.heap.size:=(Option.some.inj e).symm; have h3:=HZ2.out; have h4:=HZ1.out; have h5:w2.heap.size≤w3.heap.size:=SZ23.out; omega)
 try simp only [Nat.zero_add]
 clear x0 x1 x2 x3 x4 x5 x6 x7 x8 x9 x10 hr5 hg5 hb5 nil4 hp4 hs4 HST HKA HN4;generalize hX:w2.heap.size=X at *;generalize hR:w1.heap.size=R at *;have st6:=st5.put 2 (.slice a4 n c4) (cs':=#[.int .i64 B.id,.string B.name,.slice a4 n c4,.slice fa fn fc,.slice ra rn rc,.slice oa on oc,.int .i64 B.ticks,.int .i64 B.parse,.int .i64 B.word,.int .i64 B.drops,.int .i64 B.vers]) rfl;have o6:=st5.stay o5 (by decide) 2 (.slice a4 n c4);have kA6:=zar (b:=X) (j:=2) (u:=.slice a4 n c4) kA5 nAX;obtain ⟨y0,y1,y2,y3,y4,y5,y6,y7,y8,y9,y10⟩:=zx st5.box;have f2:=zf st5.box 2;generalize hw6:w5.setCell ⟨X,2,none⟩ (.slice a4 n c4)=w6 at st6 o6 kA6;go_upto_region 3 with fail
 try rw [hw6]
 clear y0 y1 y2 y3 y4 y5 y6 y7 y8 y9 y10 f2 hw6 st5 o5 kA5;obtain ⟨x0,x1,x2,x3,x4,x5,x6,x7,x8,x9,x10⟩:=zx kA6;go_wp2_with fail
 refine (zg6 fa fn fc B.f _ (h.f.below st6.below) hfn).mono ?_;rintro e w7 ⟨fa6,fc6,rfl,oF,-,hb7⟩;have st7:=st6.later hb7;have o7:=zh o6 hb7;have oF:=zH oF (base':=w.heap.size) st6.below.size;have kA7:=za kA6 hb7;clear x0 x1 x2 x3 x4 x5 x6 x7 x8 x9 x10 hb7 o6 st6 kA6;obtain ⟨y0,y1,y2,y3,y4,y5,y6,y7,y8,y9,y10⟩:=zx st7.box;have f3:=zf st7.box 3;have st8:=st7.put 3 (.slice fa6 fn fc6) (cs':=#[.int .i64 B.id,.string B.name,.slice a4 n c4,.slice fa6 fn fc6,.slice ra rn rc,.slice oa on oc,.int .i64 B.ticks,.int .i64 B.parse,.int .i64 B.word,.int .i64 B.drops,.int .i64 B.vers]) rfl;have o8:=st7.stay o7 (by decide) 3 (.slice fa6 fn fc6);have oF8:=st7.stay oF (by decide) 3 (.slice fa6 fn fc6);have kA8:=zar (b:=X) (j:=3) (u:=.slice fa6 fn fc6) kA7 nAX;generalize hw8:w7.setCell ⟨X,3,none⟩ (.slice fa6 fn fc6)=w8 at st8 o8 oF8 kA8;go_upto_region 4 with fail
 try rw [hw8]
 clear y0 y1 y2 y3 y4 y5 y6 y7 y8 y9 y10 f3 hw8 st7 o7 oF kA7;obtain ⟨x0,x1,x2,x3,x4,x5,x6,x7,x8,x9,x10⟩:=zx kA8;go_wp2_with fail
 refine (zf6 ra rn rc oa on oc B.v _ (h.v.below st8.below) hrn hon).mono ?_;rintro e w9 ⟨ra8,rc8,oa8,oc8,rfl,oV,hb9⟩;have st9:=st8.later hb9;have own9:BrOwn w9 w.heap.size a4 n c4 fa6 fn fc6 ra8 rn rc8 oa8 on oc8 B:=⟨zh o8 hb9,zh oF8 hb9,oV.lt (base':=w.heap.size) st8.below.size⟩;clear x0 x1 x2 x3 x4 x5 x6 x7 x8 x9 x10 hb9 o8 oF8 kA8 st8 oV;have st10:=(st9.put 4 (.slice ra8 rn rc8) rfl).put 5 (.slice oa8 on oc8) (cs':=#[.int .i64 B.id,.string B.name,.slice a4 n c4,.slice fa6 fn fc6,.slice ra8 rn rc8,.slice oa8 on oc8,.int .i64 B.ticks,.int .i64 B.parse,.int .i64 B.word,.int .i64 B.drops,.int .i64 B.vers]) rfl;have own10:=(own9.boxed st9.box 4 (.slice ra8 rn rc8)).boxed (st9.put 4 (.slice ra8 rn rc8) rfl).box 5 (.slice oa8 on oc8);obtain ⟨y0,y1,y2,y3,y4,y5,y6,y7,y8,y9,y10⟩:=zx st9.box;have f4:=zf st9.box 4;have f5:=zf st9.box 5;obtain ⟨u0,u1,u2,u3,u4,u5,u6,u7,u8,u9,u10⟩:=zx st9.res;have fr:=zf st9.res;have fr0:=fr 0;have fr1:=fr 1;have fr2:=fr 2;have fr3:=fr 3;have fr4:=fr 4;have fr5:=fr 5;have fr6:=fr 6;have fr7:=fr 7;have fr8:=fr 8;have fr9:=fr 9;have fr10:=fr 10;have ne1:¬X=R:=fun e=>st9.ne e.symm
 have ne2:¬R=X:=st9.ne;obtain ⟨HO0,HB0⟩:=st10.out own10 (.int .i64 B.id) (.string B.name) (.slice a4 n c4) (.slice fa6 fn fc6) (.slice ra8 rn rc8) (.slice oa8 on oc8) (.int .i64 B.ticks) (.int .i64 B.parse) (.int .i64 B.word) (.int .i64 B.drops) (.int .i64 B.vers);have HO:=hide HO0;have HB:=hide HB0;clear fr st9 st10 own9 own10 HO0 HB0;go_wp2;exact bodyPost_ret (v:=.agg #[.int .i64 B.id,.string B.name,.slice a4 n c4,.slice fa6 fn fc6,.slice ra8 rn rc8,.slice oa8 on oc8,.int .i64 B.ticks,.int .i64 B.parse,.int .i64 B.word,.int .i64 B.drops,.int .i64 B.vers]) (by simp [results,Tryz.results101,go_sem, *]) rfl ⟨a4,c4,fa6,fc6,ra8,rc8,oa8,oc8,rfl,HO.out,HB.out⟩

theorem zcN (a:Option Addr) (n c:Nat) (fa:Option Addr) (fn fc:Nat) (ra:Option Addr) (rn rc:Nat) (oa:Option Addr) (on oc:Nat) (B:BR) (port:Int) (w:World) (h:BrRow w a n c fa fn fc ra rn rc oa on oc B) :
  Calls Tryz.prog 102 #[.agg #[.int .i64 B.id,.string B.name,.slice a n c,.slice fa fn fc,.slice ra rn rc,.slice oa on oc,.int .i64 B.ticks,.int .i64 B.parse,.int .i64 B.word,.int .i64 B.drops,.int .i64 B.vers],.int .i64 port] w fun e w'=>e=.returned (.bool (za4 B port))∧Below w.heap.size w w':=by
 have hle:=h.ports.le;have htop:=h.ports.top;unfold maxLen at htop;have HTB:Hid (za4 B port=(zu B && (decide (0≤port) && decide (port≤(n:Int) - 1)))):=hide (by unfold za4; rw [h.ports.size]);generalize hw1:w.alloc (Obj.cells #[.int .i64 B.id,.string B.name,.slice a n c,.slice fa fn fc,.slice ra rn rc,.slice oa on oc,.int .i64 B.ticks,.int .i64 B.parse,.int .i64 B.word,.int .i64 B.drops,.int .i64 B.vers] 44)=w1;have b01:=zb hw1;have k1:=zk hw1;obtain ⟨x0,x1,x2,x3,x4,x5,x6,x7,x8,x9,x10⟩:=zx k1;cases hok:zu B
 ·have HQ:Hid (za4 B port=false):=hide (by rw [HTB.out,hok]; rfl);have HOK:=hide hok;clear hok;go_enter Tryz.func102,Tryz.ntmps102;(go_wp2_with fail);refine (zbg a n c fa fn fc ra rn rc oa on oc B _ (h.below b01)).mono ?_;rintro e w2 ⟨rfl,hb2⟩;rw [HOK.out];have HB:=hide (zc b01 hb2);clear x0 x1 x2 x3 x4 x5 x6 x7 x8 x9 x10 hb2;go_wp2;go_ret;exact ⟨(by rw [HQ.out]; rfl),HB.out⟩
 ·have HOK:=hide hok;have HQ:Hid (za4 B port=(decide (0≤port) && decide (port≤(n:Int) - 1))):=hide (by rw [HTB.out,hok]; rfl);clear hok;go_enter Tryz.func102,Tryz.ntmps102;(go_wp2_with fail);refine (zbg a n c fa fn fc ra rn rc oa on oc B _ (h.below b01)).mono ?_;rintro e w2 ⟨rfl,hb2⟩;rw [HOK.out];have HB:=hide (zc b01 hb2);have k2:=za k1 hb2;clear x0 x1 x2 x3 x4 x5 x6 x7 x8 x9 x10 hb2;obtain ⟨x0,x1,x2,x3,x4,x5,x6,x7,x8,x9,x10⟩:=zx k2;(go_wp2_with fail);refine (zg port 0 ((n:Int) - 1) _).mono ?_;rintro r w3 ⟨rfl,ew⟩;obtain rfl:=ew.symm;go_wp2;go_ret;exact ⟨(by rw [HQ.out]; rfl),HB.out⟩

theorem zeh (N:NV) (k i:Nat) (x:LK) (y:BV) (w:World) (h:zaa w N) (hx:N.ls[k]? = some x) (hy0:N.bs[i]? = some y) (hi:x.a=(i:Int)) :
  Calls Tryz.prog 56 #[.agg #[.slice N.ba N.bn N.bc,.slice N.la N.ln N.lc,.slice N.sa N.sn N.sc],.int .i64 (k:Int),.bool false] w fun e w'=>e=.returned (.agg #[.int .i64 (sayV y.B.id y.B.ports x.p).r,.int .i64 (sayV y.B.id y.B.ports x.p).c,.int .i64 (sayV y.B.id y.B.ports x.p).h,.int .i64 (sayV y.B.id y.B.ports x.p).b,.int .i64 (sayV y.B.id y.B.ports x.p).p])∧Below w.heap.size w w':=by
 have hk:k < N.ln:=by have:=(List.getElem?_eq_some_iff.1 hx).1; have:=h.l.size; omega
 have hib:i < N.bn:=by have:=(List.getElem?_eq_some_iff.1 hy0).1; have:=h.b.size; omega
 generalize hw1:w.alloc (Obj.cells #[.slice N.ba N.bn N.bc,.slice N.la N.ln N.lc,.slice N.sa N.sn N.sc] 28)=w1;generalize hw2:w1.alloc (Obj.cells #[.int .i64 0,.int .i64 0,.int .i64 0,.int .i64 0,.int .i64 0] 51)=w2;have b01:=zb hw1;have b12:=zb hw2;have b02:=zc b01 b12;have kP:=za (zk hw1) b12;have kJ:=zk hw2;have HZ1:Hid (w1.heap.size=w.heap.size+1):=hide (by rw [← hw1]; simp);have HZ2:Hid (w2.heap.size=w.heap.size+2):=hide (by rw [← hw2,← hw1]; simp);obtain ⟨x',lb,lo,hx',hla,a0,a1,a2,a3⟩:=zao (h.l.below b02) k hk;rw [hx] at hx';cases hx';obtain ⟨y',bb,off,hy',hba,-⟩:=br_at h.b i hib;rw [hy0] at hy';cases hy';have hy:=h.item y (List.mem_of_getElem? hy0);have hG:GRow brF w (some ⟨bb,off,none⟩) N.bn N.bc N.bs:=by rw [← hba]; exact h.b
 have HBC:Hid (∀W,Below w.heap.size w W→zcc W bb (off+i*11) (.int .i64 y.B.id)∧zcc W bb (off+i*11+2) (.slice y.a y.n y.c)):=hide (fun W hW=>by have:=zF hG hW hy0; exact ⟨this.1,this.2.2.1⟩);have HBA:=hide hba;obtain ⟨x0,x1,x2⟩:=zd kP;rw [hla] at x1;have i1:(0:Int)≤(k:Int):=by omega
 have i2:(k:Int) < (N.ln:Int):=by omega
 have i3:(0:Int)≤(i:Int):=by omega
 have i4:(i:Int) < (N.bn:Int):=by omega
 clear hla hba hx hy0 hG;go_enter Tryz.func56,Tryz.ntmps56;obtain ⟨xa,xp,xb,xq⟩:=x;dsimp only at hi a0 a1 a2 a3 ⊢;subst hi;go_upto_region 4 with fail
 generalize hw3:w2.alloc (Obj.cells #[.int .i64 (i:Int),.int .i64 xp,.int .i64 xb,.int .i64 xq] 66)=w3;have b23:=zb hw3;have kL:=zk hw3;have kP:=za kP b23;have kJ:=za kJ b23;have b3:=zc b02 b23;have vv:Below w3.heap.size w3 w3.drew:=zq (Below.refl _ _);clear hw3 b23 x0 x1 x2 a0 a1 a2 a3;refine wp_region_held_drew (S:=(fun W=>(zcc W w.heap.size 0 (.slice (some ⟨bb,off,none⟩) N.bn N.bc)∧zcc W w.heap.size 1 (.slice N.la N.ln N.lc)∧zcc W w.heap.size 2 (.slice N.sa N.sn N.sc))∧(zcc W w2.heap.size 0 (.int .i64 (i:Int))∧zcc W w2.heap.size 1 (.int .i64 xp)∧zcc W w2.heap.size 2 (.int .i64 xb)∧zcc W w2.heap.size 3 (.int .i64 xq))∧(zcc W bb (off+i*11) (.int .i64 y.B.id)∧zcc W bb (off+i*11+2) (.slice y.a y.n y.c)))) (by kernel_rfl) (⟨by have:=zd (za kP vv); rw [HBA.out] at this; exact this,zE (za kL vv),(HBC.out _ (zc b3 vv)).1,(HBC.out _ (zc b3 vv)).2⟩) (fun hHeld => ?_);refine kK 0 ?_;refine kK 1 ?_;refine kK 2 ?_;refine kK 3 ?_;refine kK 4 ?_;refine kK 5 ?_;refine kK 6 ?_;refine kK 7 ?_;refine kK 8 ?_;refine kK 9 ?_;refine kK 10 ?_;refine kK 11 ?_;refine kK 12 ?_;refine kK 13 ?_;refine kK 14 ?_;refine kK 15 ?_;refine kR 16 fun K hK => ?_
 go_simp;refine (zbG y.B.id y.a y.n y.c y.B.ports xp _ (hy.ports.below (zc b3 vv))).mono ?_;rintro e wz ⟨rfl,hbz⟩;have vv:=zc vv hbz;generalize hSV:sayV y.B.id y.B.ports xp=SV at *;go_wp2_with fail
 refine kO hK (⟨by have:=zd (za kP vv); rw [HBA.out] at this; exact this,zE (za kL vv),(HBC.out _ (zc b3 vv)).1,(HBC.out _ (zc b3 vv)).2⟩) fun hHeld => ?_
 clear hK K;refine kR 17 fun K hK => ?_
 obtain ⟨xx0,xx1,xx2,xx3,xx4⟩:=(zG (za kJ vv)).1;have ff:=zf (za kJ vv);have ff0:=ff 0;have ff1:=ff 1;have ff2:=ff 2;have ff3:=ff 3;have ff4:=ff 4;clear ff;go_simp;refine zhJ (K:=K _) (za kJ vv) _ _ _ _ _ (fun wq kQ hgq => ?_);have vq:=(zc b3 vv).grown hgq (zc b3 vv).size (by intro j e; cases e; have:=HZ1.out; omega);have kPq:=ze (za kP vv) hgq (by intro j e; cases e; have:=HZ1.out; omega);have kLq:=ze (za kL vv) hgq (by intro j e; cases e; have:=HZ1.out; have:=HZ2.out; omega);refine kO hK (⟨by have:=zd kPq; rw [HBA.out] at this; exact this,zE kLq,(HBC.out _ vq).1,(HBC.out _ vq).2⟩) fun hHeld => ?_
 clear hK K;refine wpAnyH_done (by kernel_rfl) ?_ _;have HB:=hide vq;have HQ:=hide kQ;obtain ⟨⟨r0,r1,r2,r3,r4⟩,-⟩:=zG kQ;clear hHeld kPq kLq vq kQ hgq;go_wp2;exact bodyPost_ret (v:=.agg #[.int .i64 SV.r,.int .i64 SV.c,.int .i64 SV.h,.int .i64 SV.b,.int .i64 SV.p]) (by simp [results,Tryz.results56,go_sem, *]) rfl ⟨by rw [hSV],HB.out⟩

theorem zdn (N:NV) (k i:Nat) (x:LK) (y:BV) (w:World) (h:zaa w N) (hx:N.ls[k]? = some x) (hy0:N.bs[i]? = some y) (hi:x.b=(i:Int)) :
  Calls Tryz.prog 56 #[.agg #[.slice N.ba N.bn N.bc,.slice N.la N.ln N.lc,.slice N.sa N.sn N.sc],.int .i64 (k:Int),.bool true] w fun e w'=>e=.returned (.agg #[.int .i64 (sayV y.B.id y.B.ports x.q).r,.int .i64 (sayV y.B.id y.B.ports x.q).c,.int .i64 (sayV y.B.id y.B.ports x.q).h,.int .i64 (sayV y.B.id y.B.ports x.q).b,.int .i64 (sayV y.B.id y.B.ports x.q).p])∧Below w.heap.size w w':=by
 have hk:k < N.ln:=by have:=(List.getElem?_eq_some_iff.1 hx).1; have:=h.l.size; omega
 have hib:i < N.bn:=by have:=(List.getElem?_eq_some_iff.1 hy0).1; have:=h.b.size; omega
 generalize hw1:w.alloc (Obj.cells #[.slice N.ba N.bn N.bc,.slice N.la N.ln N.lc,.slice N.sa N.sn N.sc] 28)=w1;generalize hw2:w1.alloc (Obj.cells #[.int .i64 0,.int .i64 0,.int .i64 0,.int .i64 0,.int .i64 0] 51)=w2;have b01:=zb hw1;have b12:=zb hw2;have b02:=zc b01 b12;have kP:=za (zk hw1) b12;have kJ:=zk hw2;have HZ1:Hid (w1.heap.size=w.heap.size+1):=hide (by rw [← hw1]; simp);have HZ2:Hid (w2.heap.size=w.heap.size+2):=hide (by rw [← hw2,← hw1]; simp);obtain ⟨x',lb,lo,hx',hla,a0,a1,a2,a3⟩:=zao (h.l.below b02) k hk;rw [hx] at hx';cases hx';obtain ⟨y',bb,off,hy',hba,-⟩:=br_at h.b i hib;rw [hy0] at hy';cases hy';have hy:=h.item y (List.mem_of_getElem? hy0);have hG:GRow brF w (some ⟨bb,off,none⟩) N.bn N.bc N.bs:=by rw [← hba]; exact h.b
 have HBC:Hid (∀W,Below w.heap.size w W→zcc W bb (off+i*11) (.int .i64 y.B.id)∧zcc W bb (off+i*11+2) (.slice y.a y.n y.c)):=hide (fun W hW=>by have:=zF hG hW hy0; exact ⟨this.1,this.2.2.1⟩);have HBA:=hide hba;obtain ⟨x0,x1,x2⟩:=zd kP;rw [hla] at x1;have i1:(0:Int)≤(k:Int):=by omega
 have i2:(k:Int) < (N.ln:Int):=by omega
 have i3:(0:Int)≤(i:Int):=by omega
 have i4:(i:Int) < (N.bn:Int):=by omega
 clear hla hba hx hy0 hG;go_enter Tryz.func56,Tryz.ntmps56;obtain ⟨xa,xp,xb,xq⟩:=x;dsimp only at hi a0 a1 a2 a3 ⊢;subst hi;go_upto_region 3 with fail
 generalize hw3:w2.alloc (Obj.cells #[.int .i64 xa,.int .i64 xp,.int .i64 (i:Int),.int .i64 xq] 66)=w3;have b23:=zb hw3;have kL:=zk hw3;have kP:=za kP b23;have kJ:=za kJ b23;have b3:=zc b02 b23;have vv:Below w3.heap.size w3 w3.drew:=zq (Below.refl _ _);clear hw3 b23 x0 x1 x2 a0 a1 a2 a3;refine wp_region_held_drew (S:=(fun W=>(zcc W w.heap.size 0 (.slice (some ⟨bb,off,none⟩) N.bn N.bc)∧zcc W w.heap.size 1 (.slice N.la N.ln N.lc)∧zcc W w.heap.size 2 (.slice N.sa N.sn N.sc))∧(zcc W w2.heap.size 0 (.int .i64 xa)∧zcc W w2.heap.size 1 (.int .i64 xp)∧zcc W w2.heap.size 2 (.int .i64 (i:Int))∧zcc W w2.heap.size 3 (.int .i64 xq))∧(zcc W bb (off+i*11) (.int .i64 y.B.id)∧zcc W bb (off+i*11+2) (.slice y.a y.n y.c)))) (by kernel_rfl) (⟨by have:=zd (za kP vv); rw [HBA.out] at this; exact this,zE (za kL vv),(HBC.out _ (zc b3 vv)).1,(HBC.out _ (zc b3 vv)).2⟩) (fun hHeld => ?_);refine kK 0 ?_;refine kK 1 ?_;refine kK 2 ?_;refine kK 3 ?_;refine kK 4 ?_;refine kK 5 ?_;refine kK 6 ?_;refine kK 7 ?_;refine kK 8 ?_;refine kK 9 ?_;refine kK 10 ?_;refine kK 11 ?_;refine kK 12 ?_;refine kK 13 ?_;refine kK 14 ?_;refine kK 15 ?_;refine kR 16 fun K hK => ?_
 go_simp;refine (zbG y.B.id y.a y.n y.c y.B.ports xq _ (hy.ports.below (zc b3 vv))).mono ?_;rintro e wz ⟨rfl,hbz⟩;have vv:=zc vv hbz;generalize hSV:sayV y.B.id y.B.ports xq=SV at *;go_wp2_with fail
 refine kO hK (⟨by have:=zd (za kP vv); rw [HBA.out] at this; exact this,zE (za kL vv),(HBC.out _ (zc b3 vv)).1,(HBC.out _ (zc b3 vv)).2⟩) fun hHeld => ?_
 clear hK K;refine kR 17 fun K hK => ?_
 obtain ⟨xx0,xx1,xx2,xx3,xx4⟩:=(zG (za kJ vv)).1;have ff:=zf (za kJ vv);have ff0:=ff 0;have ff1:=ff 1;have ff2:=ff 2;have ff3:=ff 3;have ff4:=ff 4;clear ff;go_simp;refine zhJ (K:=K _) (za kJ vv) _ _ _ _ _ (fun wq kQ hgq => ?_);have vq:=(zc b3 vv).grown hgq (zc b3 vv).size (by intro j e; cases e; have:=HZ1.out; omega);have kPq:=ze (za kP vv) hgq (by intro j e; cases e; have:=HZ1.out; omega);have kLq:=ze (za kL vv) hgq (by intro j e; cases e; have:=HZ1.out; have:=HZ2.out; omega);refine kO hK (⟨by have:=zd kPq; rw [HBA.out] at this; exact this,zE kLq,(HBC.out _ vq).1,(HBC.out _ vq).2⟩) fun hHeld => ?_
 clear hK K;refine wpAnyH_done (by kernel_rfl) ?_ _;have HB:=hide vq;have HQ:=hide kQ;obtain ⟨⟨r0,r1,r2,r3,r4⟩,-⟩:=zG kQ;clear hHeld kPq kLq vq kQ hgq;go_wp2;exact bodyPost_ret (v:=.agg #[.int .i64 SV.r,.int .i64 SV.c,.int .i64 SV.h,.int .i64 SV.b,.int .i64 SV.p]) (by simp [results,Tryz.results56,go_sem, *]) rfl ⟨by rw [hSV],HB.out⟩

theorem zfO (n:Int) (w:World) (h:n≤9223372036854775806) (h0 : -9223372036854775808≤n) :
  Calls Tryz.prog 105 #[.int .i64 n] w fun e w'=>e=.returned (.int .i64 (zap n))∧w'=w:=by
 by_cases h1:n≥1000000
 ·rw [show zap n=n from if_pos h1];have h1':(1000000:Int)≤n:=h1;go_enter Tryz.func105,Tryz.ntmps105;go_wp2;go_ret;exact ⟨rfl,rfl⟩
 ·rw [show zap n=n+1 from if_neg h1];have h1':¬(1000000:Int)≤n:=h1;go_enter Tryz.func105,Tryz.ntmps105;go_wp2;go_ret;exact ⟨rfl,rfl⟩

theorem zio (bits:Int) (l:List FE) (k:Nat):(zaz bits l k).length≤l.length:=(zbU bits l k).length_le

theorem zb5 (base:Nat) (a:Option Addr) (n c:Nat) (fa:Option Addr) (fn fc:Nat) (ra:Option Addr) (rn rc:Nat) (oa:Option Addr) (on oc:Nat) (B:BR) (w:World) (h:BrOwn w base a n c fa fn fc ra rn rc oa on oc B) (hbase:base≤w.heap.size) (hn:n≤1048576) (hfn:fn≤16777216) (hv : -9223372036854775808≤B.vers∧B.vers≤9223372036854775806) :
  Calls Tryz.prog 103 #[.agg #[.int .i64 B.id,.string B.name,.slice a n c,.slice fa fn fc,.slice ra rn rc,.slice oa on oc,.int .i64 B.ticks,.int .i64 B.parse,.int .i64 B.word,.int .i64 B.drops,.int .i64 B.vers]] w fun e w'=>∃(fa2:Option Addr) (fn2 fc2:Nat),e=.returned (.agg #[.int .i64 B.id,.string B.name,.slice a n c,.slice fa2 fn2 fc2,.slice ra rn rc,.slice oa on oc,.int .i64 B.ticks,.int .i64 B.parse,.int .i64 B.word,.int .i64 B.drops,.int .i64 (zap B.vers)])∧BrOwn w' base a n c fa2 fn2 fc2 ra rn rc oa on oc (turned B)∧Below w.heap.size w w':=by
 have hpl:B.ports.length=n:=(zC (F:=ptF) h.ports).size;have hfl:B.f.length=fn:=(zC (F:=fentF) h.f).size;generalize hw1:w.alloc (Obj.cells #[.int .i64 B.id,.string B.name,.slice a n c,.slice fa fn fc,.slice ra rn rc,.slice oa on oc,.int .i64 B.ticks,.int .i64 B.parse,.int .i64 B.word,.int .i64 B.drops,.int .i64 B.vers] 44)=w1;generalize hw2:w1.alloc (Obj.cells #[.int .i64 0,.string ⟨#[]⟩,.slice none 0 0,.slice none 0 0,.slice none 0 0,.slice none 0 0,.int .i64 0,.int .i64 0,.int .i64 0,.int .i64 0,.int .i64 0] 44)=w2;have b01:=zb hw1;have b12:=zb hw2;have z1:w.heap.size < w1.heap.size:=by rw [← hw1]; simp
 have st2:BcSt w w2 w1.heap.size w.heap.size #[.int .i64 B.id,.string B.name,.slice a n c,.slice fa fn fc,.slice ra rn rc,.slice oa on oc,.int .i64 B.ticks,.int .i64 B.parse,.int .i64 B.word,.int .i64 B.drops,.int .i64 B.vers]:=⟨za (zk hw1) b12,by rw [← hw2]; exact zy _ _,zc b01 b12,Nat.le_refl _,Nat.le_of_lt z1,Nat.ne_of_gt z1⟩;have own2:=h.below (zc b01 b12);obtain ⟨x0,x1,x2,x3,x4,x5,x6,x7,x8,x9,x10⟩:=zx st2.box;have f10:=zf st2.box 10;obtain ⟨V,hV⟩:∃V,V=zap B.vers:=⟨_,rfl⟩;have HV:=hide hV;have HVR:=hide hv;clear hv;go_enter Tryz.func103,Tryz.ntmps103;go_wp2_with fail
 refine (zfO B.vers _ HVR.out.2 HVR.out.1).mono ?_;rintro e w3 ⟨rfl,e3⟩;obtain rfl:=e3.symm;rw [← hV];clear hV hw1 hw2;generalize hR:w1.heap.size=R at *;generalize hw4:w2.setCell ⟨w.heap.size,10,none⟩ (.int .i64 V)=w4;have st4:=st2.put 10 (.int .i64 V) (cs':=#[.int .i64 B.id,.string B.name,.slice a n c,.slice fa fn fc,.slice ra rn rc,.slice oa on oc,.int .i64 B.ticks,.int .i64 B.parse,.int .i64 B.word,.int .i64 B.drops,.int .i64 V]) rfl;have own4:=own2.boxed st2.box 10 (.int .i64 V);rw [hw4] at st4 own4;go_upto_region 2 with fail
 clear x0 x1 x2 x3 x4 x5 x6 x7 x8 x9 x10 f10 st2 own2 hw4;obtain ⟨x0,x1,x2,x3,x4,x5,x6,x7,x8,x9,x10⟩:=zx st4.box;go_wp2_with fail
 refine (zg9 B.id a n c B.ports _ (zC (F:=ptF) own4.ports)).mono ?_;rintro e w5 ⟨rfl,hb5⟩;have st5:=st4.later hb5;have own5:=own4.below hb5;generalize hbits:zah B.id B.ports=bits;have HBI:=hide hbits;clear x0 x1 x2 x3 x4 x5 x6 x7 x8 x9 x10 st4 own4 hb5 hbits;have HFL:=hide hfl;clear hfl;go_wp2_with fail
 go_loopw [4] (fun i wr=>∃(k:Nat) (fa2:Option Addr) (fn2 fc2:Nat),k≤n∧i=.int .i64 k∧fn2≤fn∧BcSt w wr R w.heap.size #[.int .i64 B.id,.string B.name,.slice a n c,.slice fa2 fn2 fc2,.slice ra rn rc,.slice oa on oc,.int .i64 B.ticks,.int .i64 B.parse,.int .i64 B.word,.int .i64 B.drops,.int .i64 V]∧BrOwn wr base a n c fa2 fn2 fc2 ra rn rc oa on oc { B with f:=zaz bits B.f k }) (fun i _=>n - (intOf i).toNat)
 case atStart=>exact ⟨0,fa,fn,fc,Nat.zero_le _,rfl,Nat.le_refl _,st5,own5⟩
 case round =>
  obtain ⟨k,fa2,fn2,fc2,hk,rfl,hf2,st,own⟩:=hrel;clear st5 own5;obtain ⟨x0,x1,x2,x3,x4,x5,x6,x7,x8,x9,x10⟩:=zx st.box;by_cases hlt:k < n
  ·have i1:(0:Int)≤(k:Int):=by omega
   have i2:(k:Int) < (n:Int):=by omega
   (go_wp2_with fail);refine (ziV bits (k:Int) _).mono ?_;rintro e w6 ⟨rfl,e6⟩;obtain rfl:=e6.symm;cases hb:bitOf bits (k:Int)
   ·have HF:Hid (zaz bits B.f (k+1)=zX (zaz bits B.f k) (k:Int)):=hide (by rw [zaz,if_neg (by rw [hb]; decide)]);clear hb;(go_wp2_with fail);refine (zg7 fa2 fn2 fc2 (zaz bits B.f k) (k:Int) _ (zC (F:=fentF) own.f) (by omega)).mono ?_;rintro e w7 ⟨fa7,fc7,rfl,o7,-,hb7⟩;have hlen:(zX (zaz bits B.f k) (k:Int)).length≤fn:=by
     have h1:(zX (zaz bits B.f k) (k:Int)).length≤(zaz bits B.f k).length:=List.length_filter_le _ _;have h2:=zio bits B.f k;have h3:=HFL.out;omega
    have st7:=st.later hb7;have o7:=zH o7 (base':=base) (Nat.le_trans hbase st.below.size);have own7:=(own.below hb7).putF (Below.refl _ _) o7;clear x0 x1 x2 x3 x4 x5 x6 x7 x8 x9 x10 hb7 o7 st own;obtain ⟨x0,x1,x2,x3,x4,x5,x6,x7,x8,x9,x10⟩:=zx st7.box;have f3:=zf st7.box 3;rw [← HF.out] at own7 hlen ⊢;generalize hL:(zaz bits B.f (k+1)).length=L at *;have HST:=hide (st7.put 3 (.slice fa7 L fc7) (cs':=#[.int .i64 B.id,.string B.name,.slice a n c,.slice fa7 L fc7,.slice ra rn rc,.slice oa on oc,.int .i64 B.ticks,.int .i64 B.parse,.int .i64 B.word,.int .i64 B.drops,.int .i64 V]) rfl);have HOW:=hide (own7.boxed st7.box 3 (.slice fa7 L fc7));clear st7 own7;go_wp2
    go_roundw
    case rel=>exact ⟨k+1,fa7,L,fc7,by omega,by go_num,hlen,HST.out,HOW.out⟩
    case measure=>simp [intOf]; omega
   ·have HF:Hid (zaz bits B.f (k+1)=zaz bits B.f k):=hide (by rw [zaz,if_pos hb]);have HOW:Hid (BrOwn wr base a n c fa2 fn2 fc2 ra rn rc oa on oc { B with f:=zaz bits B.f (k+1) }):=hide (by rw [HF.out]; exact own);have HST:=hide st;clear hb st own x0 x1 x2 x3 x4 x5 x6 x7 x8 x9 x10;go_wp2
    go_roundw
    case rel=>exact ⟨k+1,fa2,fn2,fc2,by omega,by go_num,hf2,HST.out,HOW.out⟩
    case measure=>simp [intOf]; omega
  ·obtain rfl:n=k:=by omega
   obtain ⟨y0,y1,y2,y3,y4,y5,y6,y7,y8,y9,y10⟩:=zx st.res;have fr:=zf st.res;have f0:=fr 0;have f1:=fr 1;have f2:=fr 2;have f3:=fr 3;have f4:=fr 4;have f5:=fr 5;have f6:=fr 6;have f7:=fr 7;have f8:=fr 8;have f9:=fr 9;have f10:=fr 10;have ne1:¬R=w.heap.size:=st.ne;have ne2:¬w.heap.size=R:=fun e=>st.ne e.symm
   have HT:Hid (turned B={ B with vers:=V,f:=zaz bits B.f n }):=hide (by unfold turned; rw [HBI.out,hpl,HV.out]);obtain ⟨HO0,HB0⟩:=st.out own (.int .i64 B.id) (.string B.name) (.slice a n c) (.slice fa2 fn2 fc2) (.slice ra rn rc) (.slice oa on oc) (.int .i64 B.ticks) (.int .i64 B.parse) (.int .i64 B.word) (.int .i64 B.drops) (.int .i64 V);have HO:=hide HO0;have HB:=hide HB0;clear st own fr HO0 HB0;go_wp2;exact bodyPost_ret (v:=.agg #[.int .i64 B.id,.string B.name,.slice a n c,.slice fa2 fn2 fc2,.slice ra rn rc,.slice oa on oc,.int .i64 B.ticks,.int .i64 B.parse,.int .i64 B.word,.int .i64 B.drops,.int .i64 V]) (by simp [results,Tryz.results103,go_sem, *]) rfl ⟨fa2,fn2,fc2,(by rw [HV.out]),(by rw [HT.out]; exact ⟨HO.out.ports,HO.out.f,HO.out.v⟩),HB.out⟩

def zaO (p:PT) (v:VD):Bool:=p.has && ((p.v.r == v.r) && ((p.v.c == v.c) && ((p.v.h == v.h) && ((p.v.b == v.b) && (p.v.p == v.p)))))

def agrAt (bs:List BR) (x:LK):Bool:=match bs[x.a.toNat]?,bs[x.b.toNat]? with
 | some A,some B=>match A.ports[x.p.toNat]?,B.ports[x.q.toNat]? with
  | some pA,some pB=>zaO pB (sayV A.id A.ports x.p) && zaO pA (sayV B.id B.ports x.q)
  | _,_=>true
 | _,_=>true
def agrK (bs:List BR) (ls:List LK) (k:Nat):Bool:=match ls[k]? with
 | some x => !(zT bs ls (k:Int)) || agrAt bs x
 | none=>true
def agreed (bs:List BR) (ls:List LK):Bool:=(List.range ls.length).all (agrK bs ls)

theorem zbx {bs:List BR} {ls:List LK} {k:Nat} {x:LK} (hx:ls[k]? = some x) (h:zT bs ls (k:Int)=true):∃(i ip j jq:Nat) (A B:BR) (pA pB:PT),x=⟨(i:Int),(ip:Int),(j:Int),(jq:Int)⟩∧bs[i]? = some A∧bs[j]? = some B∧A.ports[ip]? = some pA∧B.ports[jq]? = some pB:=by
 unfold zT at h;rw [if_pos (by omega),Int.toNat_natCast,hx] at h;dsimp only at h;have key:∀b p:Int,upAt bs b p=true→∃(i ip:Nat) (A:BR) (pA:PT),b=(i:Int)∧p=(ip:Int)∧bs[i]? = some A∧A.ports[ip]? = some pA:=by
  intro b p hu;unfold upAt zad at hu;by_cases hc:0≤b∧0≤p
  ·rw [if_pos hc] at hu;cases hA:bs[b.toNat]? with
   | none=>rw [hA] at hu; simp at hu
   | some A =>
    rw [hA] at hu;cases hp:A.ports[p.toNat]? with
    | none=>simp [hp] at hu
    | some pA=>exact ⟨b.toNat,p.toNat,A,pA,by omega,by omega,hA,hp⟩
  ·rw [if_neg hc] at hu
   simp at hu
 rw [Bool.and_eq_true] at h;obtain ⟨i,ip,A,pA,e1,e2,hA,hpA⟩:=key _ _ h.1;obtain ⟨j,jq,B,pB,e3,e4,hB,hpB⟩:=key _ _ h.2;obtain ⟨xa,xp,xb,xq⟩:=x;dsimp only at e1 e2 e3 e4;subst e1 e2 e3 e4;exact ⟨i,ip,j,jq,A,B,pA,pB,rfl,hA,hB,hpA,hpB⟩

theorem zgG {bs:List BR} {i ip j jq:Nat} {A B:BR} {pA pB:PT} (hA:bs[i]? = some A) (hB:bs[j]? = some B) (hpA:A.ports[ip]? = some pA) (hpB:B.ports[jq]? = some pB):agrAt bs ⟨(i:Int),(ip:Int),(j:Int),(jq:Int)⟩=(zaO pB (sayV A.id A.ports (ip:Int)) && zaO pA (sayV B.id B.ports (jq:Int))):=by
 unfold agrAt;simp only [Int.toNat_natCast,hA,hB,hpA,hpB]

theorem zdS {bs:List BR} {ls:List LK} {k:Nat} (hk:k < ls.length) (h:agrK bs ls k=false):agreed bs ls=false:=by
 unfold agreed;rw [Bool.eq_false_iff];intro hc;rw [List.all_eq_true] at hc
 have:=hc k (List.mem_range.2 hk)
 rw [h] at this;cases this

theorem zgb {bs:List BR} {ls:List LK} (h:∀k,k < ls.length→agrK bs ls k=true):agreed bs ls=true:=by
 unfold agreed;rw [List.all_eq_true];intro k hk;exact h k (List.mem_range.1 hk)

theorem zgg {N:NV} {k:Nat} {A:BR} (h:N.brs[k]? = some A):∃y:BV,N.bs[k]? = some y∧y.B=A:=by
 unfold NV.brs at h;rw [List.getElem?_map] at h;cases hy:N.bs[k]? with
 | none=>rw [hy] at h; cases h
 | some y=>rw [hy] at h; cases h; exact ⟨y,rfl,rfl⟩

theorem zeH (N:NV) (i p:Nat) (y:BV) (w:World) (h:zaa w N) (hA:N.bs[i]? = some y) (hp:p≤9223372036854775807) :
  Calls Tryz.prog 30 #[.agg #[.slice N.ba N.bn N.bc,.slice N.la N.ln N.lc,.slice N.sa N.sn N.sc],.agg #[.int .i64 (i:Int),.int .i64 (p:Int)]] w fun e w'=>e=.returned (.bool (bitOf (zah y.B.id y.B.ports) (p:Int)))∧Below w.heap.size w w':=by
 have hib:i < N.bn:=by have:=(List.getElem?_eq_some_iff.1 hA).1; have:=h.b.size; omega
 have hle:=Nat.le_trans h.b.le h.b.top;unfold maxLen at hle;generalize hRR:bitOf (zah y.B.id y.B.ports) (p:Int)=RR;have HR:=hide hRR;clear hRR;obtain ⟨y',bb,off,hy',hba,-⟩:=br_at h.b i hib;cases (hA.symm.trans hy');have hy:=h.item y (List.mem_of_getElem? hA);have hG:GRow brF w (some ⟨bb,off,none⟩) N.bn N.bc N.bs:=by rw [← hba]; exact h.b
 have HBC:Hid (∀W,Below w.heap.size w W→(zcc W bb (off+i*11) (.int .i64 y.B.id)∧zcc W bb (off+i*11+2) (.slice y.a y.n y.c))):=hide (fun W hW=>by have:=zF hG hW hA; exact ⟨this.1,this.2.2.1⟩);have HBA:=hide hba;have i3:(0:Int)≤(i:Int):=by omega
 have i4:(i:Int) < (N.bn:Int):=by omega
 clear hba hA hG hy';generalize hw1:w.alloc (Obj.cells #[.slice N.ba N.bn N.bc,.slice N.la N.ln N.lc,.slice N.sa N.sn N.sc] 28)=w1;generalize hw2:w1.alloc (Obj.cells #[.int .i64 (i:Int),.int .i64 (p:Int)] 68)=w2;have b01:=zb hw1;have b12:=zb hw2;have b02:=zc b01 b12;have kP:=za (zk hw1) b12;have kE:=zk hw2;obtain ⟨x0,x1,x2⟩:=zd kP;obtain ⟨e0,e1⟩:=zm kE;go_enter Tryz.func30,Tryz.ntmps30;go_wp2_with fail
 refine (zbm N i bb off _ hle hib HBA.out).mono ?_;rintro e w3 ⟨rfl,hb3⟩;have kE:=za kE hb3;have b03:=zc b02 hb3;clear x0 x1 x2 e0 e1 hb3 kP hw1 hw2;have vv:Below w3.heap.size w3 w3.drew:=zq (Below.refl _ _);go_upto_region 2 with fail
 refine wp_region_held_drew (S:=(fun W=>(zcc W w1.heap.size 0 (.int .i64 (i:Int))∧zcc W w1.heap.size 1 (.int .i64 (p:Int)))∧(zcc W bb (off+i*11) (.int .i64 y.B.id)∧zcc W bb (off+i*11+2) (.slice y.a y.n y.c)))) (by kernel_rfl) (⟨zm (za kE vv),HBC.out _ (zc b03 vv)⟩) (fun hHeld => ?_);refine kK 0 ?_;refine kK 1 ?_;refine kK 2 ?_;refine kK 3 ?_;refine kK 4 ?_;refine kK 5 ?_;refine kK 6 ?_;refine kK 7 ?_;refine kK 9 ?_;refine kK 10 ?_;refine kR 8 fun K hK => ?_
 go_simp;refine (zd7 y.B.id y.a y.n y.c y.B.ports _ (hy.ports.below (zc b03 vv))).mono ?_;rintro e wz ⟨rfl,hbz⟩;have vv:=zc vv hbz;generalize hSS:zah y.B.id y.B.ports=SS at *;go_wp2_with fail
 refine kO hK (⟨zm (za kE vv),HBC.out _ (zc b03 vv)⟩) fun hHeld => ?_
 clear hK K;refine kR 11 fun K hK => ?_
 go_simp;rw [← hSS];refine (zgO y.B.id y.B.ports p _ hp).mono ?_;rintro e wy ⟨rfl,ey⟩;obtain rfl:=ey.symm;rw [hSS,HR.out];go_wp2_with fail
 refine kO hK (⟨zm (za kE vv),HBC.out _ (zc b03 vv)⟩) fun hHeld => ?_
 clear hK K;refine kK 12 ?_;refine wpAnyH_done (by kernel_rfl) ?_ _;have HB:=hide (zc b03 vv);clear hHeld;go_wp2;go_ret;exact ⟨rfl,HB.out⟩

def zeO (bs:List BR) (b p:Int):Bool:=match bs[b.toNat]? with
 | some B=>bitOf (zah B.id B.ports) p
 | none=>false
def liveK (bs:List BR) (ls:List LK) (k:Nat):Bool:=zT bs ls (k:Int) && (match ls[k]? with
 | some x=>zeO bs x.a x.p && zeO bs x.b x.q
 | none=>false)
def zY (bs:List BR) (ls:List LK):Nat→List Int
 | 0=>[]
 | k+1=>if liveK bs ls k=true then zY bs ls k++[(k:Int)] else zY bs ls k

theorem zgW {bs:List BR} {ls:List LK} {k:Nat} (h:liveK bs ls k=false):zY bs ls (k+1)=zY bs ls k:=by
 rw [zY,if_neg (by rw [h]; decide)]
theorem zjo {bs:List BR} {ls:List LK} {k:Nat} (h:liveK bs ls k=true):zY bs ls (k+1)=zY bs ls k++[(k:Int)]:=by
 rw [zY,if_pos h]
theorem zjn (bs:List BR) (ls:List LK):∀k,(zY bs ls k).length≤k
 | 0=>Nat.le_refl _
 | k+1=>by
  have:=zjn bs ls k
  cases h:liveK bs ls k
  ·rw [zgW h]; omega
  ·rw [zjo h,List.length_append]; simp; omega

theorem zgR (N:NV) (w:World) (h:zaa w N) (h20:N.ln≤1048576) (hrg:∀x∈N.ls,x.Rng) :
  Calls Tryz.prog 11 #[.agg #[.slice N.ba N.bn N.bc,.slice N.la N.ln N.lc,.slice N.sa N.sn N.sc]] w fun e w'=>∃ao cap,e=.returned (.slice ao (zY N.brs N.ls N.ln).length cap)∧w'.ownsRow w.heap.size 3 1 (.slice ao (zY N.brs N.ls N.ln).length cap) (zY N.brs N.ls N.ln).length (intF.all (zY N.brs N.ls N.ln))∧Below w.heap.size w w':=by
 have HSZ:=hide h.l.size;generalize hw1:w.alloc (Obj.cells #[.slice N.ba N.bn N.bc,.slice N.la N.ln N.lc,.slice N.sa N.sn N.sc] 28)=w1;have b01:=zb hw1;have k1:=zk hw1;have HZ:Hid (w1.heap.size=w.heap.size+1):=hide (by rw [← hw1]; simp);obtain ⟨x0,x1,x2⟩:=zd k1;go_enter Tryz.func11,Tryz.ntmps11;go_wp2_with fail
 clear hw1 x0 x1 x2
 go_loopw [3,4,5,6,10] (fun p u1 u2 u3 i wr=>∃(k:Nat) (ao:Option Addr) (cap:Nat),k≤N.ln∧i=.int .i64 k∧p=.slice ao (zY N.brs N.ls k).length cap∧wr.ownsRow w.heap.size 3 1 (.slice ao (zY N.brs N.ls k).length cap) (zY N.brs N.ls k).length (intF.all (zY N.brs N.ls k))∧wr.heap[w.heap.size]? = some (.cells #[.slice N.ba N.bn N.bc,.slice N.la N.ln N.lc,.slice N.sa N.sn N.sc] 28)∧Below w.heap.size w wr) (fun _ _ _ _ i _=>N.ln - (intOf i).toNat)
 case atStart=>exact ⟨0,none,0,Nat.zero_le _,rfl,rfl,World.ownsRow_nil _ _ _ _,k1,b01⟩
 case round =>
  obtain ⟨k,ao,cap,hk,rfl,rfl,ow,kP,hb⟩:=hrel;clear k1 b01;obtain ⟨x0,x1,x2⟩:=zd kP;by_cases hlt:k < N.ln
  ·have i1:(0:Int)≤(k:Int):=by omega
   have i2:(k:Int) < (N.ln:Int):=by omega
   have HLQ:=hide (zjn N.brs N.ls k);obtain ⟨x,lb,lo,hx,hla,a0,a1,a2,a3⟩:=zao (h.l.below hb) k hlt;have HLA:=hide hla;clear hla;have HX:=hide hx;generalize hwl:wr.alloc (Obj.cells #[.int .i64 x.a,.int .i64 x.p,.int .i64 x.b,.int .i64 x.q] 66)=wl;have brl:=zb hwl;have kL:=zk hwl;have kP:=za kP brl;have hb:=zc hb brl;have ow:=zh ow brl;obtain ⟨z0,z1,z2⟩:=zd kP;obtain ⟨l0,l1,l2,l3⟩:=zE kL;rw [HLA.out];(go_wp2_with fail);clear a0 a1 a2 a3 x0 x1 x2 z0 z1 z2 hwl;obtain ⟨x0,x1,x2⟩:=zd kP;refine (zco x _).mono ?_;rintro e w2 ⟨rfl,hbc⟩;have kP:=za kP hbc;have kL:=za kL hbc;have hb:=zc hb hbc;have ow:=zh ow hbc;clear hbc x0 x1 x2 l0 l1 l2 l3;generalize hwe:w2.alloc (Obj.cells #[.int .i64 x.a,.int .i64 x.p,.int .i64 x.b,.int .i64 x.q] 69)=we;have bre:=zb hwe;have kE:=zk hwe;have kP:=za kP bre;have kL:=za kL bre;have hb:=zc hb bre;have ow:=zh ow bre;obtain ⟨x0,x1,x2⟩:=zd kP;obtain ⟨l0,l1,l2,l3⟩:=zE kL;obtain ⟨e0,e1,e2,e3⟩:=zE kE;(go_wp2_with fail);refine (za9 N (k:Int) _ (h.below hb)).mono ?_;rintro e w3 ⟨rfl,hbc⟩;have kP:=za kP hbc;have kL:=za kL hbc;have kE:=za kE hbc;have hb:=zc hb hbc;have ow:=zh ow hbc;clear hbc x0 x1 x2 l0 l1 l2 l3 e0 e1 e2 e3;obtain ⟨x0,x1,x2⟩:=zd kP;obtain ⟨l0,l1,l2,l3⟩:=zE kL;obtain ⟨e0,e1,e2,e3⟩:=zE kE;cases hU:zT N.brs N.ls (k:Int)
   ·have HF:=hide (zgW (show liveK N.brs N.ls k=false by unfold liveK; rw [hU]; rfl));clear hU hx;have HO:=hide ow;have HP:=hide kP;have HB:=hide hb;clear ow kP hb;go_wp2
    go_roundw
    case rel=>exact ⟨k+1,ao,cap,by omega,by go_num,by rw [HF.out],by rw [HF.out]; exact HO.out,by rw [← HLA.out]; exact HP.out,HB.out⟩
    case measure=>simp [intOf]; omega
   ·obtain ⟨i',ip,j,jq,A,B,pA,pB,rfl,hA,hB,hpA,hpB⟩:=zbx hx hU;obtain ⟨yA,hyA,rfl⟩:=zgg hA;obtain ⟨yB,hyB,rfl⟩:=zgg hB;have HK:Hid (liveK N.brs N.ls k=(bitOf (zah yA.B.id yA.B.ports) (ip:Int) && bitOf (zah yB.B.id yB.B.ports) (jq:Int))):=hide (by unfold liveK; rw [hU,hx]; simp only [zeO,Int.toNat_natCast,hA,hB,Bool.true_and]);have HY:=hide (And.intro hyA hyB);have HRG:=hide (hrg _ (List.mem_of_getElem? hx));clear hU hx hA hB hpA hpB hyA hyB;(go_wp2_with fail);refine (zeH N i' ip yA _ (h.below hb) HY.out.1 (by have:=HRG.out; unfold LK.Rng I64 at this; dsimp only at this; omega)).mono ?_;rintro e w4 ⟨rfl,hbc⟩;have kP:=za kP hbc;have kL:=za kL hbc;have kE:=za kE hbc;have hb:=zc hb hbc;have ow:=zh ow hbc;clear hbc x0 x1 x2 l0 l1 l2 l3 e0 e1 e2 e3;obtain ⟨x0,x1,x2⟩:=zd kP;obtain ⟨l0,l1,l2,l3⟩:=zE kL;obtain ⟨e0,e1,e2,e3⟩:=zE kE;cases hq1:bitOf (zah yA.B.id yA.B.ports) (ip:Int)
    ·have HF:=hide (zgW (show liveK N.brs N.ls k=false by rw [HK.out,hq1]; rfl));clear hq1;have HO:=hide ow;have HP:=hide kP;have HB:=hide hb;clear ow kP hb;go_wp2
     go_roundw
     case rel=>exact ⟨k+1,ao,cap,by omega,by go_num,by rw [HF.out],by rw [HF.out]; exact HO.out,by rw [← HLA.out]; exact HP.out,HB.out⟩
     case measure=>simp [intOf]; omega
    ·(go_wp2_with fail);refine (zeH N j jq yB _ (h.below hb) HY.out.2 (by have:=HRG.out; unfold LK.Rng I64 at this; dsimp only at this; omega)).mono ?_;rintro e w5 ⟨rfl,hbc⟩;have kP:=za kP hbc;have kL:=za kL hbc;have kE:=za kE hbc;have hb:=zc hb hbc;have ow:=zh ow hbc;clear hbc x0 x1 x2 l0 l1 l2 l3 e0 e1 e2 e3;obtain ⟨x0,x1,x2⟩:=zd kP;obtain ⟨l0,l1,l2,l3⟩:=zE kL;obtain ⟨e0,e1,e2,e3⟩:=zE kE;cases hq2:bitOf (zah yB.B.id yB.B.ports) (jq:Int)
     ·have HF:=hide (zgW (show liveK N.brs N.ls k=false by rw [HK.out,hq1,hq2]; rfl));clear hq1 hq2;have HO:=hide ow;have HP:=hide kP;have HB:=hide hb;clear ow kP hb;go_wp2
      go_roundw
      case rel=>exact ⟨k+1,ao,cap,by omega,by go_num,by rw [HF.out],by rw [HF.out]; exact HO.out,by rw [← HLA.out]; exact HP.out,HB.out⟩
      case measure=>simp [intOf]; omega
     ·have HF:=hide (zjo (show liveK N.brs N.ls k=true by rw [HK.out,hq1,hq2]; rfl));clear hq1 hq2;generalize hwa:w5.alloc (Obj.cells #[Value.int .i64 k] 3)=wa;have bra:=zb hwa;have ka:=zk hwa;have gone:GRow intF wa (some ⟨w5.heap.size,0,none⟩) 1 1 [(k:Int)]:=zC (F:=intF) (zc7 intF (x:=(k:Int)) (base:=0) ka rfl (Nat.zero_le _));have hI2:=zh ow bra;have HBA:=hide (zc hb bra);have KPA:=hide (za kP bra);clear ow hb kP;generalize hq:(zY N.brs N.ls k).length=q at *;go_wp2_with (at_builtin; refine zK (F:=intF) _ rfl _ _ 35 3 rfl w.heap.size Tryz.underlying35 Tryz.infoI64 rfl (by decide) _ q (zY N.brs N.ls k) rfl hI2 (some ⟨w5.heap.size,0,none⟩) 1 1 [(k:Int)] rfl gone (by have:=HLQ.out; omega) HBA.out.size ?_)
      intro a7 c7 w7 how hr hgr hb7;have HB7:=hide (HBA.out.trans hb7);have KP7:=hide (ze KPA.out hgr (fun b e=>zA hI2 KPA.out (by decide) b e));have HQ1:Hid ((zY N.brs N.ls (k+1)).length=q+1):=hide (by rw [HF.out,List.length_append,hq]; rfl);rw [← HF.out] at how;have HO:=hide how;clear how hr hgr hb7 hI2 gone ka hq;go_wp2
      go_roundw
      case rel=>exact ⟨k+1,a7,c7,by omega,by go_num,by rw [HQ1.out],by rw [HQ1.out]; exact HO.out,by rw [← HLA.out]; exact KP7.out,HB7.out⟩
      case measure=>simp [intOf]; omega
  ·have hkn:k=N.ln:=by omega
   subst hkn;have HO:=hide ow;have HB:=hide hb;clear ow hb;go_wp2;go_ret;exact ⟨ao,cap,rfl,HO.out,HB.out⟩

def endW (K:Int) (x:BV):Int:=K+1+1+8*x.n+5*x.fn+3*x.rn+x.on
def markV (K:Int) (x:BV):BV:={ x with B:=⟨K,mtx (K+1),znE (K+1+1) x.n,znD (K+1+1+8*x.n) x.fn,⟨znF (K+1+1+8*x.n+5*x.fn) x.rn,znH (K+1+1+8*x.n+5*x.fn+3*x.rn) x.on⟩,endW K x,endW K x+1,endW K x+1+1,endW K x+1+1+1,endW K x+1+1+1+1⟩ }
def endV (K:Int) (x:BV):Int:=endW K x+1+1+1+1+1
def znG:Int→List BV→List BV
 | _,[]=>[]
 | k,x::r=>markV k x::znG (endV k x) r
def endVs:Int→List BV→Int
 | k,[]=>k
 | k,x::r=>endVs (endV k x) r

def BV.Tiny (x:BV):Prop:=x.n≤64∧x.fn≤64∧x.rn≤64∧x.on≤64
theorem zmP {K:Int} {x:BV} (h:x.Tiny):K < endV K x∧endV K x≤K+2048:=by
 obtain ⟨h1,h2,h3,h4⟩:=h;unfold endV endW;omega
theorem znO (a:List BV):(∀x∈a,x.Tiny)→∀K,K≤endVs K a∧endVs K a≤K+2048*a.length:=by
 induction a with
 | nil=>intro _ K; simp [endVs]
 | cons y r ih =>
  intro h K;have h1:=zmP (K:=K) (h y (by simp));have h2:=ih (fun x hx=>h x (by simp [hx])) (endV K y);simp only [endVs,List.length_cons];omega

end Go.Proofs.YtkaefmfopejbaaaGreat
