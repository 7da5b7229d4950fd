/-
  Packed: MibWor MibCo MibOwn.
-/
import Derived.Test.YtcpdkcdfnpcemabGreatPGK14
import Derived.Laws.EntriesVeiled
import Derived.Shelf.Abstract
namespace Go.Proofs.YtcpdkcdfnpcemabGreat
set_option maxRecDepth 100000
set_option maxHeartbeats 16000000
open Go.RowKit

theorem zH (x:Int) (w:World) :
  Calls Tryz.prog 171 #[.int .i64 x] w fun e w'=>e=.returned (.agg #[.int .i64 2,.int .i64 x,.string ⟨#[]⟩,.slice none 0 0])∧Below w.heap.size w w':=by
 go_enter Tryz.func171,Tryz.ntmps171;go_wp2;exact bodyPost_ret (v:=.agg #[.int .i64 2,.int .i64 x,.string ⟨#[]⟩,.slice none 0 0]) (by simp [results,Tryz.results171,go_sem]) rfl ⟨rfl,zg _ _⟩

theorem zfp (q:Bool) (w:World) :
  Calls Tryz.prog 177 #[.bool q] w fun e w'=>e=.returned (.int .i64 (if q=true then 1 else 0))∧w'=w:=by
 cases q
 ·go_enter Tryz.func177,Tryz.ntmps177;go_wp2;go_ret;exact ⟨rfl,rfl⟩
 ·go_enter Tryz.func177,Tryz.ntmps177;go_wp2;go_ret;exact ⟨rfl,rfl⟩

theorem zbc (x:Int) (hx:0≤x∧x≤1000) (w:World) :
  Calls Tryz.prog 175 #[.int .i64 x] w fun e w'=>e=.returned (.int .i64 (x+1))∧w'=w:=by
 have e1:IntKind.i64.wrap (x+1)=x+1:=by rw [IntKind.wrap_i64]; omega
 go_enter Tryz.func175,Tryz.ntmps175;go_wp2;go_ret;exact ⟨by first | rfl | (simp [e1]),rfl⟩

theorem zf6 (a:Option Addr) (n c:Nat) (fa:Option Addr) (fn fc:Nat) (ra:Option Addr) (rn rc:Nat) (oa:Option Addr) (on oc:Nat) (B:BR) (p:Int) (g:Nat) (w:World) (kb:w.heap[g]? = some (.cells #[.int .i64 B.id,.string B.name,.slice a n c,.slice fa fn fc,.slice ra rn rc,.slice oa on oc,.int .i64 B.ticks,.int .i64 B.parse,.int .i64 B.word,.int .i64 B.drops,.int .i64 B.vers] 40)) :
  Calls Tryz.prog 169 #[.int .i64 p,.pointer (some ⟨g,0,none⟩)] w fun e w'=>e=.returned (.agg #[.int .i64 4,.int .i64 0,.string B.name,.slice none 0 0])∧Below w.heap.size w w':=by
 generalize hw1:w.alloc (Obj.cells #[.int .i64 0,.int .i64 0,.string ⟨#[]⟩,.slice none 0 0] 32)=w1;have b1:=zb hw1;have k1:=zk hw1;obtain ⟨⟨p0,p1,p2,p3⟩,f0,f1,f2,f3⟩:=zK k1;obtain ⟨x0,x1,x2,x3,x4,x5,x6,x7,x8,x9,x10⟩:=zh (zd kb b1);go_enter Tryz.func169,Tryz.ntmps169;have HB:=hide b1;go_wp2;refine bodyPost_ret (v:=.agg #[.int .i64 4,.int .i64 0,.string B.name,.slice none 0 0]) (by simp [results,Tryz.results169,go_sem, *]) rfl ⟨rfl,zJ HB.out (Nat.le_refl _) _ _ _ _⟩

theorem zf7 (a:Option Addr) (n c:Nat) (fa:Option Addr) (fn fc:Nat) (ra:Option Addr) (rn rc:Nat) (oa:Option Addr) (on oc:Nat) (B:BR) (p:Int) (g:Nat) (w:World) (kb:w.heap[g]? = some (.cells #[.int .i64 B.id,.string B.name,.slice a n c,.slice fa fn fc,.slice ra rn rc,.slice oa on oc,.int .i64 B.ticks,.int .i64 B.parse,.int .i64 B.word,.int .i64 B.drops,.int .i64 B.vers] 40)) :
  Calls Tryz.prog 170 #[.int .i64 p,.pointer (some ⟨g,0,none⟩)] w fun e w'=>e=.returned (.agg #[.int .i64 2,.int .i64 B.ticks,.string ⟨#[]⟩,.slice none 0 0])∧Below w.heap.size w w':=by
 generalize hw1:w.alloc (Obj.cells #[.int .i64 0,.int .i64 0,.string ⟨#[]⟩,.slice none 0 0] 32)=w1;have b1:=zb hw1;have k1:=zk hw1;obtain ⟨⟨p0,p1,p2,p3⟩,f0,f1,f2,f3⟩:=zK k1;obtain ⟨x0,x1,x2,x3,x4,x5,x6,x7,x8,x9,x10⟩:=zh (zd kb b1);go_enter Tryz.func170,Tryz.ntmps170;go_wp2_with fail
 refine (zH B.ticks _).mono ?_;rintro e w2 ⟨rfl,hb2⟩;have HB:=hide (ze b1 hb2);have k2:=zd k1 hb2;clear p0 p1 p2 p3 f0 f1 f2 f3;obtain ⟨⟨p0,p1,p2,p3⟩,f0,f1,f2,f3⟩:=zK k2;go_wp2;refine bodyPost_ret (v:=.agg #[.int .i64 2,.int .i64 B.ticks,.string ⟨#[]⟩,.slice none 0 0]) (by simp [results,Tryz.results170,go_sem, *]) rfl ⟨rfl,zJ HB.out (Nat.le_refl _) _ _ _ _⟩

theorem zf8 (a:Option Addr) (n c:Nat) (fa:Option Addr) (fn fc:Nat) (ra:Option Addr) (rn rc:Nat) (oa:Option Addr) (on oc:Nat) (B:BR) (p:Int) (g:Nat) (w:World) (kb:w.heap[g]? = some (.cells #[.int .i64 B.id,.string B.name,.slice a n c,.slice fa fn fc,.slice ra rn rc,.slice oa on oc,.int .i64 B.ticks,.int .i64 B.parse,.int .i64 B.word,.int .i64 B.drops,.int .i64 B.vers] 40)) :
  Calls Tryz.prog 172 #[.int .i64 p,.pointer (some ⟨g,0,none⟩)] w fun e w'=>e=.returned (.agg #[.int .i64 2,.int .i64 B.parse,.string ⟨#[]⟩,.slice none 0 0])∧Below w.heap.size w w':=by
 generalize hw1:w.alloc (Obj.cells #[.int .i64 0,.int .i64 0,.string ⟨#[]⟩,.slice none 0 0] 32)=w1;have b1:=zb hw1;have k1:=zk hw1;obtain ⟨⟨p0,p1,p2,p3⟩,f0,f1,f2,f3⟩:=zK k1;obtain ⟨x0,x1,x2,x3,x4,x5,x6,x7,x8,x9,x10⟩:=zh (zd kb b1);go_enter Tryz.func172,Tryz.ntmps172;go_wp2_with fail
 refine (zH B.parse _).mono ?_;rintro e w2 ⟨rfl,hb2⟩;have HB:=hide (ze b1 hb2);have k2:=zd k1 hb2;clear p0 p1 p2 p3 f0 f1 f2 f3;obtain ⟨⟨p0,p1,p2,p3⟩,f0,f1,f2,f3⟩:=zK k2;go_wp2;refine bodyPost_ret (v:=.agg #[.int .i64 2,.int .i64 B.parse,.string ⟨#[]⟩,.slice none 0 0]) (by simp [results,Tryz.results172,go_sem, *]) rfl ⟨rfl,zJ HB.out (Nat.le_refl _) _ _ _ _⟩

theorem zf9 (a:Option Addr) (n c:Nat) (fa:Option Addr) (fn fc:Nat) (ra:Option Addr) (rn rc:Nat) (oa:Option Addr) (on oc:Nat) (B:BR) (p:Int) (g:Nat) (w:World) (kb:w.heap[g]? = some (.cells #[.int .i64 B.id,.string B.name,.slice a n c,.slice fa fn fc,.slice ra rn rc,.slice oa on oc,.int .i64 B.ticks,.int .i64 B.parse,.int .i64 B.word,.int .i64 B.drops,.int .i64 B.vers] 40)) :
  Calls Tryz.prog 173 #[.int .i64 p,.pointer (some ⟨g,0,none⟩)] w fun e w'=>e=.returned (.agg #[.int .i64 2,.int .i64 B.word,.string ⟨#[]⟩,.slice none 0 0])∧Below w.heap.size w w':=by
 generalize hw1:w.alloc (Obj.cells #[.int .i64 0,.int .i64 0,.string ⟨#[]⟩,.slice none 0 0] 32)=w1;have b1:=zb hw1;have k1:=zk hw1;obtain ⟨⟨p0,p1,p2,p3⟩,f0,f1,f2,f3⟩:=zK k1;obtain ⟨x0,x1,x2,x3,x4,x5,x6,x7,x8,x9,x10⟩:=zh (zd kb b1);go_enter Tryz.func173,Tryz.ntmps173;go_wp2_with fail
 refine (zH B.word _).mono ?_;rintro e w2 ⟨rfl,hb2⟩;have HB:=hide (ze b1 hb2);have k2:=zd k1 hb2;clear p0 p1 p2 p3 f0 f1 f2 f3;obtain ⟨⟨p0,p1,p2,p3⟩,f0,f1,f2,f3⟩:=zK k2;go_wp2;refine bodyPost_ret (v:=.agg #[.int .i64 2,.int .i64 B.word,.string ⟨#[]⟩,.slice none 0 0]) (by simp [results,Tryz.results173,go_sem, *]) rfl ⟨rfl,zJ HB.out (Nat.le_refl _) _ _ _ _⟩

theorem zga (a:Option Addr) (n c:Nat) (fa:Option Addr) (fn fc:Nat) (ra:Option Addr) (rn rc:Nat) (oa:Option Addr) (on oc:Nat) (B:BR) (p:Int) (g:Nat) (w:World) (kb:w.heap[g]? = some (.cells #[.int .i64 B.id,.string B.name,.slice a n c,.slice fa fn fc,.slice ra rn rc,.slice oa on oc,.int .i64 B.ticks,.int .i64 B.parse,.int .i64 B.word,.int .i64 B.drops,.int .i64 B.vers] 40)) :
  Calls Tryz.prog 174 #[.int .i64 p,.pointer (some ⟨g,0,none⟩)] w fun e w'=>e=.returned (.agg #[.int .i64 2,.int .i64 B.drops,.string ⟨#[]⟩,.slice none 0 0])∧Below w.heap.size w w':=by
 generalize hw1:w.alloc (Obj.cells #[.int .i64 0,.int .i64 0,.string ⟨#[]⟩,.slice none 0 0] 32)=w1;have b1:=zb hw1;have k1:=zk hw1;obtain ⟨⟨p0,p1,p2,p3⟩,f0,f1,f2,f3⟩:=zK k1;obtain ⟨x0,x1,x2,x3,x4,x5,x6,x7,x8,x9,x10⟩:=zh (zd kb b1);go_enter Tryz.func174,Tryz.ntmps174;go_wp2_with fail
 refine (zH B.drops _).mono ?_;rintro e w2 ⟨rfl,hb2⟩;have HB:=hide (ze b1 hb2);have k2:=zd k1 hb2;clear p0 p1 p2 p3 f0 f1 f2 f3;obtain ⟨⟨p0,p1,p2,p3⟩,f0,f1,f2,f3⟩:=zK k2;go_wp2;refine bodyPost_ret (v:=.agg #[.int .i64 2,.int .i64 B.drops,.string ⟨#[]⟩,.slice none 0 0]) (by simp [results,Tryz.results174,go_sem, *]) rfl ⟨rfl,zJ HB.out (Nat.le_refl _) _ _ _ _⟩

theorem zfs (a:Option Addr) (n c:Nat) (fa:Option Addr) (fn fc:Nat) (ra:Option Addr) (rn rc:Nat) (oa:Option Addr) (on oc:Nat) (B:BR) (j:Nat) (g:Nat) (w:World) (kb:w.heap[g]? = some (.cells #[.int .i64 B.id,.string B.name,.slice a n c,.slice fa fn fc,.slice ra rn rc,.slice oa on oc,.int .i64 B.ticks,.int .i64 B.parse,.int .i64 B.word,.int .i64 B.drops,.int .i64 B.vers] 40)) (hp:GRow ptF w a n c B.ports) (x:PT) (hx:B.ports[j]? = some x) :
  Calls Tryz.prog 176 #[.int .i64 (j:Int),.pointer (some ⟨g,0,none⟩)] w fun e w'=>e=.returned (.agg #[.int .i64 2,.int .i64 (portW B 1 j x),.string ⟨#[]⟩,.slice none 0 0])∧Below w.heap.size w w':=by
 generalize hw1:w.alloc (Obj.cells #[.int .i64 0,.int .i64 0,.string ⟨#[]⟩,.slice none 0 0] 32)=w1;have b1:=zb hw1;have k1:=zk hw1;obtain ⟨⟨p0,p1,p2,p3⟩,f0,f1,f2,f3⟩:=zK k1;obtain ⟨x0,x1,x2,x3,x4,x5,x6,x7,x8,x9,x10⟩:=zh (zd kb b1);have hj:j < n:=by have:=(List.getElem?_eq_some_iff.1 hx).1; have:=hp.size; omega
 have hle:=hp.le;obtain ⟨y,b,off,hy,rfl,c0,c1,c2,c3,c4,c5,c6,c7⟩:=pt_at (hp.below b1) j hj;rw [hx] at hy;cases hy;have hj':(j:Int) < (n:Int):=by omega
 have hW:portW B 1 j x=if x.up=true then 1 else 0:=by unfold portW; rw [if_pos rfl]
 have HW:=hide hW;clear hW hx hp;go_enter Tryz.func176,Tryz.ntmps176;go_wp2_with fail
 refine (zfp x.up _).mono ?_;rintro e w3 ⟨rfl,ew⟩;obtain rfl:=ew.symm;rw [← HW.out];go_wp2_with fail
 refine (zH (portW B 1 j x) _).mono ?_;rintro e w2 ⟨rfl,hb2⟩;have HB:=hide (ze b1 hb2);have k2:=zd k1 hb2;clear p0 p1 p2 p3 f0 f1 f2 f3;obtain ⟨⟨p0,p1,p2,p3⟩,f0,f1,f2,f3⟩:=zK k2;go_wp2;refine bodyPost_ret (v:=.agg #[.int .i64 2,.int .i64 (portW B 1 j x),.string ⟨#[]⟩,.slice none 0 0]) (by simp [results,Tryz.results176,go_sem, *]) rfl ⟨rfl,zJ HB.out (Nat.le_refl _) _ _ _ _⟩

theorem zft (a:Option Addr) (n c:Nat) (fa:Option Addr) (fn fc:Nat) (ra:Option Addr) (rn rc:Nat) (oa:Option Addr) (on oc:Nat) (B:BR) (j:Nat) (g:Nat) (w:World) (kb:w.heap[g]? = some (.cells #[.int .i64 B.id,.string B.name,.slice a n c,.slice fa fn fc,.slice ra rn rc,.slice oa on oc,.int .i64 B.ticks,.int .i64 B.parse,.int .i64 B.word,.int .i64 B.drops,.int .i64 B.vers] 40)) (hp:GRow ptF w a n c B.ports) (x:PT) (hx:B.ports[j]? = some x) :
  Calls Tryz.prog 178 #[.int .i64 (j:Int),.pointer (some ⟨g,0,none⟩)] w fun e w'=>e=.returned (.agg #[.int .i64 2,.int .i64 (portW B 2 j x),.string ⟨#[]⟩,.slice none 0 0])∧Below w.heap.size w w':=by
 generalize hw1:w.alloc (Obj.cells #[.int .i64 0,.int .i64 0,.string ⟨#[]⟩,.slice none 0 0] 32)=w1;have b1:=zb hw1;have k1:=zk hw1;obtain ⟨⟨p0,p1,p2,p3⟩,f0,f1,f2,f3⟩:=zK k1;obtain ⟨x0,x1,x2,x3,x4,x5,x6,x7,x8,x9,x10⟩:=zh (zd kb b1);have hj:j < n:=by have:=(List.getElem?_eq_some_iff.1 hx).1; have:=hp.size; omega
 have hle:=hp.le;obtain ⟨y,b,off,hy,rfl,c0,c1,c2,c3,c4,c5,c6,c7⟩:=pt_at (hp.below b1) j hj;rw [hx] at hy;cases hy;have hj':(j:Int) < (n:Int):=by omega
 have hW:portW B 2 j x=x.k:=by unfold portW; rw [if_neg (by decide),if_pos rfl]
 rw [hW];clear hW hx hp;go_enter Tryz.func178,Tryz.ntmps178;go_wp2_with fail
 refine (zH x.k _).mono ?_;rintro e w2 ⟨rfl,hb2⟩;have HB:=hide (ze b1 hb2);have k2:=zd k1 hb2;clear p0 p1 p2 p3 f0 f1 f2 f3;obtain ⟨⟨p0,p1,p2,p3⟩,f0,f1,f2,f3⟩:=zK k2;go_wp2;refine bodyPost_ret (v:=.agg #[.int .i64 2,.int .i64 x.k,.string ⟨#[]⟩,.slice none 0 0]) (by simp [results,Tryz.results178,go_sem, *]) rfl ⟨rfl,zJ HB.out (Nat.le_refl _) _ _ _ _⟩

theorem zfu (a:Option Addr) (n c:Nat) (fa:Option Addr) (fn fc:Nat) (ra:Option Addr) (rn rc:Nat) (oa:Option Addr) (on oc:Nat) (B:BR) (j:Nat) (g:Nat) (w:World) (kb:w.heap[g]? = some (.cells #[.int .i64 B.id,.string B.name,.slice a n c,.slice fa fn fc,.slice ra rn rc,.slice oa on oc,.int .i64 B.ticks,.int .i64 B.parse,.int .i64 B.word,.int .i64 B.drops,.int .i64 B.vers] 40)) (hp:GRow ptF w a n c B.ports) (x:PT) :
  Calls Tryz.prog 179 #[.int .i64 (j:Int),.pointer (some ⟨g,0,none⟩)] w fun e w'=>e=.returned (.agg #[.int .i64 2,.int .i64 (portW B 3 j x),.string ⟨#[]⟩,.slice none 0 0])∧Below w.heap.size w w':=by
 generalize hw1:w.alloc (Obj.cells #[.int .i64 0,.int .i64 0,.string ⟨#[]⟩,.slice none 0 0] 32)=w1;have b1:=zb hw1;have k1:=zk hw1;obtain ⟨⟨p0,p1,p2,p3⟩,f0,f1,f2,f3⟩:=zK k1;obtain ⟨x0,x1,x2,x3,x4,x5,x6,x7,x8,x9,x10⟩:=zh (zd kb b1);have hW:portW B 3 j x=z9 B.id B.ports (j:Int):=by unfold portW; rw [if_neg (by decide),if_neg (by decide),if_pos rfl]
 rw [hW];clear hW;go_enter Tryz.func179,Tryz.ntmps179;go_wp2_with fail
 refine (zdw B.id a n c B.ports (j:Int) _ (hp.below b1)).mono ?_;rintro e w3 ⟨rfl,hb1⟩;go_wp2_with fail
 refine (zH (z9 B.id B.ports (j:Int)) _).mono ?_;rintro e w2 ⟨rfl,hb2⟩;have HB:=hide (ze (ze b1 hb1) hb2);have k2:=zd (zd k1 hb1) hb2;clear p0 p1 p2 p3 f0 f1 f2 f3;obtain ⟨⟨p0,p1,p2,p3⟩,f0,f1,f2,f3⟩:=zK k2;go_wp2;refine bodyPost_ret (v:=.agg #[.int .i64 2,.int .i64 (z9 B.id B.ports (j:Int)),.string ⟨#[]⟩,.slice none 0 0]) (by simp [results,Tryz.results179,go_sem, *]) rfl ⟨rfl,zJ HB.out (Nat.le_refl _) _ _ _ _⟩

theorem zfv (a:Option Addr) (n c:Nat) (fa:Option Addr) (fn fc:Nat) (ra:Option Addr) (rn rc:Nat) (oa:Option Addr) (on oc:Nat) (B:BR) (j:Nat) (g:Nat) (w:World) (kb:w.heap[g]? = some (.cells #[.int .i64 B.id,.string B.name,.slice a n c,.slice fa fn fc,.slice ra rn rc,.slice oa on oc,.int .i64 B.ticks,.int .i64 B.parse,.int .i64 B.word,.int .i64 B.drops,.int .i64 B.vers] 40)) (hv:IRow w oa on oc B.v.own) (hj:j < on) (x:PT) :
  Calls Tryz.prog 181 #[.int .i64 (j:Int),.pointer (some ⟨g,0,none⟩)] w fun e w'=>e=.returned (.agg #[.int .i64 2,.int .i64 (portW B 4 j x),.string ⟨#[]⟩,.slice none 0 0])∧Below w.heap.size w w':=by
 generalize hw1:w.alloc (Obj.cells #[.int .i64 0,.int .i64 0,.string ⟨#[]⟩,.slice none 0 0] 32)=w1;have b1:=zb hw1;have k1:=zk hw1;obtain ⟨⟨p0,p1,p2,p3⟩,f0,f1,f2,f3⟩:=zK k1;obtain ⟨x0,x1,x2,x3,x4,x5,x6,x7,x8,x9,x10⟩:=zh (zd kb b1);have hW:portW B 4 j x=B.v.own.getD j 0:=by unfold portW; rw [if_neg (by decide),if_neg (by decide),if_neg (by decide),List.getD_eq_getElem?_getD]
 rw [hW];have hle:=hv.le;obtain ⟨b,off,rfl,hc⟩:=(hv.below b1).at (by omega);have c0:=hc j hj;have hj':(j:Int) < (on:Int):=by omega
 generalize B.v.own.getD j 0=V at *;clear hW hv hc;go_enter Tryz.func181,Tryz.ntmps181;go_wp2_with fail
 refine (zH V _).mono ?_;rintro e w2 ⟨rfl,hb2⟩;have HB:=hide (ze b1 hb2);have k2:=zd k1 hb2;clear p0 p1 p2 p3 f0 f1 f2 f3;obtain ⟨⟨p0,p1,p2,p3⟩,f0,f1,f2,f3⟩:=zK k2;go_wp2;refine bodyPost_ret (v:=.agg #[.int .i64 2,.int .i64 V,.string ⟨#[]⟩,.slice none 0 0]) (by simp [results,Tryz.results181,go_sem, *]) rfl ⟨rfl,zJ HB.out (Nat.le_refl _) _ _ _ _⟩

theorem zgb (p:Int) (w:World) :
  Calls Tryz.prog 182 #[.int .i64 p] w fun e w'=>e=.returned (.agg #[.int .i64 2,.int .i64 1,.string ⟨#[]⟩,.slice none 0 0])∧Below w.heap.size w w':=by
 generalize hw1:w.alloc (Obj.cells #[.int .i64 0,.int .i64 0,.string ⟨#[]⟩,.slice none 0 0] 32)=w1;have b1:=zb hw1;have k1:=zk hw1;obtain ⟨⟨p0,p1,p2,p3⟩,f0,f1,f2,f3⟩:=zK k1;go_enter Tryz.func182,Tryz.ntmps182;go_wp2_with fail
 refine (zH 1 _).mono ?_;rintro e w2 ⟨rfl,hb2⟩;have HB:=hide (ze b1 hb2);have k2:=zd k1 hb2;clear p0 p1 p2 p3 f0 f1 f2 f3;obtain ⟨⟨p0,p1,p2,p3⟩,f0,f1,f2,f3⟩:=zK k2;go_wp2;refine bodyPost_ret (v:=.agg #[.int .i64 2,.int .i64 1,.string ⟨#[]⟩,.slice none 0 0]) (by simp [results,Tryz.results182,go_sem, *]) rfl ⟨rfl,zJ HB.out (Nat.le_refl _) _ _ _ _⟩

theorem zgc (a:Option Addr) (n c:Nat) (fa:Option Addr) (fn fc:Nat) (ra:Option Addr) (rn rc:Nat) (oa:Option Addr) (on oc:Nat) (B:BR) (j:Nat) (g:Nat) (w:World) (kb:w.heap[g]? = some (.cells #[.int .i64 B.id,.string B.name,.slice a n c,.slice fa fn fc,.slice ra rn rc,.slice oa on oc,.int .i64 B.ticks,.int .i64 B.parse,.int .i64 B.word,.int .i64 B.drops,.int .i64 B.vers] 40)) (hp:GRow vrowF w ra rn rc B.v.rows) (x:VR) (hx:B.v.rows[j]? = some x) :
  Calls Tryz.prog 183 #[.int .i64 (j:Int),.pointer (some ⟨g,0,none⟩)] w fun e w'=>e=.returned (.agg #[.int .i64 2,.int .i64 x.m,.string ⟨#[]⟩,.slice none 0 0])∧Below w.heap.size w w':=by
 generalize hw1:w.alloc (Obj.cells #[.int .i64 0,.int .i64 0,.string ⟨#[]⟩,.slice none 0 0] 32)=w1;have b1:=zb hw1;have k1:=zk hw1;obtain ⟨⟨p0,p1,p2,p3⟩,f0,f1,f2,f3⟩:=zK k1;obtain ⟨x0,x1,x2,x3,x4,x5,x6,x7,x8,x9,x10⟩:=zh (zd kb b1);have hj:j < rn:=by have:=(List.getElem?_eq_some_iff.1 hx).1; have:=hp.size; omega
 have hle:=hp.le;obtain ⟨y,b,off,hy,rfl,c0,c1,c2⟩:=zak (hp.below b1) j hj;rw [hx] at hy;cases hy;have hj':(j:Int) < (rn:Int):=by omega
 clear hx hp;go_enter Tryz.func183,Tryz.ntmps183;go_wp2_with fail
 refine (zH x.m _).mono ?_;rintro e w2 ⟨rfl,hb2⟩;have HB:=hide (ze b1 hb2);have k2:=zd k1 hb2;clear p0 p1 p2 p3 f0 f1 f2 f3;obtain ⟨⟨p0,p1,p2,p3⟩,f0,f1,f2,f3⟩:=zK k2;go_wp2;refine bodyPost_ret (v:=.agg #[.int .i64 2,.int .i64 x.m,.string ⟨#[]⟩,.slice none 0 0]) (by simp [results,Tryz.results183,go_sem, *]) rfl ⟨rfl,zJ HB.out (Nat.le_refl _) _ _ _ _⟩

theorem zgd (a:Option Addr) (n c:Nat) (fa:Option Addr) (fn fc:Nat) (ra:Option Addr) (rn rc:Nat) (oa:Option Addr) (on oc:Nat) (B:BR) (j:Nat) (g:Nat) (w:World) (kb:w.heap[g]? = some (.cells #[.int .i64 B.id,.string B.name,.slice a n c,.slice fa fn fc,.slice ra rn rc,.slice oa on oc,.int .i64 B.ticks,.int .i64 B.parse,.int .i64 B.word,.int .i64 B.drops,.int .i64 B.vers] 40)) (hp:GRow vrowF w ra rn rc B.v.rows) (x:VR) (hx:B.v.rows[j]? = some x) :
  Calls Tryz.prog 184 #[.int .i64 (j:Int),.pointer (some ⟨g,0,none⟩)] w fun e w'=>e=.returned (.agg #[.int .i64 2,.int .i64 x.b,.string ⟨#[]⟩,.slice none 0 0])∧Below w.heap.size w w':=by
 generalize hw1:w.alloc (Obj.cells #[.int .i64 0,.int .i64 0,.string ⟨#[]⟩,.slice none 0 0] 32)=w1;have b1:=zb hw1;have k1:=zk hw1;obtain ⟨⟨p0,p1,p2,p3⟩,f0,f1,f2,f3⟩:=zK k1;obtain ⟨x0,x1,x2,x3,x4,x5,x6,x7,x8,x9,x10⟩:=zh (zd kb b1);have hj:j < rn:=by have:=(List.getElem?_eq_some_iff.1 hx).1; have:=hp.size; omega
 have hle:=hp.le;obtain ⟨y,b,off,hy,rfl,c0,c1,c2⟩:=zak (hp.below b1) j hj;rw [hx] at hy;cases hy;have hj':(j:Int) < (rn:Int):=by omega
 clear hx hp;go_enter Tryz.func184,Tryz.ntmps184;go_wp2_with fail
 refine (zH x.b _).mono ?_;rintro e w2 ⟨rfl,hb2⟩;have HB:=hide (ze b1 hb2);have k2:=zd k1 hb2;clear p0 p1 p2 p3 f0 f1 f2 f3;obtain ⟨⟨p0,p1,p2,p3⟩,f0,f1,f2,f3⟩:=zK k2;go_wp2;refine bodyPost_ret (v:=.agg #[.int .i64 2,.int .i64 x.b,.string ⟨#[]⟩,.slice none 0 0]) (by simp [results,Tryz.results184,go_sem, *]) rfl ⟨rfl,zJ HB.out (Nat.le_refl _) _ _ _ _⟩

theorem zfT (a:Option Addr) (n c:Nat) (fa:Option Addr) (fn fc:Nat) (ra:Option Addr) (rn rc:Nat) (oa:Option Addr) (on oc:Nat) (B:BR) (j:Nat) (g:Nat) (w:World) (kb:w.heap[g]? = some (.cells #[.int .i64 B.id,.string B.name,.slice a n c,.slice fa fn fc,.slice ra rn rc,.slice oa on oc,.int .i64 B.ticks,.int .i64 B.parse,.int .i64 B.word,.int .i64 B.drops,.int .i64 B.vers] 40)) (hp:GRow fentF w fa fn fc B.f) (x:FE) (hx:B.f[j]? = some x) (h0:0≤x.p∧x.p≤7) :
  Calls Tryz.prog 185 #[.int .i64 (j:Int),.pointer (some ⟨g,0,none⟩)] w fun e w'=>e=.returned (.agg #[.int .i64 2,.int .i64 (x.p+1),.string ⟨#[]⟩,.slice none 0 0])∧Below w.heap.size w w':=by
 generalize hw1:w.alloc (Obj.cells #[.int .i64 0,.int .i64 0,.string ⟨#[]⟩,.slice none 0 0] 32)=w1;have b1:=zb hw1;have k1:=zk hw1;obtain ⟨⟨p0,p1,p2,p3⟩,f0,f1,f2,f3⟩:=zK k1;obtain ⟨x0,x1,x2,x3,x4,x5,x6,x7,x8,x9,x10⟩:=zh (zd kb b1);have hj:j < fn:=by have:=(List.getElem?_eq_some_iff.1 hx).1; have:=hp.size; omega
 have hle:=hp.le;obtain ⟨y,b,off,hy,rfl,c0,c1,c2,c3,c4⟩:=zaK (hp.below b1) j hj;rw [hx] at hy;cases hy;have hj':(j:Int) < (fn:Int):=by omega
 clear hx hp;go_enter Tryz.func185,Tryz.ntmps185;go_wp2_with fail
 refine (zbc x.p (by omega) _).mono ?_;rintro e w3 ⟨rfl,ew⟩;obtain rfl:=ew.symm;go_wp2_with fail
 refine (zH (x.p+1) _).mono ?_;rintro e w2 ⟨rfl,hb2⟩;have HB:=hide (ze b1 hb2);have k2:=zd k1 hb2;clear p0 p1 p2 p3 f0 f1 f2 f3;obtain ⟨⟨p0,p1,p2,p3⟩,f0,f1,f2,f3⟩:=zK k2;go_wp2;refine bodyPost_ret (v:=.agg #[.int .i64 2,.int .i64 (x.p+1),.string ⟨#[]⟩,.slice none 0 0]) (by simp [results,Tryz.results185,go_sem, *]) rfl ⟨rfl,zJ HB.out (Nat.le_refl _) _ _ _ _⟩

def Tells (w:World) (f:Nat) (caps:Array Value) (j:Nat) (K N:Int) (S:ByteArray):Prop :=
 Calls Tryz.prog f (#[.int .i64 (j:Int)]++caps) w fun e w'=>e=.returned (.agg #[.int .i64 K,.int .i64 N,.string S,.slice none 0 0])∧Below w.heap.size w w'

theorem zfM (f:Nat) (caps:Array Value) (j:Nat) (K N:Int) (S:ByteArray) (wb pb:Nat) (w:World) (h:∀w',Below w.heap.size w w'→Tells w' f caps j K N S) (c0:w.cell? ⟨wb,0,none⟩=some (.func (.func f) #[] caps)) (c1:w.cell? ⟨pb,0,none⟩=some (.int .i64 (j:Int))) (he:∀args w,(callFunc f args).run Tryz.prog w=.ok (.enter f args) w) :
  Calls Tryz.prog 205 #[.pointer (some ⟨wb,0,none⟩),.pointer (some ⟨pb,0,none⟩)] w fun e w'=>e=.returned (.agg #[.int .i64 K,.int .i64 N,.string S,.slice none 0 0])∧Below w.heap.size w w':=by
 generalize hw1:w.alloc (Obj.cells #[.int .i64 0,.int .i64 0,.string ⟨#[]⟩,.slice none 0 0] 32)=w1;have b1:=zb hw1;have k1:=zk hw1;obtain ⟨⟨p0,p1,p2,p3⟩,f0,f1,f2,f3⟩:=zK k1;have c0:=(b1.cell (zj c0)).trans c0;have c1:=(b1.cell (zj c1)).trans c1;go_enter Tryz.func205,Tryz.ntmps205;go_wp2_with fail
 refine (h _ b1).mono ?_;rintro e w2 ⟨rfl,hb2⟩;have HB:=hide (ze b1 hb2);have k2:=zd k1 hb2;clear p0 p1 p2 p3 f0 f1 f2 f3;obtain ⟨⟨p0,p1,p2,p3⟩,f0,f1,f2,f3⟩:=zK k2;go_wp2;refine bodyPost_ret (v:=.agg #[.int .i64 K,.int .i64 N,.string S,.slice none 0 0]) (by simp [results,Tryz.results205,go_sem, *]) rfl ⟨rfl,zJ HB.out (Nat.le_refl _) _ _ _ _⟩

section
open Go.RowKit

structure CF where
 f:Nat
 caps:Array Value

def clF:Flat CF where
 k:=1
 cs:=fun x=>[.func (.func x.f) #[] x.caps]
 len:=fun _=>rfl
 pos:=by decide
 one:=fun _ v hv=>by
  simp only [List.mem_cons,List.not_mem_nil,or_false] at hv;subst hv
  rfl

theorem cl_at {w:World} {ao:Option Addr} {len cap:Nat} {l:List CF} (h:GRow clF w ao len cap l) (i:Nat) (hi:i < len):∃(x:CF) (b off:Nat),l[i]? = some x∧ao=some ⟨b,off,none⟩∧w.cell? ⟨b,off+i,none⟩=some (.func (.func x.f) #[] x.caps):=by
 obtain ⟨x,b,off,hx,ha,hc⟩:=h.at i hi
 have:=hc 0 _ rfl
 exact ⟨x,b,off,hx,ha,by simpa [clF] using this⟩

def Boxed (w:World) (cl:List CF) (tn:Nat) (G:Nat→Nat→BD) (x:TH):Prop :=
 ∃(i j:Nat) (c:CF),cl[i]? = some c∧j < tn∧x.d=G i j∧w.heap[x.wb]? = some (.cells #[.func (.func c.f) #[] c.caps] 161)∧w.heap[x.pb]? = some (.cells #[.int .i64 (j:Int)] 3)

theorem Boxed.below {w w':World} {cl:List CF} {tn:Nat} {G:Nat→Nat→BD} {x:TH} (h:Boxed w cl tn G x) (hb:Below w.heap.size w w'):Boxed w' cl tn G x:=by
 obtain ⟨i,j,c,h1,h2,h3,h4,h5⟩:=h;exact ⟨i,j,c,h1,h2,h3,zd h4 hb,zd h5 hb⟩

theorem Boxed.grown {w w':World} {cl:List CF} {tn:Nat} {G:Nat→Nat→BD} {x:TH} (h:Boxed w cl tn G x) {base n:Nat} {v:Value} {xs:List Value} (hr:w.ownsRow base 83 2 v n xs) (hg:w.grownBy w' v.ownBlock):Boxed w' cl tn G x:=by
 obtain ⟨i,j,c,h1,h2,h3,h4,h5⟩:=h;have n1:(161:Nat)≠83:=by decide
 have n2:(3:Nat)≠83:=by decide
 exact ⟨i,j,c,h1,h2,h3,zA h4 hg (zaA hr h4 n1),zA h5 hg (zaA hr h5 n2)⟩

structure CoSt (w wr:World) (cl:List CF) (tn:Nat) (G:Nat→Nat→BD) (ao:Option Addr) (cap:Nat) (l:List TH):Prop where
 row:wr.ownsRow w.heap.size 83 2 (.slice ao l.length cap) l.length (thF.all l)
 names:THs wr w.heap.size l
 box:∀x∈l,Boxed wr cl tn G x
 below:Below w.heap.size w wr

section
variable {w wr w' w1:World} {cl:List CF} {tn:Nat} {G:Nat→Nat→BD} {ao ao':Option Addr} {cap cap':Nat} {l:List TH} {y:TH}
theorem CoSt.later (h:CoSt w wr cl tn G ao cap l) (hb:Below wr.heap.size wr w'):CoSt w w' cl tn G ao cap l:=⟨zD h.row hb,h.names.below hb,fun x hx=>(h.box x hx).below hb,ze h.below hb⟩
theorem CoSt.push (h:CoSt w wr cl tn G ao cap l) (hb:Below wr.heap.size wr w1) (hy:w1.ownsRow wr.heap.size 3 1 (.slice y.oa y.on y.oc) y.on (cI y.d.o)) (hz:I64s y.d.o) (hbox:Boxed w1 cl tn G y)
  (hg:w1.grownBy w' (Value.slice ao l.length cap).ownBlock) (hr:w'.ownsRow w.heap.size 83 2 (.slice ao' (l++[y]).length cap') (l++[y]).length (thF.all (l++[y]))):CoSt w w' cl tn G ao' cap' (l++[y]):=by
 have h1:=h.later hb;refine ⟨hr,h.names.push hb hy hz h.below.size h1.row hg, ?_, ?_⟩
 ·intro x hx;rcases List.mem_append.1 hx with hx | hx
  ·exact (h1.box x hx).grown h1.row hg
  ·rw [List.mem_singleton.1 hx];exact hbox.grown h1.row hg
 ·exact h1.below.grown hg h1.below.size (fun k hk=>(h1.row.lt k hk).1)
end

theorem zek (g:Nat→BD):∀k,(rowTo g k).length=k
 | 0=>rfl
 | k+1=>by rw [rowTo,List.length_append,zek g k]; rfl
theorem zez (G:Nat→Nat→BD) (n:Nat) (hn:n≤12):∀k,(zaQ G n k).length≤k*12
 | 0=>Nat.le_refl _
 | k+1=>by
  have:=zez G n hn k
  rw [zaQ,List.length_append,zek,Nat.add_mul];omega

theorem zcl (head col:Int) (w:World):Calls Tryz.prog 151 #[.int .i64 head,.int .i64 col] w fun e w'=>e=.returned (.slice (some ⟨w.heap.size,0,none⟩) 5 5)∧w'=w.alloc (Obj.cells #[.int .i64 1,.int .i64 3,.int .i64 1,.int .i64 head,.int .i64 col] 3):=by
 go_enter Tryz.func151,Tryz.ntmps151;go_wp2;go_ret;exact ⟨rfl,rfl⟩

theorem zam (head:Int) (ta:Option Addr) (tn tc:Nat) (tl:List TL) (g m:Nat) (cl:List CF) (G:Nat→Nat→BD) (w:World) (ht:GRow tlF w ta tn tc tl) (hti:∀t∈tl,IRow w t.a t.n t.c t.z∧t.n≤2) (htn:tn≤12)
  (hc:GRow clF w (some ⟨g,0,none⟩) m m cl) (hm:m≤5) (hh:1≤head∧head≤4) (hG:∀(i j:Nat) t,tl[j]? = some t→(G i j).o=nmI (head::((i:Int)+1)::t.z)) :
  Calls Tryz.prog 168 #[.int .i64 head,.slice ta tn tc,.slice (some ⟨g,0,none⟩) m m] w fun e w'=>∃(ao:Option Addr) (cap:Nat) (l:List TH),e=.returned (.slice ao l.length cap)∧l.map TH.d=zaQ G tn m∧CoSt w w' cl tn G ao cap l:=by
 go_enter Tryz.func168,Tryz.ntmps168;go_wp2_with fail
 go_loopw [7,8,9,10,11,12,15] (fun v7 u8 u9 u10 u11 u12 vk wr=>∃(k:Nat) (ao:Option Addr) (cap:Nat) (l:List TH),v7=.slice ao l.length cap∧vk=.int .i64 (k:Int)∧k≤m∧l.map TH.d=zaQ G tn k∧CoSt w wr cl tn G ao cap l) (fun _ _ _ _ _ _ vk _=>7 - (intOf vk).toNat)
 case atStart=>exact ⟨0,none,0,[],rfl,rfl,Nat.zero_le _,rfl,⟨World.ownsRow_nil _ _ _ _,zfC _ _,(by intro x hx; cases hx),Below.refl _ _⟩⟩
 case round =>
  obtain ⟨k,ao,cap,l,rfl,rfl,hk,hd,st⟩:=hrel;by_cases hkm:k < m
  ·obtain ⟨cf,gb,off,hcf,hga,cc⟩:=cl_at (hc.below st.below) k hkm;cases hga;rw [Nat.zero_add] at cc;have hkm':(k:Int) < (m:Int):=by omega
   have HCF:=hide hcf;have HD:=hide hd;have hk5:(k:Int)≤5:=by omega
   generalize hwz:wr.alloc (Obj.cells #[.nilFunc] 161)=wz;have bz:=zb hwz;have kz:=zk hwz;have cz:wz.cell? ⟨wr.heap.size,0,none⟩=some .nilFunc:=by simp [World.cell?,kz]
   have fz:wz.frozen? ⟨wr.heap.size,0,none⟩=false:=by simp [World.frozen?,kz]
   have cc2:=(bz.cell (zj cc)).trans cc;clear hcf hd;(go_upto_region 5 with fail);generalize hws:wz.setCell ⟨wr.heap.size,0,none⟩ (.func (.func cf.f) #[] cf.caps)=ws;have bs:Below wr.heap.size wr ws:=by rw [← hws]; exact bz.setCell (Nat.le_refl _) _
   have ks:ws.heap[wr.heap.size]? = some (.cells #[.func (.func cf.f) #[] cf.caps] 161):=by
    have:=zr (j:=0) kz (.func (.func cf.f) #[] cf.caps)
    rw [hws] at this
    simpa using this
   have st:=st.later bs;clear cc cc2 cz fz kz bz hwz hws bs;generalize wr.heap.size=WB at *;(go_wp2_with fail)
   go_loopw [7,10,11,12,22] (fun v7 u10 u11 u12 vj wr=>∃(j:Nat) (ao:Option Addr) (cap:Nat) (l:List TH),v7=.slice ao l.length cap∧vj=.int .i64 (j:Int)∧j≤tn∧l.map TH.d=zaQ G tn k++rowTo (G k) j∧CoSt w wr cl tn G ao cap l∧wr.heap[WB]? = some (.cells #[.func (.func cf.f) #[] cf.caps] 161)) (fun _ _ _ _ vj _=>14 - (intOf vj).toNat)
   case atStart=>exact ⟨0,ao,cap,l,rfl,rfl,Nat.zero_le _,by rw [HD.out]; simp [rowTo],st,ks⟩
   case round =>
    clear st ks HD;obtain ⟨j,ao,cap,l,rfl,rfl,hj,hd,st,ks⟩:=hrel;by_cases hjn:j < tn
    ·obtain ⟨t,tb,toff,htj,hta,ct⟩:=tl_at (ht.below st.below) j hjn;have htt:=hti t (List.mem_of_getElem? htj);have hjn':(j:Int) < (tn:Int):=by omega
     have htle:=ht.le;have hj12:(j:Int)≤12:=by omega
     have HG:=hide (hG k j t htj);have HLL:Hid (l.length≤72):=hide (by
      have h1:=congrArg List.length hd;rw [List.length_map,List.length_append,zek] at h1
      have:=zez G tn htn k
      omega)
     have HD:=hide hd;subst hta;generalize hwz:wr.alloc (Obj.cells #[.int .i64 0] 3)=wz;have bz:=zb hwz;have kz:=zk hwz;have cz:wz.cell? ⟨wr.heap.size,0,none⟩=some (.int .i64 0):=by simp [World.cell?,kz]
     have fz:wz.frozen? ⟨wr.heap.size,0,none⟩=false:=by simp [World.frozen?,kz]
     have ct2:=(bz.cell (zj ct)).trans ct;clear hd htj;(go_upto_region 8 with fail);generalize hws:wz.setCell ⟨wr.heap.size,0,none⟩ (.int .i64 (j:Int))=ws;have bs:Below wr.heap.size wr ws:=by rw [← hws]; exact bz.setCell (Nat.le_refl _) _
     have kp:ws.heap[wr.heap.size]? = some (.cells #[.int .i64 (j:Int)] 3):=by
      have:=zr (j:=0) kz (.int .i64 (j:Int))
      rw [hws] at this
      simpa using this
     clear ct ct2 cz fz kz bz hwz hws;have HST:=hide st;have HKR:=hide ks;have HWL:=hide (Array.getElem?_eq_some_iff.1 ks).1;have HIT:=hide htt.1.byte;have HBS:=hide bs;have hir:=((htt.1.below st.below).below bs).flat;have ht2:=htt.2;obtain ⟨PB,hPB⟩:∃PB,PB=wr.heap.size:=⟨_,rfl⟩;have HPB:=hide hPB;rw [← hPB] at kp ⊢;have HKP:=hide kp;clear hPB kp ks st bs htt;(go_wp2_with fail);refine (zcl head ((k:Int)+1) _).mono ?_;rintro e wl ⟨rfl,hwl⟩;have bl:Below ws.heap.size ws wl:=by rw [hwl]; exact zg _ _
     have kl:wl.heap[ws.heap.size]? = some (.cells #[.int .i64 1,.int .i64 3,.int .i64 1,.int .i64 head,.int .i64 ((k:Int)+1)] 3):=by rw [hwl]; exact zz _ _
     have hbase:wr.heap.size≤ws.heap.size:=HBS.out.size;have own:=zab intF (base:=wr.heap.size) (l:=[1,3,1,head,(k:Int)+1]) kl rfl hbase (by simp);have HBL:=hide (ze HBS.out bl);have hirl:=hir.below bl;clear hir hwl;go_wp2_with (at_builtin; refine zy (F:=intF) _ rfl _ _ 25 3 rfl wr.heap.size Tryz.underlying25 Tryz.infoI64 rfl (by decide) _ 5 [1,3,1,head,(k:Int)+1] rfl own t.a t.n t.c t.z rfl hirl (by omega) HBL.out.size ?_)
     intro na nc wn how _ hgr hb;have HB:=hide (HBL.out.trans hb);have hPBl:=(Array.getElem?_eq_some_iff.1 HKP.out).1;have kpn:=zA (zd HKP.out bl) hgr (fun b hb2=>by cases hb2; show ws.heap.size≠PB; omega);have ksn:=(HB.out.block WB HWL.out).trans HKR.out;have hyo:(G k j).o=[1,3,1,head,(k:Int)+1]++t.z:=by rw [HG.out]; rfl
     obtain ⟨y,hy⟩:∃y:TH,y=⟨na,5+t.n,nc,WB,PB,G k j⟩:=⟨_,rfl⟩;have HOY:Hid (wn.ownsRow wr.heap.size 3 1 (.slice y.oa y.on y.oc) y.on (cI y.d.o)):=hide (by rw [hy]; show wn.ownsRow wr.heap.size 3 1 (.slice na (5+t.n) nc) (5+t.n) (cI (G k j).o); rw [hyo,← z7]; exact how);have HIY:Hid (I64s y.d.o):=hide (by rw [hy]; show I64s (G k j).o; rw [hyo]; exact zd6 (by intro z hz; simp at hz; omega) HIT.out);have HBX:Hid (Boxed wn cl tn G y):=hide (by rw [hy]; exact ⟨k,j,cf,HCF.out,hjn,rfl,ksn,kpn⟩);have HYD:Hid (y.d=G k j):=hide (by rw [hy]);clear how hgr hb hPBl hyo hirl own bl kl;generalize hwy:wn.alloc (Obj.cells #[.slice na (5+t.n) nc,.func (.func 205) #[] #[.pointer (some ⟨WB,0,none⟩),.pointer (some ⟨PB,0,none⟩)]] 83)=wy;have by1:=zb hwy;have gone:GRow thF wy (some ⟨wn.heap.size,0,none⟩) 1 1 [y]:=by rw [← hwy]; exact zch thF wn y _ _ (by rw [hy]; rfl)
     have HBY:=hide (ze HB.out by1);have hrow:=(HST.out.later HBY.out).row;have HROW:=hide hrow;have HKY:=hide (zd ksn by1);have HOY1:=hide (zD HOY.out by1);have HBX1:=hide (HBX.out.below by1);have hbw:w.heap.size≤wy.heap.size:=Nat.le_trans HST.out.below.size HBY.out.size;have hl72:=HLL.out;clear by1 hy ksn kpn;go_wp2_with (at_builtin; refine zy (F:=thF) _ rfl _ _ 79 83 rfl w.heap.size Tryz.underlying79 zfB rfl (by decide) _ l.length l rfl hrow (some ⟨wn.heap.size,0,none⟩) 1 1 [y] rfl gone (by omega) hbw ?_)
     intro ao2 cap2 we how2 _ hgr2 _;have HLN:Hid ((l++[y]).length=l.length+1):=hide (by simp);have HST2:=hide (HST.out.push (y:=y) HBY.out HOY1.out HIY.out HBX1.out hgr2 (by rw [HLN.out]; exact how2));have n1:(161:Nat)≠83:=by decide
     have HK2:=hide (zA HKY.out hgr2 (zaA HROW.out HKY.out n1));have HD2:Hid ((l++[y]).map TH.d=zaQ G tn k++rowTo (G k) (j+1)):=hide (by rw [List.map_append,HD.out,List.map_singleton,HYD.out,rowTo,List.append_assoc]);clear how2 hgr2 gone hrow hbw hwy;go_wp2
     go_roundw
     case rel=>exact ⟨j+1,ao2,cap2,l++[y],by rw [HLN.out],by go_num,by omega,HD2.out,HST2.out,HK2.out⟩
     case measure=>simp [intOf]; omega
    ·have hjn':¬(j:Int) < (tn:Int):=by omega
     have hjt:j=tn:=by omega
     have hd2:l.map TH.d=zaQ G tn (k+1):=by rw [hd,hjt]; rfl
     have HD:=hide hd2;have HST:=hide st;clear hd hd2 st ks;go_wp2
     go_roundw
     case rel=>exact ⟨k+1,ao,cap,l,rfl,by go_num,by omega,HD.out,HST.out⟩
     case measure=>simp [intOf]; omega
  ·have hkm':¬(k:Int) < (m:Int):=by omega
   have hkm2:k=m:=by omega
   subst hkm2;have HD:=hide hd;have HST:=hide st;clear hd st;go_wp2;go_ret;exact ⟨ao,cap,l,rfl,HD.out,HST.out⟩

end

section
open Go.RowKit

structure Tails (w:World) (base:Nat) (ao:Option Addr) (cap:Nat) (l:List TL):Prop where
 row:w.ownsRow base 25 1 (.slice ao l.length cap) l.length (tlF.all l)
 item:∀t∈l,w.ownsRow base 3 1 (.slice t.a t.n t.c) t.n (cI t.z)∧I64s t.z∧t.n≤2

section
variable {w w' w1:World} {base:Nat} {ao ao':Option Addr} {cap cap':Nat} {l:List TL} {y:TL}
theorem Tails.below (h:Tails w base ao cap l) (hb:Below w.heap.size w w'):Tails w' base ao cap l:=⟨zD h.row hb,fun t ht=>⟨zY (h.item t ht).1 hb,(h.item t ht).2⟩⟩
theorem Tails.push (h:Tails w base ao cap l) (hb:Below w.heap.size w w1) (hy:w1.ownsRow w.heap.size 3 1 (.slice y.a y.n y.c) y.n (cI y.z)) (hz:I64s y.z) (hn:y.n≤2) (hbs:base≤w.heap.size)
  (hg:w1.grownBy w' (Value.slice ao l.length cap).ownBlock) (hr:w'.ownsRow base 25 1 (.slice ao' (l++[y]).length cap') (l++[y]).length (tlF.all (l++[y]))):Tails w' base ao' cap' (l++[y]):=by
 have hne:(3:Nat)≠25:=by decide
 have h1:=h.below hb;refine ⟨hr,fun t ht => ?_⟩;rcases List.mem_append.1 ht with ht | ht
 ·exact ⟨zad (h1.item t ht).1 h1.row hne hg,(h1.item t ht).2⟩
 ·rw [List.mem_singleton.1 ht];exact ⟨zbN (zad hy h1.row hne hg) hbs,hz,hn⟩
theorem zeU {W:World} {X:Nat} {c0 c1 c2:Value} {T:TypeId} {K:World→Prop} (hk:W.heap[X]? = some (.cells #[c0,c1,c2] T)) (v0 v1 v2:Value) (h:∀wq,wq.heap[X]? = some (.cells #[v0,v1,v2] T)→W.grownBy wq (some X)→K wq):K (((W.setCell ⟨X,0,none⟩ v0).setCell ⟨X,1,none⟩ v1).setCell ⟨X,2,none⟩ v2):=by
 refine h _ ?_ (zv (zv (zi 0 _) (zi 1 _)) (zi 2 _));have h2:=zr (j:=2) (zr (j:=1) (zr (j:=0) hk v0) v1) v2
 simpa using h2
theorem zcB (w:World) (base:Nat):Tails w base none 0 []:=⟨World.ownsRow_nil _ _ _ _,(by intro t ht; cases ht)⟩
theorem Tails.reads (h:Tails w base ao cap l):GRow tlF w ao l.length cap l∧∀t∈l,IRow w t.a t.n t.c t.z∧t.n≤2 :=
 ⟨zT (F:=tlF) h.row,fun t ht=>⟨zO (h.item t ht).1 (h.item t ht).2.1,(h.item t ht).2.2⟩⟩
end

theorem za1 {w w':World} {cl:List CF} {tn:Nat} {G:Nat→Nat→BD} {ao:Option Addr} {cap:Nat} {l:List TH} (st:CoSt w w' cl tn G ao cap l)
  (H:∀(i:Nat) (c:CF),cl[i]? = some c→(∀args w,(callFunc c.f args).run Tryz.prog w=.ok (.enter c.f args) w)∧∀j,j < tn→∀w2,Below w'.heap.size w' w2→Tells w2 c.f c.caps j (G i j).K (G i j).N (G i j).S)
  (Hz:∀i j,(G i j).z=[]∧(G i j).S.size≤maxLen) {base:Nat} (hbs:base≤w.heap.size):Things w' base ao cap l:=by
 refine ⟨zT (F:=thF) st.row,st.names.lt hbs, ?_, ?_⟩
 ·intro x hx w2 hw2;obtain ⟨i,j,c,hc,hj,hd,kw,kp⟩:=st.box x hx;obtain ⟨he,ht⟩:=H i c hc;have kw2:=zd kw hw2;have kp2:=zd kp hw2;rw [hd];exact zfM c.f c.caps j _ _ _ x.wb x.pb w2 (fun w3 hw3=>ht j hj w3 (ze hw2 hw3)) (by simp [World.cell?,kw2]) (by simp [World.cell?,kp2]) he
 ·intro x hx;obtain ⟨i,j,c,-,-,hd,-,-⟩:=st.box x hx;have h1:=(st.names.item x hx).1
  simp [cI] at h1
  rw [hd] at h1 ⊢;exact ⟨(Hz i j).1,(Hz i j).2,h1.symm⟩

def ownG (B:BR) (i _j:Nat):BD:=match i with
 | 0=>nameD B.name
 | 1=>numD [1,2] B.ticks
 | 2=>numD [1,3] B.parse
 | 3=>numD [1,4] B.word
 | _=>numD [1,(i:Int)+1] B.drops
def portG (B:BR) (i j:Nat):BD:=match B.ports[j]? with
 | some x=>portB B ((i:Int)+1) j x
 | none=>numD [2,(i:Int)+1,(j:Int)+1] 0
def rowG (B:BR) (i j:Nat):BD:=match B.v.rows[j]? with
 | some x=>rowB ((i:Int)+1) j x
 | none=>numD [] 0
def entG (B:BR) (i j:Nat):BD:=match B.f[j]? with
 | some x=>⟨nmI [4,(i:Int)+1,x.t,x.m],2,x.p+1,⟨#[]⟩,[]⟩
 | none=>numD [] 0

theorem zgT (B:BR):zaQ (ownG B) 1 5=zW B:=rfl
theorem zfw (B:BR):zaQ (portG B) B.ports.length 4=zI (zL B) 4 :=
 zcp (fun i=>zci (f:=portB B ((i:Int)+1)) (fun j x hx=>by unfold portG; rw [hx]) _ (Nat.le_refl _)) 4
theorem zgf (B:BR):zaQ (rowG B) B.v.rows.length 3=zI (zaf B) 3 :=
 zcp (fun i=>zci (f:=rowB ((i:Int)+1)) (fun j x hx=>by unfold rowG; rw [hx]) _ (Nat.le_refl _)) 3
theorem zfU (B:BR):zaQ (entG B) B.f.length 1=zcv B:=by
 show []++rowTo (entG B 0) B.f.length=zV entB B.f B.f.length
 rw [List.nil_append];exact zci (f:=entB) (fun j x hx=>by unfold entG; rw [hx]; rfl) _ (Nat.le_refl _)

theorem zdu (a:Option Addr) (n c:Nat) (fa:Option Addr) (fn fc:Nat) (ra:Option Addr) (rn rc:Nat) (oa:Option Addr) (on oc:Nat) (B:BR) (w:World) (h:BrRow w a n c fa fn fc ra rn rc oa on oc B) (hnm:B.name.size≤maxLen) :
  Calls Tryz.prog 127 #[.agg #[.int .i64 B.id,.string B.name,.slice a n c,.slice fa fn fc,.slice ra rn rc,.slice oa on oc,.int .i64 B.ticks,.int .i64 B.parse,.int .i64 B.word,.int .i64 B.drops,.int .i64 B.vers]] w fun e w'=>∃(ao:Option Addr) (cap:Nat) (l:List TH),e=.returned (.slice ao l.length cap)∧l.map TH.d=zW B∧Things w' w.heap.size ao cap l∧Below w.heap.size w w':=by
 generalize hw1:w.alloc (Obj.cells #[.int .i64 B.id,.string B.name,.slice a n c,.slice fa fn fc,.slice ra rn rc,.slice oa on oc,.int .i64 B.ticks,.int .i64 B.parse,.int .i64 B.word,.int .i64 B.drops,.int .i64 B.vers] 40)=w1;have b1:=zb hw1;have k1:=zk hw1;have HNM:=hide hnm;generalize hwt:w1.alloc (Obj.cells #[.slice none 0 0] 25)=wt;have bt:=zb hwt;have kt:=zk hwt;have b1t:=ze b1 bt;have hrow:=zab tlF (base:=w.heap.size) (l:=[⟨none,0,0,[]⟩]) kt rfl b1.size (by simp);have tls:Tails wt w.heap.size (some ⟨w1.heap.size,0,none⟩) 1 [⟨none,0,0,[]⟩]:=⟨hrow,fun t ht=>by rw [List.mem_singleton.1 ht]; exact ⟨World.ownsRow_nil _ _ _ _,(by intro z hz; cases hz),Nat.zero_le _⟩⟩;generalize hwc:wt.alloc (Obj.cells #[.func (.func 169) #[] #[.pointer (some ⟨w.heap.size,0,none⟩)],.func (.func 170) #[] #[.pointer (some ⟨w.heap.size,0,none⟩)],.func (.func 172) #[] #[.pointer (some ⟨w.heap.size,0,none⟩)],.func (.func 173) #[] #[.pointer (some ⟨w.heap.size,0,none⟩)],.func (.func 174) #[] #[.pointer (some ⟨w.heap.size,0,none⟩)]] 161)=wc;have bc:=zb hwc;have kc:=zk hwc;have hcl:=zT (F:=clF) (zab clF (base:=0) (l:=[⟨169,#[.pointer (some ⟨w.heap.size,0,none⟩)]⟩,⟨170,#[.pointer (some ⟨w.heap.size,0,none⟩)]⟩,⟨172,#[.pointer (some ⟨w.heap.size,0,none⟩)]⟩,⟨173,#[.pointer (some ⟨w.heap.size,0,none⟩)]⟩,⟨174,#[.pointer (some ⟨w.heap.size,0,none⟩)]⟩]) kc rfl (Nat.zero_le _) (by simp));have HBS:Hid (w.heap.size≤wc.heap.size):=hide (ze b1t bc).size;have HBC:=hide (ze b1t bc);have HKC:=hide (zd (zd k1 bt) bc);have HH:=hide h;have tlr:=(tls.below bc).reads;clear k1 kt kc b1 bt hrow tls b1t bc;go_enter Tryz.func127,Tryz.ntmps127;go_wp2_with fail
 refine (zam 1 _ 1 1 [⟨none,0,0,[]⟩] _ 5 [⟨169,#[.pointer (some ⟨w.heap.size,0,none⟩)]⟩,⟨170,#[.pointer (some ⟨w.heap.size,0,none⟩)]⟩,⟨172,#[.pointer (some ⟨w.heap.size,0,none⟩)]⟩,⟨173,#[.pointer (some ⟨w.heap.size,0,none⟩)]⟩,⟨174,#[.pointer (some ⟨w.heap.size,0,none⟩)]⟩] (ownG B) _ tlr.1 tlr.2 (by omega) hcl (by omega) (by omega) ?_).mono ?_
 ·intro i j t ht;have htz:t.z=[]:=by
   cases j with
   | zero=>simp at ht; rw [← ht]
   | succ j=>simp at ht
  rw [htz];unfold ownG
  split <;> rfl
 rintro e w3 ⟨ao,cap,l,rfl,hd,st⟩;have HB:=hide (ze HBC.out st.below);have KB:=hide (zd HKC.out st.below);have HT:Hid (Things w3 w.heap.size ao cap l):=hide (by
  refine za1 st (fun i cf hi => ?_) (fun i j => ?_) HBS.out
  ·have him:i < 5:=(List.getElem?_eq_some_iff.1 hi).1;rcases (show i=0∨i=1∨i=2∨i=3∨i=4 by omega) with rfl | rfl | rfl | rfl | rfl
   ·cases hi;refine ⟨enters_of Tryz.func169 (by kernel_rfl) rfl,fun j hj w2 hw2 => ?_⟩;exact zf6 a n c fa fn fc ra rn rc oa on oc B (j:Int) w.heap.size w2 (zd KB.out hw2)
   ·cases hi;refine ⟨enters_of Tryz.func170 (by kernel_rfl) rfl,fun j hj w2 hw2 => ?_⟩;exact zf7 a n c fa fn fc ra rn rc oa on oc B (j:Int) w.heap.size w2 (zd KB.out hw2)
   ·cases hi;refine ⟨enters_of Tryz.func172 (by kernel_rfl) rfl,fun j hj w2 hw2 => ?_⟩;exact zf8 a n c fa fn fc ra rn rc oa on oc B (j:Int) w.heap.size w2 (zd KB.out hw2)
   ·cases hi;refine ⟨enters_of Tryz.func173 (by kernel_rfl) rfl,fun j hj w2 hw2 => ?_⟩;exact zf9 a n c fa fn fc ra rn rc oa on oc B (j:Int) w.heap.size w2 (zd KB.out hw2)
   ·cases hi;refine ⟨enters_of Tryz.func174 (by kernel_rfl) rfl,fun j hj w2 hw2 => ?_⟩;exact zga a n c fa fn fc ra rn rc oa on oc B (j:Int) w.heap.size w2 (zd KB.out hw2)
  ·unfold ownG
   split
   ·exact ⟨rfl,HNM.out⟩
   all_goals exact ⟨rfl,Nat.zero_le _⟩
  )
 have HD:=hide hd;clear hd st;go_wp2;go_ret;exact ⟨ao,cap,l,rfl,(by rw [HD.out]; rfl),HT.out,HB.out⟩
 

end

end Go.Proofs.YtcpdkcdfnpcemabGreat
