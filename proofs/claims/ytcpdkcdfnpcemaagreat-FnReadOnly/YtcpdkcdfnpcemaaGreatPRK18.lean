/-
  Packed: MibWor MibCo MibOwn ChgCol.
-/
import Derived.Test.YtcpdkcdfnpcemaaGreatPRK10
import Derived.Test.YtcpdkcdfnpcemaaGreatPRK17
import Derived.Laws.EntriesVeiled
import Derived.Shelf.Abstract
namespace Go.Proofs.YtcpdkcdfnpcemaaGreat
set_option maxRecDepth 100000
set_option maxHeartbeats 16000000
open Go.RowKit

theorem zad (x:Int) (w:World) :
  Calls Tryz.prog 239 #[.int .i64 x] w fun e w'=>e=.returned (.agg #[.int .i64 2,.int .i64 x,.string ⟨#[]⟩,.slice none 0 0])∧Below w.heap.size w w':=by
 go_enter Tryz.func239,Tryz.ntmps239;go_wp2;exact bodyPost_ret (v:=.agg #[.int .i64 2,.int .i64 x,.string ⟨#[]⟩,.slice none 0 0]) (by simp [results,Tryz.results239,go_sem]) rfl ⟨rfl,zh _ _⟩

theorem zhp (q:Bool) (w:World) :
  Calls Tryz.prog 245 #[.bool q] w fun e w'=>e=.returned (.int .i64 (if q=true then 1 else 0))∧w'=w:=by
 cases q
 ·go_enter Tryz.func245,Tryz.ntmps245;go_wp2;go_ret;exact ⟨rfl,rfl⟩
 ·go_enter Tryz.func245,Tryz.ntmps245;go_wp2;go_ret;exact ⟨rfl,rfl⟩

theorem zca (x:Int) (hx:0≤x∧x≤1000) (w:World) :
  Calls Tryz.prog 243 #[.int .i64 x] w fun e w'=>e=.returned (.int .i64 (x+1))∧w'=w:=by
 have e1:IntKind.i64.wrap (x+1)=x+1:=by rw [IntKind.wrap_i64]; omega
 go_enter Tryz.func243,Tryz.ntmps243;go_wp2;go_ret;exact ⟨by first | rfl | (simp [e1]),rfl⟩

theorem zir (a:Option Addr) (n c:Nat) (fa:Option Addr) (fn fc:Nat) (ra:Option Addr) (rn rc:Nat) (oa:Option Addr) (on oc:Nat) (B:BR) (p:Int) (g:Nat) (w:World) (kb:w.heap[g]? = some (.cells #[.int .i64 B.id,.string B.name,.slice a n c,.slice fa fn fc,.slice ra rn rc,.slice oa on oc,.int .i64 B.ticks,.int .i64 B.parse,.int .i64 B.word,.int .i64 B.drops,.int .i64 B.vers] 31)) :
  Calls Tryz.prog 237 #[.int .i64 p,.pointer (some ⟨g,0,none⟩)] w fun e w'=>e=.returned (.agg #[.int .i64 4,.int .i64 0,.string B.name,.slice none 0 0])∧Below w.heap.size w w':=by
 generalize hw1:w.alloc (Obj.cells #[.int .i64 0,.int .i64 0,.string ⟨#[]⟩,.slice none 0 0] 35)=w1;have b1:=zb hw1;have k1:=zk hw1;obtain ⟨⟨p0,p1,p2,p3⟩,f0,f1,f2,f3⟩:=zah k1;obtain ⟨x0,x1,x2,x3,x4,x5,x6,x7,x8,x9,x10⟩:=zj (ze kb b1);go_enter Tryz.func237,Tryz.ntmps237;have HB:=hide b1;go_wp2;refine bodyPost_ret (v:=.agg #[.int .i64 4,.int .i64 0,.string B.name,.slice none 0 0]) (by simp [results,Tryz.results237,go_sem, *]) rfl ⟨rfl,zam HB.out (Nat.le_refl _) _ _ _ _⟩

theorem zis (a:Option Addr) (n c:Nat) (fa:Option Addr) (fn fc:Nat) (ra:Option Addr) (rn rc:Nat) (oa:Option Addr) (on oc:Nat) (B:BR) (p:Int) (g:Nat) (w:World) (kb:w.heap[g]? = some (.cells #[.int .i64 B.id,.string B.name,.slice a n c,.slice fa fn fc,.slice ra rn rc,.slice oa on oc,.int .i64 B.ticks,.int .i64 B.parse,.int .i64 B.word,.int .i64 B.drops,.int .i64 B.vers] 31)) :
  Calls Tryz.prog 238 #[.int .i64 p,.pointer (some ⟨g,0,none⟩)] w fun e w'=>e=.returned (.agg #[.int .i64 2,.int .i64 B.ticks,.string ⟨#[]⟩,.slice none 0 0])∧Below w.heap.size w w':=by
 generalize hw1:w.alloc (Obj.cells #[.int .i64 0,.int .i64 0,.string ⟨#[]⟩,.slice none 0 0] 35)=w1;have b1:=zb hw1;have k1:=zk hw1;obtain ⟨⟨p0,p1,p2,p3⟩,f0,f1,f2,f3⟩:=zah k1;obtain ⟨x0,x1,x2,x3,x4,x5,x6,x7,x8,x9,x10⟩:=zj (ze kb b1);go_enter Tryz.func238,Tryz.ntmps238;go_wp2_with fail
 refine (zad B.ticks _).mono ?_;rintro e w2 ⟨rfl,hb2⟩;have HB:=hide (zd b1 hb2);have k2:=ze k1 hb2;clear p0 p1 p2 p3 f0 f1 f2 f3;obtain ⟨⟨p0,p1,p2,p3⟩,f0,f1,f2,f3⟩:=zah k2;go_wp2;refine bodyPost_ret (v:=.agg #[.int .i64 2,.int .i64 B.ticks,.string ⟨#[]⟩,.slice none 0 0]) (by simp [results,Tryz.results238,go_sem, *]) rfl ⟨rfl,zam HB.out (Nat.le_refl _) _ _ _ _⟩

theorem zit (a:Option Addr) (n c:Nat) (fa:Option Addr) (fn fc:Nat) (ra:Option Addr) (rn rc:Nat) (oa:Option Addr) (on oc:Nat) (B:BR) (p:Int) (g:Nat) (w:World) (kb:w.heap[g]? = some (.cells #[.int .i64 B.id,.string B.name,.slice a n c,.slice fa fn fc,.slice ra rn rc,.slice oa on oc,.int .i64 B.ticks,.int .i64 B.parse,.int .i64 B.word,.int .i64 B.drops,.int .i64 B.vers] 31)) :
  Calls Tryz.prog 240 #[.int .i64 p,.pointer (some ⟨g,0,none⟩)] w fun e w'=>e=.returned (.agg #[.int .i64 2,.int .i64 B.parse,.string ⟨#[]⟩,.slice none 0 0])∧Below w.heap.size w w':=by
 generalize hw1:w.alloc (Obj.cells #[.int .i64 0,.int .i64 0,.string ⟨#[]⟩,.slice none 0 0] 35)=w1;have b1:=zb hw1;have k1:=zk hw1;obtain ⟨⟨p0,p1,p2,p3⟩,f0,f1,f2,f3⟩:=zah k1;obtain ⟨x0,x1,x2,x3,x4,x5,x6,x7,x8,x9,x10⟩:=zj (ze kb b1);go_enter Tryz.func240,Tryz.ntmps240;go_wp2_with fail
 refine (zad B.parse _).mono ?_;rintro e w2 ⟨rfl,hb2⟩;have HB:=hide (zd b1 hb2);have k2:=ze k1 hb2;clear p0 p1 p2 p3 f0 f1 f2 f3;obtain ⟨⟨p0,p1,p2,p3⟩,f0,f1,f2,f3⟩:=zah k2;go_wp2;refine bodyPost_ret (v:=.agg #[.int .i64 2,.int .i64 B.parse,.string ⟨#[]⟩,.slice none 0 0]) (by simp [results,Tryz.results240,go_sem, *]) rfl ⟨rfl,zam HB.out (Nat.le_refl _) _ _ _ _⟩

theorem ziu (a:Option Addr) (n c:Nat) (fa:Option Addr) (fn fc:Nat) (ra:Option Addr) (rn rc:Nat) (oa:Option Addr) (on oc:Nat) (B:BR) (p:Int) (g:Nat) (w:World) (kb:w.heap[g]? = some (.cells #[.int .i64 B.id,.string B.name,.slice a n c,.slice fa fn fc,.slice ra rn rc,.slice oa on oc,.int .i64 B.ticks,.int .i64 B.parse,.int .i64 B.word,.int .i64 B.drops,.int .i64 B.vers] 31)) :
  Calls Tryz.prog 241 #[.int .i64 p,.pointer (some ⟨g,0,none⟩)] w fun e w'=>e=.returned (.agg #[.int .i64 2,.int .i64 B.word,.string ⟨#[]⟩,.slice none 0 0])∧Below w.heap.size w w':=by
 generalize hw1:w.alloc (Obj.cells #[.int .i64 0,.int .i64 0,.string ⟨#[]⟩,.slice none 0 0] 35)=w1;have b1:=zb hw1;have k1:=zk hw1;obtain ⟨⟨p0,p1,p2,p3⟩,f0,f1,f2,f3⟩:=zah k1;obtain ⟨x0,x1,x2,x3,x4,x5,x6,x7,x8,x9,x10⟩:=zj (ze kb b1);go_enter Tryz.func241,Tryz.ntmps241;go_wp2_with fail
 refine (zad B.word _).mono ?_;rintro e w2 ⟨rfl,hb2⟩;have HB:=hide (zd b1 hb2);have k2:=ze k1 hb2;clear p0 p1 p2 p3 f0 f1 f2 f3;obtain ⟨⟨p0,p1,p2,p3⟩,f0,f1,f2,f3⟩:=zah k2;go_wp2;refine bodyPost_ret (v:=.agg #[.int .i64 2,.int .i64 B.word,.string ⟨#[]⟩,.slice none 0 0]) (by simp [results,Tryz.results241,go_sem, *]) rfl ⟨rfl,zam HB.out (Nat.le_refl _) _ _ _ _⟩

theorem ziv (a:Option Addr) (n c:Nat) (fa:Option Addr) (fn fc:Nat) (ra:Option Addr) (rn rc:Nat) (oa:Option Addr) (on oc:Nat) (B:BR) (p:Int) (g:Nat) (w:World) (kb:w.heap[g]? = some (.cells #[.int .i64 B.id,.string B.name,.slice a n c,.slice fa fn fc,.slice ra rn rc,.slice oa on oc,.int .i64 B.ticks,.int .i64 B.parse,.int .i64 B.word,.int .i64 B.drops,.int .i64 B.vers] 31)) :
  Calls Tryz.prog 242 #[.int .i64 p,.pointer (some ⟨g,0,none⟩)] w fun e w'=>e=.returned (.agg #[.int .i64 2,.int .i64 B.drops,.string ⟨#[]⟩,.slice none 0 0])∧Below w.heap.size w w':=by
 generalize hw1:w.alloc (Obj.cells #[.int .i64 0,.int .i64 0,.string ⟨#[]⟩,.slice none 0 0] 35)=w1;have b1:=zb hw1;have k1:=zk hw1;obtain ⟨⟨p0,p1,p2,p3⟩,f0,f1,f2,f3⟩:=zah k1;obtain ⟨x0,x1,x2,x3,x4,x5,x6,x7,x8,x9,x10⟩:=zj (ze kb b1);go_enter Tryz.func242,Tryz.ntmps242;go_wp2_with fail
 refine (zad B.drops _).mono ?_;rintro e w2 ⟨rfl,hb2⟩;have HB:=hide (zd b1 hb2);have k2:=ze k1 hb2;clear p0 p1 p2 p3 f0 f1 f2 f3;obtain ⟨⟨p0,p1,p2,p3⟩,f0,f1,f2,f3⟩:=zah k2;go_wp2;refine bodyPost_ret (v:=.agg #[.int .i64 2,.int .i64 B.drops,.string ⟨#[]⟩,.slice none 0 0]) (by simp [results,Tryz.results242,go_sem, *]) rfl ⟨rfl,zam HB.out (Nat.le_refl _) _ _ _ _⟩

theorem zhu (a:Option Addr) (n c:Nat) (fa:Option Addr) (fn fc:Nat) (ra:Option Addr) (rn rc:Nat) (oa:Option Addr) (on oc:Nat) (B:BR) (j:Nat) (g:Nat) (w:World) (kb:w.heap[g]? = some (.cells #[.int .i64 B.id,.string B.name,.slice a n c,.slice fa fn fc,.slice ra rn rc,.slice oa on oc,.int .i64 B.ticks,.int .i64 B.parse,.int .i64 B.word,.int .i64 B.drops,.int .i64 B.vers] 31)) (hp:GRow ptF w a n c B.ports) (x:PT) (hx:B.ports[j]? = some x) :
  Calls Tryz.prog 244 #[.int .i64 (j:Int),.pointer (some ⟨g,0,none⟩)] w fun e w'=>e=.returned (.agg #[.int .i64 2,.int .i64 (portW B 1 j x),.string ⟨#[]⟩,.slice none 0 0])∧Below w.heap.size w w':=by
 generalize hw1:w.alloc (Obj.cells #[.int .i64 0,.int .i64 0,.string ⟨#[]⟩,.slice none 0 0] 35)=w1;have b1:=zb hw1;have k1:=zk hw1;obtain ⟨⟨p0,p1,p2,p3⟩,f0,f1,f2,f3⟩:=zah k1;obtain ⟨x0,x1,x2,x3,x4,x5,x6,x7,x8,x9,x10⟩:=zj (ze kb b1);have hj:j < n:=by have:=(List.getElem?_eq_some_iff.1 hx).1; have:=hp.size; omega
 have hle:=hp.le;obtain ⟨y,b,off,hy,rfl,c0,c1,c2,c3,c4,c5,c6,c7⟩:=pt_at (hp.below b1) j hj;rw [hx] at hy;cases hy;have hj':(j:Int) < (n:Int):=by omega
 have hW:portW B 1 j x=if x.up=true then 1 else 0:=by unfold portW; rw [if_pos rfl]
 have HW:=hide hW;clear hW hx hp;go_enter Tryz.func244,Tryz.ntmps244;go_wp2_with fail
 refine (zhp x.up _).mono ?_;rintro e w3 ⟨rfl,ew⟩;obtain rfl:=ew.symm;rw [← HW.out];go_wp2_with fail
 refine (zad (portW B 1 j x) _).mono ?_;rintro e w2 ⟨rfl,hb2⟩;have HB:=hide (zd b1 hb2);have k2:=ze k1 hb2;clear p0 p1 p2 p3 f0 f1 f2 f3;obtain ⟨⟨p0,p1,p2,p3⟩,f0,f1,f2,f3⟩:=zah k2;go_wp2;refine bodyPost_ret (v:=.agg #[.int .i64 2,.int .i64 (portW B 1 j x),.string ⟨#[]⟩,.slice none 0 0]) (by simp [results,Tryz.results244,go_sem, *]) rfl ⟨rfl,zam HB.out (Nat.le_refl _) _ _ _ _⟩

theorem zhv (a:Option Addr) (n c:Nat) (fa:Option Addr) (fn fc:Nat) (ra:Option Addr) (rn rc:Nat) (oa:Option Addr) (on oc:Nat) (B:BR) (j:Nat) (g:Nat) (w:World) (kb:w.heap[g]? = some (.cells #[.int .i64 B.id,.string B.name,.slice a n c,.slice fa fn fc,.slice ra rn rc,.slice oa on oc,.int .i64 B.ticks,.int .i64 B.parse,.int .i64 B.word,.int .i64 B.drops,.int .i64 B.vers] 31)) (hp:GRow ptF w a n c B.ports) (x:PT) (hx:B.ports[j]? = some x) :
  Calls Tryz.prog 246 #[.int .i64 (j:Int),.pointer (some ⟨g,0,none⟩)] w fun e w'=>e=.returned (.agg #[.int .i64 2,.int .i64 (portW B 2 j x),.string ⟨#[]⟩,.slice none 0 0])∧Below w.heap.size w w':=by
 generalize hw1:w.alloc (Obj.cells #[.int .i64 0,.int .i64 0,.string ⟨#[]⟩,.slice none 0 0] 35)=w1;have b1:=zb hw1;have k1:=zk hw1;obtain ⟨⟨p0,p1,p2,p3⟩,f0,f1,f2,f3⟩:=zah k1;obtain ⟨x0,x1,x2,x3,x4,x5,x6,x7,x8,x9,x10⟩:=zj (ze kb b1);have hj:j < n:=by have:=(List.getElem?_eq_some_iff.1 hx).1; have:=hp.size; omega
 have hle:=hp.le;obtain ⟨y,b,off,hy,rfl,c0,c1,c2,c3,c4,c5,c6,c7⟩:=pt_at (hp.below b1) j hj;rw [hx] at hy;cases hy;have hj':(j:Int) < (n:Int):=by omega
 have hW:portW B 2 j x=x.k:=by unfold portW; rw [if_neg (by decide),if_pos rfl]
 rw [hW];clear hW hx hp;go_enter Tryz.func246,Tryz.ntmps246;go_wp2_with fail
 refine (zad x.k _).mono ?_;rintro e w2 ⟨rfl,hb2⟩;have HB:=hide (zd b1 hb2);have k2:=ze k1 hb2;clear p0 p1 p2 p3 f0 f1 f2 f3;obtain ⟨⟨p0,p1,p2,p3⟩,f0,f1,f2,f3⟩:=zah k2;go_wp2;refine bodyPost_ret (v:=.agg #[.int .i64 2,.int .i64 x.k,.string ⟨#[]⟩,.slice none 0 0]) (by simp [results,Tryz.results246,go_sem, *]) rfl ⟨rfl,zam HB.out (Nat.le_refl _) _ _ _ _⟩

theorem zhw (a:Option Addr) (n c:Nat) (fa:Option Addr) (fn fc:Nat) (ra:Option Addr) (rn rc:Nat) (oa:Option Addr) (on oc:Nat) (B:BR) (j:Nat) (g:Nat) (w:World) (kb:w.heap[g]? = some (.cells #[.int .i64 B.id,.string B.name,.slice a n c,.slice fa fn fc,.slice ra rn rc,.slice oa on oc,.int .i64 B.ticks,.int .i64 B.parse,.int .i64 B.word,.int .i64 B.drops,.int .i64 B.vers] 31)) (hp:GRow ptF w a n c B.ports) (x:PT) :
  Calls Tryz.prog 247 #[.int .i64 (j:Int),.pointer (some ⟨g,0,none⟩)] w fun e w'=>e=.returned (.agg #[.int .i64 2,.int .i64 (portW B 3 j x),.string ⟨#[]⟩,.slice none 0 0])∧Below w.heap.size w w':=by
 generalize hw1:w.alloc (Obj.cells #[.int .i64 0,.int .i64 0,.string ⟨#[]⟩,.slice none 0 0] 35)=w1;have b1:=zb hw1;have k1:=zk hw1;obtain ⟨⟨p0,p1,p2,p3⟩,f0,f1,f2,f3⟩:=zah k1;obtain ⟨x0,x1,x2,x3,x4,x5,x6,x7,x8,x9,x10⟩:=zj (ze kb b1);have hW:portW B 3 j x=zaC B.id B.ports (j:Int):=by unfold portW; rw [if_neg (by decide),if_neg (by decide),if_pos rfl]
 rw [hW];clear hW;go_enter Tryz.func247,Tryz.ntmps247;go_wp2_with fail
 refine (ze1 B.id a n c B.ports (j:Int) _ (hp.below b1)).mono ?_;rintro e w3 ⟨rfl,hb1⟩;go_wp2_with fail
 refine (zad (zaC B.id B.ports (j:Int)) _).mono ?_;rintro e w2 ⟨rfl,hb2⟩;have HB:=hide (zd (zd b1 hb1) hb2);have k2:=ze (ze k1 hb1) hb2;clear p0 p1 p2 p3 f0 f1 f2 f3;obtain ⟨⟨p0,p1,p2,p3⟩,f0,f1,f2,f3⟩:=zah k2;go_wp2;refine bodyPost_ret (v:=.agg #[.int .i64 2,.int .i64 (zaC B.id B.ports (j:Int)),.string ⟨#[]⟩,.slice none 0 0]) (by simp [results,Tryz.results247,go_sem, *]) rfl ⟨rfl,zam HB.out (Nat.le_refl _) _ _ _ _⟩

theorem zhx (a:Option Addr) (n c:Nat) (fa:Option Addr) (fn fc:Nat) (ra:Option Addr) (rn rc:Nat) (oa:Option Addr) (on oc:Nat) (B:BR) (j:Nat) (g:Nat) (w:World) (kb:w.heap[g]? = some (.cells #[.int .i64 B.id,.string B.name,.slice a n c,.slice fa fn fc,.slice ra rn rc,.slice oa on oc,.int .i64 B.ticks,.int .i64 B.parse,.int .i64 B.word,.int .i64 B.drops,.int .i64 B.vers] 31)) (hv:IRow w oa on oc B.v.own) (hj:j < on) (x:PT) :
  Calls Tryz.prog 248 #[.int .i64 (j:Int),.pointer (some ⟨g,0,none⟩)] w fun e w'=>e=.returned (.agg #[.int .i64 2,.int .i64 (portW B 4 j x),.string ⟨#[]⟩,.slice none 0 0])∧Below w.heap.size w w':=by
 generalize hw1:w.alloc (Obj.cells #[.int .i64 0,.int .i64 0,.string ⟨#[]⟩,.slice none 0 0] 35)=w1;have b1:=zb hw1;have k1:=zk hw1;obtain ⟨⟨p0,p1,p2,p3⟩,f0,f1,f2,f3⟩:=zah k1;obtain ⟨x0,x1,x2,x3,x4,x5,x6,x7,x8,x9,x10⟩:=zj (ze kb b1);have hW:portW B 4 j x=B.v.own.getD j 0:=by unfold portW; rw [if_neg (by decide),if_neg (by decide),if_neg (by decide),List.getD_eq_getElem?_getD]
 rw [hW];have hle:=hv.le;obtain ⟨b,off,rfl,hc⟩:=(hv.below b1).at (by omega);have c0:=hc j hj;have hj':(j:Int) < (on:Int):=by omega
 generalize B.v.own.getD j 0=V at *;clear hW hv hc;go_enter Tryz.func248,Tryz.ntmps248;go_wp2_with fail
 refine (zad V _).mono ?_;rintro e w2 ⟨rfl,hb2⟩;have HB:=hide (zd b1 hb2);have k2:=ze k1 hb2;clear p0 p1 p2 p3 f0 f1 f2 f3;obtain ⟨⟨p0,p1,p2,p3⟩,f0,f1,f2,f3⟩:=zah k2;go_wp2;refine bodyPost_ret (v:=.agg #[.int .i64 2,.int .i64 V,.string ⟨#[]⟩,.slice none 0 0]) (by simp [results,Tryz.results248,go_sem, *]) rfl ⟨rfl,zam HB.out (Nat.le_refl _) _ _ _ _⟩

theorem ziA (p:Int) (w:World) :
  Calls Tryz.prog 249 #[.int .i64 p] w fun e w'=>e=.returned (.agg #[.int .i64 2,.int .i64 1,.string ⟨#[]⟩,.slice none 0 0])∧Below w.heap.size w w':=by
 generalize hw1:w.alloc (Obj.cells #[.int .i64 0,.int .i64 0,.string ⟨#[]⟩,.slice none 0 0] 35)=w1;have b1:=zb hw1;have k1:=zk hw1;obtain ⟨⟨p0,p1,p2,p3⟩,f0,f1,f2,f3⟩:=zah k1;go_enter Tryz.func249,Tryz.ntmps249;go_wp2_with fail
 refine (zad 1 _).mono ?_;rintro e w2 ⟨rfl,hb2⟩;have HB:=hide (zd b1 hb2);have k2:=ze k1 hb2;clear p0 p1 p2 p3 f0 f1 f2 f3;obtain ⟨⟨p0,p1,p2,p3⟩,f0,f1,f2,f3⟩:=zah k2;go_wp2;refine bodyPost_ret (v:=.agg #[.int .i64 2,.int .i64 1,.string ⟨#[]⟩,.slice none 0 0]) (by simp [results,Tryz.results249,go_sem, *]) rfl ⟨rfl,zam HB.out (Nat.le_refl _) _ _ _ _⟩

theorem ziB (a:Option Addr) (n c:Nat) (fa:Option Addr) (fn fc:Nat) (ra:Option Addr) (rn rc:Nat) (oa:Option Addr) (on oc:Nat) (B:BR) (j:Nat) (g:Nat) (w:World) (kb:w.heap[g]? = some (.cells #[.int .i64 B.id,.string B.name,.slice a n c,.slice fa fn fc,.slice ra rn rc,.slice oa on oc,.int .i64 B.ticks,.int .i64 B.parse,.int .i64 B.word,.int .i64 B.drops,.int .i64 B.vers] 31)) (hp:GRow vrowF w ra rn rc B.v.rows) (x:VR) (hx:B.v.rows[j]? = some x) :
  Calls Tryz.prog 250 #[.int .i64 (j:Int),.pointer (some ⟨g,0,none⟩)] w fun e w'=>e=.returned (.agg #[.int .i64 2,.int .i64 x.m,.string ⟨#[]⟩,.slice none 0 0])∧Below w.heap.size w w':=by
 generalize hw1:w.alloc (Obj.cells #[.int .i64 0,.int .i64 0,.string ⟨#[]⟩,.slice none 0 0] 35)=w1;have b1:=zb hw1;have k1:=zk hw1;obtain ⟨⟨p0,p1,p2,p3⟩,f0,f1,f2,f3⟩:=zah k1;obtain ⟨x0,x1,x2,x3,x4,x5,x6,x7,x8,x9,x10⟩:=zj (ze kb b1);have hj:j < rn:=by have:=(List.getElem?_eq_some_iff.1 hx).1; have:=hp.size; omega
 have hle:=hp.le;obtain ⟨y,b,off,hy,rfl,c0,c1,c2⟩:=zaI (hp.below b1) j hj;rw [hx] at hy;cases hy;have hj':(j:Int) < (rn:Int):=by omega
 clear hx hp;go_enter Tryz.func250,Tryz.ntmps250;go_wp2_with fail
 refine (zad x.m _).mono ?_;rintro e w2 ⟨rfl,hb2⟩;have HB:=hide (zd b1 hb2);have k2:=ze k1 hb2;clear p0 p1 p2 p3 f0 f1 f2 f3;obtain ⟨⟨p0,p1,p2,p3⟩,f0,f1,f2,f3⟩:=zah k2;go_wp2;refine bodyPost_ret (v:=.agg #[.int .i64 2,.int .i64 x.m,.string ⟨#[]⟩,.slice none 0 0]) (by simp [results,Tryz.results250,go_sem, *]) rfl ⟨rfl,zam HB.out (Nat.le_refl _) _ _ _ _⟩

theorem ziC (a:Option Addr) (n c:Nat) (fa:Option Addr) (fn fc:Nat) (ra:Option Addr) (rn rc:Nat) (oa:Option Addr) (on oc:Nat) (B:BR) (j:Nat) (g:Nat) (w:World) (kb:w.heap[g]? = some (.cells #[.int .i64 B.id,.string B.name,.slice a n c,.slice fa fn fc,.slice ra rn rc,.slice oa on oc,.int .i64 B.ticks,.int .i64 B.parse,.int .i64 B.word,.int .i64 B.drops,.int .i64 B.vers] 31)) (hp:GRow vrowF w ra rn rc B.v.rows) (x:VR) (hx:B.v.rows[j]? = some x) :
  Calls Tryz.prog 251 #[.int .i64 (j:Int),.pointer (some ⟨g,0,none⟩)] w fun e w'=>e=.returned (.agg #[.int .i64 2,.int .i64 x.b,.string ⟨#[]⟩,.slice none 0 0])∧Below w.heap.size w w':=by
 generalize hw1:w.alloc (Obj.cells #[.int .i64 0,.int .i64 0,.string ⟨#[]⟩,.slice none 0 0] 35)=w1;have b1:=zb hw1;have k1:=zk hw1;obtain ⟨⟨p0,p1,p2,p3⟩,f0,f1,f2,f3⟩:=zah k1;obtain ⟨x0,x1,x2,x3,x4,x5,x6,x7,x8,x9,x10⟩:=zj (ze kb b1);have hj:j < rn:=by have:=(List.getElem?_eq_some_iff.1 hx).1; have:=hp.size; omega
 have hle:=hp.le;obtain ⟨y,b,off,hy,rfl,c0,c1,c2⟩:=zaI (hp.below b1) j hj;rw [hx] at hy;cases hy;have hj':(j:Int) < (rn:Int):=by omega
 clear hx hp;go_enter Tryz.func251,Tryz.ntmps251;go_wp2_with fail
 refine (zad x.b _).mono ?_;rintro e w2 ⟨rfl,hb2⟩;have HB:=hide (zd b1 hb2);have k2:=ze k1 hb2;clear p0 p1 p2 p3 f0 f1 f2 f3;obtain ⟨⟨p0,p1,p2,p3⟩,f0,f1,f2,f3⟩:=zah k2;go_wp2;refine bodyPost_ret (v:=.agg #[.int .i64 2,.int .i64 x.b,.string ⟨#[]⟩,.slice none 0 0]) (by simp [results,Tryz.results251,go_sem, *]) rfl ⟨rfl,zam HB.out (Nat.le_refl _) _ _ _ _⟩

theorem zh8 (a:Option Addr) (n c:Nat) (fa:Option Addr) (fn fc:Nat) (ra:Option Addr) (rn rc:Nat) (oa:Option Addr) (on oc:Nat) (B:BR) (j:Nat) (g:Nat) (w:World) (kb:w.heap[g]? = some (.cells #[.int .i64 B.id,.string B.name,.slice a n c,.slice fa fn fc,.slice ra rn rc,.slice oa on oc,.int .i64 B.ticks,.int .i64 B.parse,.int .i64 B.word,.int .i64 B.drops,.int .i64 B.vers] 31)) (hp:GRow fentF w fa fn fc B.f) (x:FE) (hx:B.f[j]? = some x) (h0:0≤x.p∧x.p≤7) :
  Calls Tryz.prog 252 #[.int .i64 (j:Int),.pointer (some ⟨g,0,none⟩)] w fun e w'=>e=.returned (.agg #[.int .i64 2,.int .i64 (x.p+1),.string ⟨#[]⟩,.slice none 0 0])∧Below w.heap.size w w':=by
 generalize hw1:w.alloc (Obj.cells #[.int .i64 0,.int .i64 0,.string ⟨#[]⟩,.slice none 0 0] 35)=w1;have b1:=zb hw1;have k1:=zk hw1;obtain ⟨⟨p0,p1,p2,p3⟩,f0,f1,f2,f3⟩:=zah k1;obtain ⟨x0,x1,x2,x3,x4,x5,x6,x7,x8,x9,x10⟩:=zj (ze kb b1);have hj:j < fn:=by have:=(List.getElem?_eq_some_iff.1 hx).1; have:=hp.size; omega
 have hle:=hp.le;obtain ⟨y,b,off,hy,rfl,c0,c1,c2,c3,c4⟩:=zbi (hp.below b1) j hj;rw [hx] at hy;cases hy;have hj':(j:Int) < (fn:Int):=by omega
 clear hx hp;go_enter Tryz.func252,Tryz.ntmps252;go_wp2_with fail
 refine (zca x.p (by omega) _).mono ?_;rintro e w3 ⟨rfl,ew⟩;obtain rfl:=ew.symm;go_wp2_with fail
 refine (zad (x.p+1) _).mono ?_;rintro e w2 ⟨rfl,hb2⟩;have HB:=hide (zd b1 hb2);have k2:=ze k1 hb2;clear p0 p1 p2 p3 f0 f1 f2 f3;obtain ⟨⟨p0,p1,p2,p3⟩,f0,f1,f2,f3⟩:=zah k2;go_wp2;refine bodyPost_ret (v:=.agg #[.int .i64 2,.int .i64 (x.p+1),.string ⟨#[]⟩,.slice none 0 0]) (by simp [results,Tryz.results252,go_sem, *]) rfl ⟨rfl,zam HB.out (Nat.le_refl _) _ _ _ _⟩

def Tells (w:World) (f:Nat) (caps:Array Value) (j:Nat) (K N:Int) (S:ByteArray):Prop :=
 Calls Tryz.prog f (#[.int .i64 (j:Int)]++caps) w fun e w'=>e=.returned (.agg #[.int .i64 K,.int .i64 N,.string S,.slice none 0 0])∧Below w.heap.size w w'

theorem zhZ (f:Nat) (caps:Array Value) (j:Nat) (K N:Int) (S:ByteArray) (wb pb:Nat) (w:World) (h:∀w',Below w.heap.size w w'→Tells w' f caps j K N S) (c0:w.cell? ⟨wb,0,none⟩=some (.func (.func f) #[] caps)) (c1:w.cell? ⟨pb,0,none⟩=some (.int .i64 (j:Int))) (he:∀args w,(callFunc f args).run Tryz.prog w=.ok (.enter f args) w) :
  Calls Tryz.prog 275 #[.pointer (some ⟨wb,0,none⟩),.pointer (some ⟨pb,0,none⟩)] w fun e w'=>e=.returned (.agg #[.int .i64 K,.int .i64 N,.string S,.slice none 0 0])∧Below w.heap.size w w':=by
 generalize hw1:w.alloc (Obj.cells #[.int .i64 0,.int .i64 0,.string ⟨#[]⟩,.slice none 0 0] 35)=w1;have b1:=zb hw1;have k1:=zk hw1;obtain ⟨⟨p0,p1,p2,p3⟩,f0,f1,f2,f3⟩:=zah k1;have c0:=(b1.cell (zu c0)).trans c0;have c1:=(b1.cell (zu c1)).trans c1;go_enter Tryz.func275,Tryz.ntmps275;go_wp2_with fail
 refine (h _ b1).mono ?_;rintro e w2 ⟨rfl,hb2⟩;have HB:=hide (zd b1 hb2);have k2:=ze k1 hb2;clear p0 p1 p2 p3 f0 f1 f2 f3;obtain ⟨⟨p0,p1,p2,p3⟩,f0,f1,f2,f3⟩:=zah k2;go_wp2;refine bodyPost_ret (v:=.agg #[.int .i64 K,.int .i64 N,.string S,.slice none 0 0]) (by simp [results,Tryz.results275,go_sem, *]) rfl ⟨rfl,zam HB.out (Nat.le_refl _) _ _ _ _⟩

section
open Go.RowKit

structure CF where
 f:Nat
 caps:Array Value

def clF:Flat CF where
 k:=1
 cs:=fun x=>[.func (.func x.f) #[] x.caps]
 len:=fun _=>rfl
 pos:=by decide
 one:=fun _ v hv=>by
  simp only [List.mem_cons,List.not_mem_nil,or_false] at hv;subst hv
  rfl

theorem cl_at {w:World} {ao:Option Addr} {len cap:Nat} {l:List CF} (h:GRow clF w ao len cap l) (i:Nat) (hi:i < len):∃(x:CF) (b off:Nat),l[i]? = some x∧ao=some ⟨b,off,none⟩∧w.cell? ⟨b,off+i,none⟩=some (.func (.func x.f) #[] x.caps):=by
 obtain ⟨x,b,off,hx,ha,hc⟩:=h.at i hi
 have:=hc 0 _ rfl
 exact ⟨x,b,off,hx,ha,by simpa [clF] using this⟩

def Boxed (w:World) (cl:List CF) (tn:Nat) (G:Nat→Nat→BD) (x:TH):Prop :=
 ∃(i j:Nat) (c:CF),cl[i]? = some c∧j < tn∧x.d=G i j∧w.heap[x.wb]? = some (.cells #[.func (.func c.f) #[] c.caps] 61)∧w.heap[x.pb]? = some (.cells #[.int .i64 (j:Int)] 3)

theorem Boxed.below {w w':World} {cl:List CF} {tn:Nat} {G:Nat→Nat→BD} {x:TH} (h:Boxed w cl tn G x) (hb:Below w.heap.size w w'):Boxed w' cl tn G x:=by
 obtain ⟨i,j,c,h1,h2,h3,h4,h5⟩:=h;exact ⟨i,j,c,h1,h2,h3,ze h4 hb,ze h5 hb⟩

theorem Boxed.grown {w w':World} {cl:List CF} {tn:Nat} {G:Nat→Nat→BD} {x:TH} (h:Boxed w cl tn G x) {base n:Nat} {v:Value} {xs:List Value} (hr:w.ownsRow base 91 2 v n xs) (hg:w.grownBy w' v.ownBlock):Boxed w' cl tn G x:=by
 obtain ⟨i,j,c,h1,h2,h3,h4,h5⟩:=h;have n1:(61:Nat)≠91:=by decide
 have n2:(3:Nat)≠91:=by decide
 exact ⟨i,j,c,h1,h2,h3,zA h4 hg (zdM hr h4 n1),zA h5 hg (zdM hr h5 n2)⟩

structure CoSt (w wr:World) (cl:List CF) (tn:Nat) (G:Nat→Nat→BD) (ao:Option Addr) (cap:Nat) (l:List TH):Prop where
 row:wr.ownsRow w.heap.size 91 2 (.slice ao l.length cap) l.length (thF.all l)
 names:THs wr w.heap.size l
 box:∀x∈l,Boxed wr cl tn G x
 below:Below w.heap.size w wr

section
variable {w wr w' w1:World} {cl:List CF} {tn:Nat} {G:Nat→Nat→BD} {ao ao':Option Addr} {cap cap':Nat} {l:List TH} {y:TH}
theorem CoSt.later (h:CoSt w wr cl tn G ao cap l) (hb:Below wr.heap.size wr w'):CoSt w w' cl tn G ao cap l:=⟨zo h.row hb,h.names.below hb,fun x hx=>(h.box x hx).below hb,zd h.below hb⟩
theorem CoSt.push (h:CoSt w wr cl tn G ao cap l) (hb:Below wr.heap.size wr w1) (hy:w1.ownsRow wr.heap.size 3 1 (.slice y.oa y.on y.oc) y.on (cI y.d.o)) (hz:I64s y.d.o) (hbox:Boxed w1 cl tn G y)
  (hg:w1.grownBy w' (Value.slice ao l.length cap).ownBlock) (hr:w'.ownsRow w.heap.size 91 2 (.slice ao' (l++[y]).length cap') (l++[y]).length (thF.all (l++[y]))):CoSt w w' cl tn G ao' cap' (l++[y]):=by
 have h1:=h.later hb;refine ⟨hr,h.names.push hb hy hz h.below.size h1.row hg, ?_, ?_⟩
 ·intro x hx;rcases List.mem_append.1 hx with hx | hx
  ·exact (h1.box x hx).grown h1.row hg
  ·rw [List.mem_singleton.1 hx];exact hbox.grown h1.row hg
 ·exact h1.below.grown hg h1.below.size (fun k hk=>(h1.row.lt k hk).1)
end

theorem zfO (g:Nat→BD):∀k,(rowTo g k).length=k
 | 0=>rfl
 | k+1=>by rw [rowTo,List.length_append,zfO g k]; rfl
theorem zf2 (G:Nat→Nat→BD) (n:Nat) (hn:n≤12):∀k,(zbM G n k).length≤k*12
 | 0=>Nat.le_refl _
 | k+1=>by
  have:=zf2 G n hn k
  rw [zbM,List.length_append,zfO,Nat.add_mul];omega

theorem za8 (head col:Int) (w:World):Calls Tryz.prog 212 #[.int .i64 head,.int .i64 col] w fun e w'=>e=.returned (.slice (some ⟨w.heap.size,0,none⟩) 5 5)∧w'=w.alloc (Obj.cells #[.int .i64 1,.int .i64 3,.int .i64 1,.int .i64 head,.int .i64 col] 3):=by
 go_enter Tryz.func212,Tryz.ntmps212;go_wp2;go_ret;exact ⟨rfl,rfl⟩

theorem za0 (head:Int) (ta:Option Addr) (tn tc:Nat) (tl:List TL) (g m:Nat) (cl:List CF) (G:Nat→Nat→BD) (w:World) (ht:GRow tlF w ta tn tc tl) (hti:∀t∈tl,IRow w t.a t.n t.c t.z∧t.n≤2) (htn:tn≤12)
  (hc:GRow clF w (some ⟨g,0,none⟩) m m cl) (hm:m≤5) (hh:1≤head∧head≤4) (hG:∀(i j:Nat) t,tl[j]? = some t→(G i j).o=nmI (head::((i:Int)+1)::t.z)) :
  Calls Tryz.prog 236 #[.int .i64 head,.slice ta tn tc,.slice (some ⟨g,0,none⟩) m m] w fun e w'=>∃(ao:Option Addr) (cap:Nat) (l:List TH),e=.returned (.slice ao l.length cap)∧l.map TH.d=zbM G tn m∧CoSt w w' cl tn G ao cap l:=by
 go_enter Tryz.func236,Tryz.ntmps236;go_wp2_with fail
 go_loopw [7,8,9,10,11,12,15] (fun v7 u8 u9 u10 u11 u12 vk wr=>∃(k:Nat) (ao:Option Addr) (cap:Nat) (l:List TH),v7=.slice ao l.length cap∧vk=.int .i64 (k:Int)∧k≤m∧l.map TH.d=zbM G tn k∧CoSt w wr cl tn G ao cap l) (fun _ _ _ _ _ _ vk _=>7 - (intOf vk).toNat)
 case atStart=>exact ⟨0,none,0,[],rfl,rfl,Nat.zero_le _,rfl,⟨World.ownsRow_nil _ _ _ _,zhT _ _,(by intro x hx; cases hx),Below.refl _ _⟩⟩
 case round =>
  obtain ⟨k,ao,cap,l,rfl,rfl,hk,hd,st⟩:=hrel;by_cases hkm:k < m
  ·obtain ⟨cf,gb,off,hcf,hga,cc⟩:=cl_at (hc.below st.below) k hkm;cases hga;rw [Nat.zero_add] at cc;have hkm':(k:Int) < (m:Int):=by omega
   have HCF:=hide hcf;have HD:=hide hd;have hk5:(k:Int)≤5:=by omega
   generalize hwz:wr.alloc (Obj.cells #[.nilFunc] 61)=wz;have bz:=zb hwz;have kz:=zk hwz;have cz:wz.cell? ⟨wr.heap.size,0,none⟩=some .nilFunc:=by simp [World.cell?,kz]
   have fz:wz.frozen? ⟨wr.heap.size,0,none⟩=false:=by simp [World.frozen?,kz]
   have cc2:=(bz.cell (zu cc)).trans cc;clear hcf hd;(go_upto_region 5 with fail);generalize hws:wz.setCell ⟨wr.heap.size,0,none⟩ (.func (.func cf.f) #[] cf.caps)=ws;have bs:Below wr.heap.size wr ws:=by rw [← hws]; exact bz.setCell (Nat.le_refl _) _
   have ks:ws.heap[wr.heap.size]? = some (.cells #[.func (.func cf.f) #[] cf.caps] 61):=by
    have:=zp (j:=0) kz (.func (.func cf.f) #[] cf.caps)
    rw [hws] at this
    simpa using this
   have st:=st.later bs;clear cc cc2 cz fz kz bz hwz hws bs;generalize wr.heap.size=WB at *;(go_wp2_with fail)
   go_loopw [7,10,11,12,22] (fun v7 u10 u11 u12 vj wr=>∃(j:Nat) (ao:Option Addr) (cap:Nat) (l:List TH),v7=.slice ao l.length cap∧vj=.int .i64 (j:Int)∧j≤tn∧l.map TH.d=zbM G tn k++rowTo (G k) j∧CoSt w wr cl tn G ao cap l∧wr.heap[WB]? = some (.cells #[.func (.func cf.f) #[] cf.caps] 61)) (fun _ _ _ _ vj _=>14 - (intOf vj).toNat)
   case atStart=>exact ⟨0,ao,cap,l,rfl,rfl,Nat.zero_le _,by rw [HD.out]; simp [rowTo],st,ks⟩
   case round =>
    clear st ks HD;obtain ⟨j,ao,cap,l,rfl,rfl,hj,hd,st,ks⟩:=hrel;by_cases hjn:j < tn
    ·obtain ⟨t,tb,toff,htj,hta,ct⟩:=tl_at (ht.below st.below) j hjn;have htt:=hti t (List.mem_of_getElem? htj);have hjn':(j:Int) < (tn:Int):=by omega
     have htle:=ht.le;have hj12:(j:Int)≤12:=by omega
     have HG:=hide (hG k j t htj);have HLL:Hid (l.length≤72):=hide (by
      have h1:=congrArg List.length hd;rw [List.length_map,List.length_append,zfO] at h1
      have:=zf2 G tn htn k
      omega)
     have HD:=hide hd;subst hta;generalize hwz:wr.alloc (Obj.cells #[.int .i64 0] 3)=wz;have bz:=zb hwz;have kz:=zk hwz;have cz:wz.cell? ⟨wr.heap.size,0,none⟩=some (.int .i64 0):=by simp [World.cell?,kz]
     have fz:wz.frozen? ⟨wr.heap.size,0,none⟩=false:=by simp [World.frozen?,kz]
     have ct2:=(bz.cell (zu ct)).trans ct;clear hd htj;(go_upto_region 8 with fail);generalize hws:wz.setCell ⟨wr.heap.size,0,none⟩ (.int .i64 (j:Int))=ws;have bs:Below wr.heap.size wr ws:=by rw [← hws]; exact bz.setCell (Nat.le_refl _) _
     have kp:ws.heap[wr.heap.size]? = some (.cells #[.int .i64 (j:Int)] 3):=by
      have:=zp (j:=0) kz (.int .i64 (j:Int))
      rw [hws] at this
      simpa using this
     clear ct ct2 cz fz kz bz hwz hws;have HST:=hide st;have HKR:=hide ks;have HWL:=hide (Array.getElem?_eq_some_iff.1 ks).1;have HIT:=hide htt.1.byte;have HBS:=hide bs;have hir:=((htt.1.below st.below).below bs).flat;have ht2:=htt.2;obtain ⟨PB,hPB⟩:∃PB,PB=wr.heap.size:=⟨_,rfl⟩;have HPB:=hide hPB;rw [← hPB] at kp ⊢;have HKP:=hide kp;clear hPB kp ks st bs htt;(go_wp2_with fail);refine (za8 head ((k:Int)+1) _).mono ?_;rintro e wl ⟨rfl,hwl⟩;have bl:Below ws.heap.size ws wl:=by rw [hwl]; exact zh _ _
     have kl:wl.heap[ws.heap.size]? = some (.cells #[.int .i64 1,.int .i64 3,.int .i64 1,.int .i64 head,.int .i64 ((k:Int)+1)] 3):=by rw [hwl]; exact zv _ _
     have hbase:wr.heap.size≤ws.heap.size:=HBS.out.size;have own:=zT intF (base:=wr.heap.size) (l:=[1,3,1,head,(k:Int)+1]) kl rfl hbase (by simp);have HBL:=hide (zd HBS.out bl);have hirl:=hir.below bl;clear hir hwl;go_wp2_with (at_builtin; refine zw (F:=intF) _ rfl _ _ 27 3 rfl wr.heap.size Tryz.underlying27 Tryz.infoI64 rfl (by decide) _ 5 [1,3,1,head,(k:Int)+1] rfl own t.a t.n t.c t.z rfl hirl (by omega) HBL.out.size ?_)
     intro na nc wn how _ hgr hb;have HB:=hide (HBL.out.trans hb);have hPBl:=(Array.getElem?_eq_some_iff.1 HKP.out).1;have kpn:=zA (ze HKP.out bl) hgr (fun b hb2=>by cases hb2; show ws.heap.size≠PB; omega);have ksn:=(HB.out.block WB HWL.out).trans HKR.out;have hyo:(G k j).o=[1,3,1,head,(k:Int)+1]++t.z:=by rw [HG.out]; rfl
     obtain ⟨y,hy⟩:∃y:TH,y=⟨na,5+t.n,nc,WB,PB,G k j⟩:=⟨_,rfl⟩;have HOY:Hid (wn.ownsRow wr.heap.size 3 1 (.slice y.oa y.on y.oc) y.on (cI y.d.o)):=hide (by rw [hy]; show wn.ownsRow wr.heap.size 3 1 (.slice na (5+t.n) nc) (5+t.n) (cI (G k j).o); rw [hyo,← zF]; exact how);have HIY:Hid (I64s y.d.o):=hide (by rw [hy]; show I64s (G k j).o; rw [hyo]; exact zdC (by intro z hz; simp at hz; omega) HIT.out);have HBX:Hid (Boxed wn cl tn G y):=hide (by rw [hy]; exact ⟨k,j,cf,HCF.out,hjn,rfl,ksn,kpn⟩);have HYD:Hid (y.d=G k j):=hide (by rw [hy]);clear how hgr hb hPBl hyo hirl own bl kl;generalize hwy:wn.alloc (Obj.cells #[.slice na (5+t.n) nc,.func (.func 275) #[] #[.pointer (some ⟨WB,0,none⟩),.pointer (some ⟨PB,0,none⟩)]] 91)=wy;have by1:=zb hwy;have gone:GRow thF wy (some ⟨wn.heap.size,0,none⟩) 1 1 [y]:=by rw [← hwy]; exact zaz thF wn y _ _ (by rw [hy]; rfl)
     have HBY:=hide (zd HB.out by1);have hrow:=(HST.out.later HBY.out).row;have HROW:=hide hrow;have HKY:=hide (ze ksn by1);have HOY1:=hide (zo HOY.out by1);have HBX1:=hide (HBX.out.below by1);have hbw:w.heap.size≤wy.heap.size:=Nat.le_trans HST.out.below.size HBY.out.size;have hl72:=HLL.out;clear by1 hy ksn kpn;go_wp2_with (at_builtin; refine zw (F:=thF) _ rfl _ _ 87 91 rfl w.heap.size Tryz.underlying87 zhS rfl (by decide) _ l.length l rfl hrow (some ⟨wn.heap.size,0,none⟩) 1 1 [y] rfl gone (by omega) hbw ?_)
     intro ao2 cap2 we how2 _ hgr2 _;have HLN:Hid ((l++[y]).length=l.length+1):=hide (by simp);have HST2:=hide (HST.out.push (y:=y) HBY.out HOY1.out HIY.out HBX1.out hgr2 (by rw [HLN.out]; exact how2));have n1:(61:Nat)≠91:=by decide
     have HK2:=hide (zA HKY.out hgr2 (zdM HROW.out HKY.out n1));have HD2:Hid ((l++[y]).map TH.d=zbM G tn k++rowTo (G k) (j+1)):=hide (by rw [List.map_append,HD.out,List.map_singleton,HYD.out,rowTo,List.append_assoc]);clear how2 hgr2 gone hrow hbw hwy;go_wp2
     go_roundw
     case rel=>exact ⟨j+1,ao2,cap2,l++[y],by rw [HLN.out],by go_num,by omega,HD2.out,HST2.out,HK2.out⟩
     case measure=>simp [intOf]; omega
    ·have hjn':¬(j:Int) < (tn:Int):=by omega
     have hjt:j=tn:=by omega
     have hd2:l.map TH.d=zbM G tn (k+1):=by rw [hd,hjt]; rfl
     have HD:=hide hd2;have HST:=hide st;clear hd hd2 st ks;go_wp2
     go_roundw
     case rel=>exact ⟨k+1,ao,cap,l,rfl,by go_num,by omega,HD.out,HST.out⟩
     case measure=>simp [intOf]; omega
  ·have hkm':¬(k:Int) < (m:Int):=by omega
   have hkm2:k=m:=by omega
   subst hkm2;have HD:=hide hd;have HST:=hide st;clear hd st;go_wp2;go_ret;exact ⟨ao,cap,l,rfl,HD.out,HST.out⟩

end

section
open Go.RowKit

structure Tails (w:World) (base:Nat) (ao:Option Addr) (cap:Nat) (l:List TL):Prop where
 row:w.ownsRow base 27 1 (.slice ao l.length cap) l.length (tlF.all l)
 item:∀t∈l,w.ownsRow base 3 1 (.slice t.a t.n t.c) t.n (cI t.z)∧I64s t.z∧t.n≤2

section
variable {w w' w1:World} {base:Nat} {ao ao':Option Addr} {cap cap':Nat} {l:List TL} {y:TL}
theorem Tails.below (h:Tails w base ao cap l) (hb:Below w.heap.size w w'):Tails w' base ao cap l:=⟨zo h.row hb,fun t ht=>⟨zbG (h.item t ht).1 hb,(h.item t ht).2⟩⟩
theorem Tails.push (h:Tails w base ao cap l) (hb:Below w.heap.size w w1) (hy:w1.ownsRow w.heap.size 3 1 (.slice y.a y.n y.c) y.n (cI y.z)) (hz:I64s y.z) (hn:y.n≤2) (hbs:base≤w.heap.size)
  (hg:w1.grownBy w' (Value.slice ao l.length cap).ownBlock) (hr:w'.ownsRow base 27 1 (.slice ao' (l++[y]).length cap') (l++[y]).length (tlF.all (l++[y]))):Tails w' base ao' cap' (l++[y]):=by
 have hne:(3:Nat)≠27:=by decide
 have h1:=h.below hb;refine ⟨hr,fun t ht => ?_⟩;rcases List.mem_append.1 ht with ht | ht
 ·exact ⟨zY (h1.item t ht).1 h1.row hne hg,(h1.item t ht).2⟩
 ·rw [List.mem_singleton.1 ht];exact ⟨zbc (zY hy h1.row hne hg) hbs,hz,hn⟩
theorem zgy {W:World} {X:Nat} {c0 c1 c2:Value} {T:TypeId} {K:World→Prop} (hk:W.heap[X]? = some (.cells #[c0,c1,c2] T)) (v0 v1 v2:Value) (h:∀wq,wq.heap[X]? = some (.cells #[v0,v1,v2] T)→W.grownBy wq (some X)→K wq):K (((W.setCell ⟨X,0,none⟩ v0).setCell ⟨X,1,none⟩ v1).setCell ⟨X,2,none⟩ v2):=by
 refine h _ ?_ (zaq (zaq (zl 0 _) (zl 1 _)) (zl 2 _));have h2:=zp (j:=2) (zp (j:=1) (zp (j:=0) hk v0) v1) v2
 simpa using h2
theorem zdV (w:World) (base:Nat):Tails w base none 0 []:=⟨World.ownsRow_nil _ _ _ _,(by intro t ht; cases ht)⟩
theorem Tails.reads (h:Tails w base ao cap l):GRow tlF w ao l.length cap l∧∀t∈l,IRow w t.a t.n t.c t.z∧t.n≤2 :=
 ⟨zE (F:=tlF) h.row,fun t ht=>⟨zV (h.item t ht).1 (h.item t ht).2.1,(h.item t ht).2.2⟩⟩
end

theorem zbY {w w':World} {cl:List CF} {tn:Nat} {G:Nat→Nat→BD} {ao:Option Addr} {cap:Nat} {l:List TH} (st:CoSt w w' cl tn G ao cap l)
  (H:∀(i:Nat) (c:CF),cl[i]? = some c→(∀args w,(callFunc c.f args).run Tryz.prog w=.ok (.enter c.f args) w)∧∀j,j < tn→∀w2,Below w'.heap.size w' w2→Tells w2 c.f c.caps j (G i j).K (G i j).N (G i j).S)
  (Hz:∀i j,(G i j).z=[]∧(G i j).S.size≤maxLen) {base:Nat} (hbs:base≤w.heap.size):Things w' base ao cap l:=by
 refine ⟨zE (F:=thF) st.row,st.names.lt hbs, ?_, ?_⟩
 ·intro x hx w2 hw2;obtain ⟨i,j,c,hc,hj,hd,kw,kp⟩:=st.box x hx;obtain ⟨he,ht⟩:=H i c hc;have kw2:=ze kw hw2;have kp2:=ze kp hw2;rw [hd];exact zhZ c.f c.caps j _ _ _ x.wb x.pb w2 (fun w3 hw3=>ht j hj w3 (zd hw2 hw3)) (by simp [World.cell?,kw2]) (by simp [World.cell?,kp2]) he
 ·intro x hx;obtain ⟨i,j,c,-,-,hd,-,-⟩:=st.box x hx;have h1:=(st.names.item x hx).1
  simp [cI] at h1
  rw [hd] at h1 ⊢;exact ⟨(Hz i j).1,(Hz i j).2,h1.symm⟩

def ownG (B:BR) (i _j:Nat):BD:=match i with
 | 0=>nameD B.name
 | 1=>numD [1,2] B.ticks
 | 2=>numD [1,3] B.parse
 | 3=>numD [1,4] B.word
 | _=>numD [1,(i:Int)+1] B.drops
def portG (B:BR) (i j:Nat):BD:=match B.ports[j]? with
 | some x=>portB B ((i:Int)+1) j x
 | none=>numD [2,(i:Int)+1,(j:Int)+1] 0
def rowG (B:BR) (i j:Nat):BD:=match B.v.rows[j]? with
 | some x=>rowB ((i:Int)+1) j x
 | none=>numD [] 0
def entG (B:BR) (i j:Nat):BD:=match B.f[j]? with
 | some x=>⟨nmI [4,(i:Int)+1,x.t,x.m],2,x.p+1,⟨#[]⟩,[]⟩
 | none=>numD [] 0

theorem zjw (B:BR):zbM (ownG B) 1 5=zak B:=rfl
theorem zhy (B:BR):zbM (portG B) B.ports.length 4=zaa (zai B) 4 :=
 zdz (fun i=>zdm (f:=portB B ((i:Int)+1)) (fun j x hx=>by unfold portG; rw [hx]) _ (Nat.le_refl _)) 4
theorem ziE (B:BR):zbM (rowG B) B.v.rows.length 3=zaa (zaK B) 3 :=
 zdz (fun i=>zdm (f:=rowB ((i:Int)+1)) (fun j x hx=>by unfold rowG; rw [hx]) _ (Nat.le_refl _)) 3
theorem zh9 (B:BR):zbM (entG B) B.f.length 1=zdJ B:=by
 show []++rowTo (entG B 0) B.f.length=zau entB B.f B.f.length
 rw [List.nil_append];exact zdm (f:=entB) (fun j x hx=>by unfold entG; rw [hx]; rfl) _ (Nat.le_refl _)

theorem zeZ (a:Option Addr) (n c:Nat) (fa:Option Addr) (fn fc:Nat) (ra:Option Addr) (rn rc:Nat) (oa:Option Addr) (on oc:Nat) (B:BR) (w:World) (h:BrRow w a n c fa fn fc ra rn rc oa on oc B) (hnm:B.name.size≤maxLen) :
  Calls Tryz.prog 192 #[.agg #[.int .i64 B.id,.string B.name,.slice a n c,.slice fa fn fc,.slice ra rn rc,.slice oa on oc,.int .i64 B.ticks,.int .i64 B.parse,.int .i64 B.word,.int .i64 B.drops,.int .i64 B.vers]] w fun e w'=>∃(ao:Option Addr) (cap:Nat) (l:List TH),e=.returned (.slice ao l.length cap)∧l.map TH.d=zak B∧Things w' w.heap.size ao cap l∧Below w.heap.size w w':=by
 generalize hw1:w.alloc (Obj.cells #[.int .i64 B.id,.string B.name,.slice a n c,.slice fa fn fc,.slice ra rn rc,.slice oa on oc,.int .i64 B.ticks,.int .i64 B.parse,.int .i64 B.word,.int .i64 B.drops,.int .i64 B.vers] 31)=w1;have b1:=zb hw1;have k1:=zk hw1;have HNM:=hide hnm;generalize hwt:w1.alloc (Obj.cells #[.slice none 0 0] 27)=wt;have bt:=zb hwt;have kt:=zk hwt;have b1t:=zd b1 bt;have hrow:=zT tlF (base:=w.heap.size) (l:=[⟨none,0,0,[]⟩]) kt rfl b1.size (by simp);have tls:Tails wt w.heap.size (some ⟨w1.heap.size,0,none⟩) 1 [⟨none,0,0,[]⟩]:=⟨hrow,fun t ht=>by rw [List.mem_singleton.1 ht]; exact ⟨World.ownsRow_nil _ _ _ _,(by intro z hz; cases hz),Nat.zero_le _⟩⟩;generalize hwc:wt.alloc (Obj.cells #[.func (.func 237) #[] #[.pointer (some ⟨w.heap.size,0,none⟩)],.func (.func 238) #[] #[.pointer (some ⟨w.heap.size,0,none⟩)],.func (.func 240) #[] #[.pointer (some ⟨w.heap.size,0,none⟩)],.func (.func 241) #[] #[.pointer (some ⟨w.heap.size,0,none⟩)],.func (.func 242) #[] #[.pointer (some ⟨w.heap.size,0,none⟩)]] 61)=wc;have bc:=zb hwc;have kc:=zk hwc;have hcl:=zE (F:=clF) (zT clF (base:=0) (l:=[⟨237,#[.pointer (some ⟨w.heap.size,0,none⟩)]⟩,⟨238,#[.pointer (some ⟨w.heap.size,0,none⟩)]⟩,⟨240,#[.pointer (some ⟨w.heap.size,0,none⟩)]⟩,⟨241,#[.pointer (some ⟨w.heap.size,0,none⟩)]⟩,⟨242,#[.pointer (some ⟨w.heap.size,0,none⟩)]⟩]) kc rfl (Nat.zero_le _) (by simp));have HBS:Hid (w.heap.size≤wc.heap.size):=hide (zd b1t bc).size;have HBC:=hide (zd b1t bc);have HKC:=hide (ze (ze k1 bt) bc);have HH:=hide h;have tlr:=(tls.below bc).reads;clear k1 kt kc b1 bt hrow tls b1t bc;go_enter Tryz.func192,Tryz.ntmps192;go_wp2_with fail
 refine (za0 1 _ 1 1 [⟨none,0,0,[]⟩] _ 5 [⟨237,#[.pointer (some ⟨w.heap.size,0,none⟩)]⟩,⟨238,#[.pointer (some ⟨w.heap.size,0,none⟩)]⟩,⟨240,#[.pointer (some ⟨w.heap.size,0,none⟩)]⟩,⟨241,#[.pointer (some ⟨w.heap.size,0,none⟩)]⟩,⟨242,#[.pointer (some ⟨w.heap.size,0,none⟩)]⟩] (ownG B) _ tlr.1 tlr.2 (by omega) hcl (by omega) (by omega) ?_).mono ?_
 ·intro i j t ht;have htz:t.z=[]:=by
   cases j with
   | zero=>simp at ht; rw [← ht]
   | succ j=>simp at ht
  rw [htz];unfold ownG
  split <;> rfl
 rintro e w3 ⟨ao,cap,l,rfl,hd,st⟩;have HB:=hide (zd HBC.out st.below);have KB:=hide (ze HKC.out st.below);have HT:Hid (Things w3 w.heap.size ao cap l):=hide (by
  refine zbY st (fun i cf hi => ?_) (fun i j => ?_) HBS.out
  ·have him:i < 5:=(List.getElem?_eq_some_iff.1 hi).1;rcases (show i=0∨i=1∨i=2∨i=3∨i=4 by omega) with rfl | rfl | rfl | rfl | rfl
   ·cases hi;refine ⟨enters_of Tryz.func237 (by kernel_rfl) rfl,fun j hj w2 hw2 => ?_⟩;exact zir a n c fa fn fc ra rn rc oa on oc B (j:Int) w.heap.size w2 (ze KB.out hw2)
   ·cases hi;refine ⟨enters_of Tryz.func238 (by kernel_rfl) rfl,fun j hj w2 hw2 => ?_⟩;exact zis a n c fa fn fc ra rn rc oa on oc B (j:Int) w.heap.size w2 (ze KB.out hw2)
   ·cases hi;refine ⟨enters_of Tryz.func240 (by kernel_rfl) rfl,fun j hj w2 hw2 => ?_⟩;exact zit a n c fa fn fc ra rn rc oa on oc B (j:Int) w.heap.size w2 (ze KB.out hw2)
   ·cases hi;refine ⟨enters_of Tryz.func241 (by kernel_rfl) rfl,fun j hj w2 hw2 => ?_⟩;exact ziu a n c fa fn fc ra rn rc oa on oc B (j:Int) w.heap.size w2 (ze KB.out hw2)
   ·cases hi;refine ⟨enters_of Tryz.func242 (by kernel_rfl) rfl,fun j hj w2 hw2 => ?_⟩;exact ziv a n c fa fn fc ra rn rc oa on oc B (j:Int) w.heap.size w2 (ze KB.out hw2)
  ·unfold ownG
   split
   ·exact ⟨rfl,HNM.out⟩
   all_goals exact ⟨rfl,Nat.zero_le _⟩
  )
 have HD:=hide hd;clear hd st;go_wp2;go_ret;exact ⟨ao,cap,l,rfl,(by rw [HD.out]; rfl),HT.out,HB.out⟩
 

end

def colOf (z:List Int):Int × Int × Int:=if z.length=6∧z.take 3=[1,3,1] then (z.getD 3 0,z.getD 4 0,z.getD 5 0) else (0,0,0)

theorem zgf {p0 p1 p2 p3 p4:Int}:[p0,p1,p2,p3,p4]=[1,3,1,p3,p4]↔[p0,p1,p2]=[1,3,1]:=by simp

theorem ziX {z:List Int} (h:z.length=6):∃p0 p1 p2 p3 p4 p5,z=[p0,p1,p2,p3,p4,p5]:=by
 match z,h with
 | [a,b,c,d,e,f],_=>exact ⟨a,b,c,d,e,f,rfl⟩

theorem ze2 (a:Option Addr) (n c:Nat) (z:List Int) (w:World) (h:IRow w a n c z) :
  Calls Tryz.prog 214 #[.slice a n c] w fun e w'=>e=.returned (.tuple #[.int .i64 (colOf z).1,.int .i64 (colOf z).2.1,.int .i64 (colOf z).2.2])∧Below w.heap.size w w':=by
 have hsz:=h.size;have htop:=h.top;have hle:=h.le;by_cases h6:n=6
 ·subst h6;obtain ⟨p0,p1,p2,p3,p4,p5,rfl⟩:=ziX hsz;obtain ⟨b,off,rfl,hc⟩:=h.at (by omega);have hc5:(5:Int)≤(c:Int):=by omega
  have HH:=hide h;have HRG:Hid (I64s [1,3,1,p3,p4]):=hide (by
   have h3:=h.byte p3 (by simp);have h4:=h.byte p4 (by simp);intro y hy;simp only [List.mem_cons,List.not_mem_nil,or_false] at hy;rcases hy with rfl | rfl | rfl | rfl | rfl
   ·omega
   ·omega
   ·omega
   ·exact h3
   ·exact h4)
  have HS:Hid (∀W,Below w.heap.size w W→(zcc W b (off+3) (.int .i64 (p3))∧zcc W b (off+4) (.int .i64 (p4))∧zcc W b (off+5) (.int .i64 (p5)))):=hide (fun W hW=>⟨(hW.cell (zu (hc 3 (by omega)))).trans (hc 3 (by omega)),(hW.cell (zu (hc 4 (by omega)))).trans (hc 4 (by omega)),(hW.cell (zu (hc 5 (by omega)))).trans (hc 5 (by omega))⟩);have vv:Below w.heap.size w w.drew:=zr (Below.refl _ _);by_cases ht:[p0,p1,p2]=[1,3,1]
  ·have HYES:Hid (colOf [p0,p1,p2,p3,p4,p5]=(p3,p4,p5)):=hide (by unfold colOf; rw [if_pos ⟨hsz,ht⟩]; rfl);have HYE:Hid (decide ([p0,p1,p2,p3,p4]=[1,3,1,p3,p4])=true):=hide (decide_eq_true (zgf.2 ht));clear ht h hc hsz;go_enter Tryz.func214,Tryz.ntmps214;(go_upto_region 1 with fail);refine wp_region_held_drew (S:=(fun W=>zcc W b (off+3) (.int .i64 (p3))∧zcc W b (off+4) (.int .i64 (p4))∧zcc W b (off+5) (.int .i64 (p5)))) (by kernel_rfl) (HS.out _ vv) (fun hHeld => ?_);refine kK 0 ?_;refine kK 1 ?_;refine kK 2 ?_;refine kK 3 ?_;refine kK 4 ?_;refine kK 5 ?_;refine kK 6 ?_;refine kK 7 ?_;refine kK 8 ?_;refine kK 9 ?_;refine kK 10 ?_;refine kK 11 ?_;refine kR 12 fun K hK => ?_
   go_simp;clear hHeld;refine (za8 (p3) (p4) _).mono ?_;rintro e z1 ⟨rfl,hz1⟩;have hb1:Below w.drew.heap.size w.drew z1:=by rw [hz1]; exact zh _ _
   have kl:z1.heap[w.drew.heap.size]? = some (.cells #[.int .i64 1,.int .i64 3,.int .i64 1,.int .i64 p3,.int .i64 p4] 3):=by rw [hz1]; exact zv _ _
   have own:=zT intF (base:=w.heap.size) (l:=[1,3,1,p3,p4]) kl rfl vv.size (by simp);have HI:Hid (IRow z1 _ 5 5 [1,3,1,p3,p4]):=hide (zV (by rw [← zF]; exact own) HRG.out);have vv:=zd vv hb1;clear hz1 kl own hb1;(go_wp2_with fail);refine kO hK (HS.out _ vv) fun hHeld => ?_
   clear hK K;refine kR 13 fun K hK => ?_
   go_simp;clear hHeld;refine (zbn _ 5 c ([p0,p1,p2,p3,p4]) _ 5 5 [1,3,1,p3,p4] _ ((HH.out.below vv).take 5 (by omega)) HI.out).mono ?_;rintro e z2 ⟨rfl,nd,rfl⟩;rw [HYE.out];have HB0:=hide vv;have vv:=zap vv nd;(go_wp2_with fail);refine kO hK (HS.out _ vv) fun hHeld => ?_
   clear hK K;refine kK 14 ?_;refine kK 15 ?_;refine wpAnyH_done (by kernel_rfl) ?_ _;have HB:=hide vv;clear hHeld vv;obtain ⟨s0,s1,s2⟩:=HS.out _ HB0.out;(go_wp2_with fail)
   go_quiet (fail)
   go_wp2;exact bodyPost_ret (v:=.tuple #[.int .i64 (p3),.int .i64 (p4),.int .i64 (p5)]) (by simp [results,Tryz.results214,go_sem, *]) rfl ⟨by rw [HYES.out],zap HB.out _⟩
  ·have HNO:Hid (colOf [p0,p1,p2,p3,p4,p5]=(0,0,0)):=hide (by unfold colOf; rw [if_neg (fun e=>ht e.2)]);have HYE:Hid (decide ([p0,p1,p2,p3,p4]=[1,3,1,p3,p4])=false):=hide (decide_eq_false (fun e=>ht (zgf.1 e)));clear ht h hc hsz;go_enter Tryz.func214,Tryz.ntmps214;(go_upto_region 1 with fail);refine wp_region_held_drew (S:=(fun W=>zcc W b (off+3) (.int .i64 (p3))∧zcc W b (off+4) (.int .i64 (p4))∧zcc W b (off+5) (.int .i64 (p5)))) (by kernel_rfl) (HS.out _ vv) (fun hHeld => ?_);refine kK 0 ?_;refine kK 1 ?_;refine kK 2 ?_;refine kK 3 ?_;refine kK 4 ?_;refine kK 5 ?_;refine kK 6 ?_;refine kK 7 ?_;refine kK 8 ?_;refine kK 9 ?_;refine kK 10 ?_;refine kK 11 ?_;refine kR 12 fun K hK => ?_
   go_simp;clear hHeld;refine (za8 (p3) (p4) _).mono ?_;rintro e z1 ⟨rfl,hz1⟩;have hb1:Below w.drew.heap.size w.drew z1:=by rw [hz1]; exact zh _ _
   have kl:z1.heap[w.drew.heap.size]? = some (.cells #[.int .i64 1,.int .i64 3,.int .i64 1,.int .i64 p3,.int .i64 p4] 3):=by rw [hz1]; exact zv _ _
   have own:=zT intF (base:=w.heap.size) (l:=[1,3,1,p3,p4]) kl rfl vv.size (by simp);have HI:Hid (IRow z1 _ 5 5 [1,3,1,p3,p4]):=hide (zV (by rw [← zF]; exact own) HRG.out);have vv:=zd vv hb1;clear hz1 kl own hb1;(go_wp2_with fail);refine kO hK (HS.out _ vv) fun hHeld => ?_
   clear hK K;refine kR 13 fun K hK => ?_
   go_simp;clear hHeld;refine (zbn _ 5 c ([p0,p1,p2,p3,p4]) _ 5 5 [1,3,1,p3,p4] _ ((HH.out.below vv).take 5 (by omega)) HI.out).mono ?_;rintro e z2 ⟨rfl,nd,rfl⟩;rw [HYE.out];have HB0:=hide vv;have vv:=zap vv nd;(go_wp2_with fail);refine kO hK (HS.out _ vv) fun hHeld => ?_
   clear hK K;refine kK 14 ?_;refine kK 15 ?_;refine wpAnyH_done (by kernel_rfl) ?_ _;have HB:=hide vv;clear hHeld vv;go_wp2;exact bodyPost_ret (v:=.tuple #[.int .i64 0,.int .i64 0,.int .i64 0]) (by simp [results,Tryz.results214,go_sem, *]) rfl ⟨by rw [HNO.out],HB.out⟩
 ·have HNO:Hid (colOf z=(0,0,0)):=hide (by unfold colOf; rw [if_neg (fun e=>h6 (hsz▸e.1))]);have hn:¬(n:Int)=6:=by omega
  have hn2:((n:Int) != 6)=true:=by simpa using hn
  have vv:Below w.heap.size w w.drew:=zr (Below.refl _ _);clear h hsz;go_enter Tryz.func214,Tryz.ntmps214;(go_upto_region 1 with fail);refine wp_region_held_drew (S:=(fun _=>True)) (by kernel_rfl) (trivial) (fun hHeld => ?_);refine kK 0 ?_;refine kK 1 ?_;refine kV 2 (.bool true) ?_;refine kK 3 ?_;refine kN 4 ?_;refine kN 5 ?_;refine kN 6 ?_;refine kN 7 ?_;refine kN 8 ?_;refine kN 9 ?_;refine kN 10 ?_;refine kN 11 ?_;refine kN 12 ?_;refine kN 13 ?_;refine kN 14 ?_;refine kK 15 ?_;refine wpAnyH_done (by kernel_rfl) ?_ _;clear hHeld vv;go_wp2;exact bodyPost_ret (v:=.tuple #[.int .i64 0,.int .i64 0,.int .i64 0]) (by simp [results,Tryz.results214,go_sem, *]) rfl ⟨by rw [HNO.out],(Below.refl _ _).drew⟩

end Go.Proofs.YtcpdkcdfnpcemaaGreat
