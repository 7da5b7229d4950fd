/-
  Packed: MibWor MibCols MibCo MibName.
-/
import Derived.Test.YtcpdkcdfnpcemaaGreatPHBrOkS
import Derived.Test.YtcpdkcdfnpcemaaGreatPHK11
import Derived.Laws.EntriesVeiled
namespace Go.Proofs.YtcpdkcdfnpcemaaGreat
set_option maxRecDepth 100000
set_option maxHeartbeats 16000000
open Go.RowKit

theorem zV (x:Int) (w:World) :
  Calls Tryz.prog 239 #[.int .i64 x] w fun e w'=>e=.returned (.agg #[.int .i64 2,.int .i64 x,.string ⟨#[]⟩,.slice none 0 0])∧Below w.heap.size w w':=by
 go_enter Tryz.func239,Tryz.ntmps239;go_wp2;exact bodyPost_ret (v:=.agg #[.int .i64 2,.int .i64 x,.string ⟨#[]⟩,.slice none 0 0]) (by simp [results,Tryz.results239,go_sem]) rfl ⟨rfl,zh _ _⟩

theorem zhh (q:Bool) (w:World) :
  Calls Tryz.prog 245 #[.bool q] w fun e w'=>e=.returned (.int .i64 (if q=true then 1 else 0))∧w'=w:=by
 cases q
 ·go_enter Tryz.func245,Tryz.ntmps245;go_wp2;go_ret;exact ⟨rfl,rfl⟩
 ·go_enter Tryz.func245,Tryz.ntmps245;go_wp2;go_ret;exact ⟨rfl,rfl⟩

theorem zbT (x:Int) (hx:0≤x∧x≤1000) (w:World) :
  Calls Tryz.prog 243 #[.int .i64 x] w fun e w'=>e=.returned (.int .i64 (x+1))∧w'=w:=by
 have e1:IntKind.i64.wrap (x+1)=x+1:=by rw [IntKind.wrap_i64]; omega
 go_enter Tryz.func243,Tryz.ntmps243;go_wp2;go_ret;exact ⟨by first | rfl | (simp [e1]),rfl⟩

theorem zia (a:Option Addr) (n c:Nat) (fa:Option Addr) (fn fc:Nat) (ra:Option Addr) (rn rc:Nat) (oa:Option Addr) (on oc:Nat) (B:BR) (p:Int) (g:Nat) (w:World) (kb:w.heap[g]? = some (.cells #[.int .i64 B.id,.string B.name,.slice a n c,.slice fa fn fc,.slice ra rn rc,.slice oa on oc,.int .i64 B.ticks,.int .i64 B.parse,.int .i64 B.word,.int .i64 B.drops,.int .i64 B.vers] 31)) :
  Calls Tryz.prog 237 #[.int .i64 p,.pointer (some ⟨g,0,none⟩)] w fun e w'=>e=.returned (.agg #[.int .i64 4,.int .i64 0,.string B.name,.slice none 0 0])∧Below w.heap.size w w':=by
 generalize hw1:w.alloc (Obj.cells #[.int .i64 0,.int .i64 0,.string ⟨#[]⟩,.slice none 0 0] 35)=w1;have b1:=zb hw1;have k1:=zk hw1;obtain ⟨⟨p0,p1,p2,p3⟩,f0,f1,f2,f3⟩:=zat k1;obtain ⟨x0,x1,x2,x3,x4,x5,x6,x7,x8,x9,x10⟩:=zj (ze kb b1);go_enter Tryz.func237,Tryz.ntmps237;have HB:=hide b1;go_wp2;refine bodyPost_ret (v:=.agg #[.int .i64 4,.int .i64 0,.string B.name,.slice none 0 0]) (by simp [results,Tryz.results237,go_sem, *]) rfl ⟨rfl,zai HB.out (Nat.le_refl _) _ _ _ _⟩

theorem zib (a:Option Addr) (n c:Nat) (fa:Option Addr) (fn fc:Nat) (ra:Option Addr) (rn rc:Nat) (oa:Option Addr) (on oc:Nat) (B:BR) (p:Int) (g:Nat) (w:World) (kb:w.heap[g]? = some (.cells #[.int .i64 B.id,.string B.name,.slice a n c,.slice fa fn fc,.slice ra rn rc,.slice oa on oc,.int .i64 B.ticks,.int .i64 B.parse,.int .i64 B.word,.int .i64 B.drops,.int .i64 B.vers] 31)) :
  Calls Tryz.prog 238 #[.int .i64 p,.pointer (some ⟨g,0,none⟩)] w fun e w'=>e=.returned (.agg #[.int .i64 2,.int .i64 B.ticks,.string ⟨#[]⟩,.slice none 0 0])∧Below w.heap.size w w':=by
 generalize hw1:w.alloc (Obj.cells #[.int .i64 0,.int .i64 0,.string ⟨#[]⟩,.slice none 0 0] 35)=w1;have b1:=zb hw1;have k1:=zk hw1;obtain ⟨⟨p0,p1,p2,p3⟩,f0,f1,f2,f3⟩:=zat k1;obtain ⟨x0,x1,x2,x3,x4,x5,x6,x7,x8,x9,x10⟩:=zj (ze kb b1);go_enter Tryz.func238,Tryz.ntmps238;go_wp2_with fail
 refine (zV B.ticks _).mono ?_;rintro e w2 ⟨rfl,hb2⟩;have HB:=hide (zd b1 hb2);have k2:=ze k1 hb2;clear p0 p1 p2 p3 f0 f1 f2 f3;obtain ⟨⟨p0,p1,p2,p3⟩,f0,f1,f2,f3⟩:=zat k2;go_wp2;refine bodyPost_ret (v:=.agg #[.int .i64 2,.int .i64 B.ticks,.string ⟨#[]⟩,.slice none 0 0]) (by simp [results,Tryz.results238,go_sem, *]) rfl ⟨rfl,zai HB.out (Nat.le_refl _) _ _ _ _⟩

theorem zic (a:Option Addr) (n c:Nat) (fa:Option Addr) (fn fc:Nat) (ra:Option Addr) (rn rc:Nat) (oa:Option Addr) (on oc:Nat) (B:BR) (p:Int) (g:Nat) (w:World) (kb:w.heap[g]? = some (.cells #[.int .i64 B.id,.string B.name,.slice a n c,.slice fa fn fc,.slice ra rn rc,.slice oa on oc,.int .i64 B.ticks,.int .i64 B.parse,.int .i64 B.word,.int .i64 B.drops,.int .i64 B.vers] 31)) :
  Calls Tryz.prog 240 #[.int .i64 p,.pointer (some ⟨g,0,none⟩)] w fun e w'=>e=.returned (.agg #[.int .i64 2,.int .i64 B.parse,.string ⟨#[]⟩,.slice none 0 0])∧Below w.heap.size w w':=by
 generalize hw1:w.alloc (Obj.cells #[.int .i64 0,.int .i64 0,.string ⟨#[]⟩,.slice none 0 0] 35)=w1;have b1:=zb hw1;have k1:=zk hw1;obtain ⟨⟨p0,p1,p2,p3⟩,f0,f1,f2,f3⟩:=zat k1;obtain ⟨x0,x1,x2,x3,x4,x5,x6,x7,x8,x9,x10⟩:=zj (ze kb b1);go_enter Tryz.func240,Tryz.ntmps240;go_wp2_with fail
 refine (zV B.parse _).mono ?_;rintro e w2 ⟨rfl,hb2⟩;have HB:=hide (zd b1 hb2);have k2:=ze k1 hb2;clear p0 p1 p2 p3 f0 f1 f2 f3;obtain ⟨⟨p0,p1,p2,p3⟩,f0,f1,f2,f3⟩:=zat k2;go_wp2;refine bodyPost_ret (v:=.agg #[.int .i64 2,.int .i64 B.parse,.string ⟨#[]⟩,.slice none 0 0]) (by simp [results,Tryz.results240,go_sem, *]) rfl ⟨rfl,zai HB.out (Nat.le_refl _) _ _ _ _⟩

theorem zid (a:Option Addr) (n c:Nat) (fa:Option Addr) (fn fc:Nat) (ra:Option Addr) (rn rc:Nat) (oa:Option Addr) (on oc:Nat) (B:BR) (p:Int) (g:Nat) (w:World) (kb:w.heap[g]? = some (.cells #[.int .i64 B.id,.string B.name,.slice a n c,.slice fa fn fc,.slice ra rn rc,.slice oa on oc,.int .i64 B.ticks,.int .i64 B.parse,.int .i64 B.word,.int .i64 B.drops,.int .i64 B.vers] 31)) :
  Calls Tryz.prog 241 #[.int .i64 p,.pointer (some ⟨g,0,none⟩)] w fun e w'=>e=.returned (.agg #[.int .i64 2,.int .i64 B.word,.string ⟨#[]⟩,.slice none 0 0])∧Below w.heap.size w w':=by
 generalize hw1:w.alloc (Obj.cells #[.int .i64 0,.int .i64 0,.string ⟨#[]⟩,.slice none 0 0] 35)=w1;have b1:=zb hw1;have k1:=zk hw1;obtain ⟨⟨p0,p1,p2,p3⟩,f0,f1,f2,f3⟩:=zat k1;obtain ⟨x0,x1,x2,x3,x4,x5,x6,x7,x8,x9,x10⟩:=zj (ze kb b1);go_enter Tryz.func241,Tryz.ntmps241;go_wp2_with fail
 refine (zV B.word _).mono ?_;rintro e w2 ⟨rfl,hb2⟩;have HB:=hide (zd b1 hb2);have k2:=ze k1 hb2;clear p0 p1 p2 p3 f0 f1 f2 f3;obtain ⟨⟨p0,p1,p2,p3⟩,f0,f1,f2,f3⟩:=zat k2;go_wp2;refine bodyPost_ret (v:=.agg #[.int .i64 2,.int .i64 B.word,.string ⟨#[]⟩,.slice none 0 0]) (by simp [results,Tryz.results241,go_sem, *]) rfl ⟨rfl,zai HB.out (Nat.le_refl _) _ _ _ _⟩

theorem zie (a:Option Addr) (n c:Nat) (fa:Option Addr) (fn fc:Nat) (ra:Option Addr) (rn rc:Nat) (oa:Option Addr) (on oc:Nat) (B:BR) (p:Int) (g:Nat) (w:World) (kb:w.heap[g]? = some (.cells #[.int .i64 B.id,.string B.name,.slice a n c,.slice fa fn fc,.slice ra rn rc,.slice oa on oc,.int .i64 B.ticks,.int .i64 B.parse,.int .i64 B.word,.int .i64 B.drops,.int .i64 B.vers] 31)) :
  Calls Tryz.prog 242 #[.int .i64 p,.pointer (some ⟨g,0,none⟩)] w fun e w'=>e=.returned (.agg #[.int .i64 2,.int .i64 B.drops,.string ⟨#[]⟩,.slice none 0 0])∧Below w.heap.size w w':=by
 generalize hw1:w.alloc (Obj.cells #[.int .i64 0,.int .i64 0,.string ⟨#[]⟩,.slice none 0 0] 35)=w1;have b1:=zb hw1;have k1:=zk hw1;obtain ⟨⟨p0,p1,p2,p3⟩,f0,f1,f2,f3⟩:=zat k1;obtain ⟨x0,x1,x2,x3,x4,x5,x6,x7,x8,x9,x10⟩:=zj (ze kb b1);go_enter Tryz.func242,Tryz.ntmps242;go_wp2_with fail
 refine (zV B.drops _).mono ?_;rintro e w2 ⟨rfl,hb2⟩;have HB:=hide (zd b1 hb2);have k2:=ze k1 hb2;clear p0 p1 p2 p3 f0 f1 f2 f3;obtain ⟨⟨p0,p1,p2,p3⟩,f0,f1,f2,f3⟩:=zat k2;go_wp2;refine bodyPost_ret (v:=.agg #[.int .i64 2,.int .i64 B.drops,.string ⟨#[]⟩,.slice none 0 0]) (by simp [results,Tryz.results242,go_sem, *]) rfl ⟨rfl,zai HB.out (Nat.le_refl _) _ _ _ _⟩

theorem zhl (a:Option Addr) (n c:Nat) (fa:Option Addr) (fn fc:Nat) (ra:Option Addr) (rn rc:Nat) (oa:Option Addr) (on oc:Nat) (B:BR) (j:Nat) (g:Nat) (w:World) (kb:w.heap[g]? = some (.cells #[.int .i64 B.id,.string B.name,.slice a n c,.slice fa fn fc,.slice ra rn rc,.slice oa on oc,.int .i64 B.ticks,.int .i64 B.parse,.int .i64 B.word,.int .i64 B.drops,.int .i64 B.vers] 31)) (hp:GRow ptF w a n c B.ports) (x:PT) (hx:B.ports[j]? = some x) :
  Calls Tryz.prog 244 #[.int .i64 (j:Int),.pointer (some ⟨g,0,none⟩)] w fun e w'=>e=.returned (.agg #[.int .i64 2,.int .i64 (portW B 1 j x),.string ⟨#[]⟩,.slice none 0 0])∧Below w.heap.size w w':=by
 generalize hw1:w.alloc (Obj.cells #[.int .i64 0,.int .i64 0,.string ⟨#[]⟩,.slice none 0 0] 35)=w1;have b1:=zb hw1;have k1:=zk hw1;obtain ⟨⟨p0,p1,p2,p3⟩,f0,f1,f2,f3⟩:=zat k1;obtain ⟨x0,x1,x2,x3,x4,x5,x6,x7,x8,x9,x10⟩:=zj (ze kb b1);have hj:j < n:=by have:=(List.getElem?_eq_some_iff.1 hx).1; have:=hp.size; omega
 have hle:=hp.le;obtain ⟨y,b,off,hy,rfl,c0,c1,c2,c3,c4,c5,c6,c7⟩:=pt_at (hp.below b1) j hj;rw [hx] at hy;cases hy;have hj':(j:Int) < (n:Int):=by omega
 have hW:portW B 1 j x=if x.up=true then 1 else 0:=by unfold portW; rw [if_pos rfl]
 have HW:=hide hW;clear hW hx hp;go_enter Tryz.func244,Tryz.ntmps244;go_wp2_with fail
 refine (zhh x.up _).mono ?_;rintro e w3 ⟨rfl,ew⟩;obtain rfl:=ew.symm;rw [← HW.out];go_wp2_with fail
 refine (zV (portW B 1 j x) _).mono ?_;rintro e w2 ⟨rfl,hb2⟩;have HB:=hide (zd b1 hb2);have k2:=ze k1 hb2;clear p0 p1 p2 p3 f0 f1 f2 f3;obtain ⟨⟨p0,p1,p2,p3⟩,f0,f1,f2,f3⟩:=zat k2;go_wp2;refine bodyPost_ret (v:=.agg #[.int .i64 2,.int .i64 (portW B 1 j x),.string ⟨#[]⟩,.slice none 0 0]) (by simp [results,Tryz.results244,go_sem, *]) rfl ⟨rfl,zai HB.out (Nat.le_refl _) _ _ _ _⟩

theorem zhm (a:Option Addr) (n c:Nat) (fa:Option Addr) (fn fc:Nat) (ra:Option Addr) (rn rc:Nat) (oa:Option Addr) (on oc:Nat) (B:BR) (j:Nat) (g:Nat) (w:World) (kb:w.heap[g]? = some (.cells #[.int .i64 B.id,.string B.name,.slice a n c,.slice fa fn fc,.slice ra rn rc,.slice oa on oc,.int .i64 B.ticks,.int .i64 B.parse,.int .i64 B.word,.int .i64 B.drops,.int .i64 B.vers] 31)) (hp:GRow ptF w a n c B.ports) (x:PT) (hx:B.ports[j]? = some x) :
  Calls Tryz.prog 246 #[.int .i64 (j:Int),.pointer (some ⟨g,0,none⟩)] w fun e w'=>e=.returned (.agg #[.int .i64 2,.int .i64 (portW B 2 j x),.string ⟨#[]⟩,.slice none 0 0])∧Below w.heap.size w w':=by
 generalize hw1:w.alloc (Obj.cells #[.int .i64 0,.int .i64 0,.string ⟨#[]⟩,.slice none 0 0] 35)=w1;have b1:=zb hw1;have k1:=zk hw1;obtain ⟨⟨p0,p1,p2,p3⟩,f0,f1,f2,f3⟩:=zat k1;obtain ⟨x0,x1,x2,x3,x4,x5,x6,x7,x8,x9,x10⟩:=zj (ze kb b1);have hj:j < n:=by have:=(List.getElem?_eq_some_iff.1 hx).1; have:=hp.size; omega
 have hle:=hp.le;obtain ⟨y,b,off,hy,rfl,c0,c1,c2,c3,c4,c5,c6,c7⟩:=pt_at (hp.below b1) j hj;rw [hx] at hy;cases hy;have hj':(j:Int) < (n:Int):=by omega
 have hW:portW B 2 j x=x.k:=by unfold portW; rw [if_neg (by decide),if_pos rfl]
 rw [hW];clear hW hx hp;go_enter Tryz.func246,Tryz.ntmps246;go_wp2_with fail
 refine (zV x.k _).mono ?_;rintro e w2 ⟨rfl,hb2⟩;have HB:=hide (zd b1 hb2);have k2:=ze k1 hb2;clear p0 p1 p2 p3 f0 f1 f2 f3;obtain ⟨⟨p0,p1,p2,p3⟩,f0,f1,f2,f3⟩:=zat k2;go_wp2;refine bodyPost_ret (v:=.agg #[.int .i64 2,.int .i64 x.k,.string ⟨#[]⟩,.slice none 0 0]) (by simp [results,Tryz.results246,go_sem, *]) rfl ⟨rfl,zai HB.out (Nat.le_refl _) _ _ _ _⟩

theorem zhn (a:Option Addr) (n c:Nat) (fa:Option Addr) (fn fc:Nat) (ra:Option Addr) (rn rc:Nat) (oa:Option Addr) (on oc:Nat) (B:BR) (j:Nat) (g:Nat) (w:World) (kb:w.heap[g]? = some (.cells #[.int .i64 B.id,.string B.name,.slice a n c,.slice fa fn fc,.slice ra rn rc,.slice oa on oc,.int .i64 B.ticks,.int .i64 B.parse,.int .i64 B.word,.int .i64 B.drops,.int .i64 B.vers] 31)) (hp:GRow ptF w a n c B.ports) (x:PT) :
  Calls Tryz.prog 247 #[.int .i64 (j:Int),.pointer (some ⟨g,0,none⟩)] w fun e w'=>e=.returned (.agg #[.int .i64 2,.int .i64 (portW B 3 j x),.string ⟨#[]⟩,.slice none 0 0])∧Below w.heap.size w w':=by
 generalize hw1:w.alloc (Obj.cells #[.int .i64 0,.int .i64 0,.string ⟨#[]⟩,.slice none 0 0] 35)=w1;have b1:=zb hw1;have k1:=zk hw1;obtain ⟨⟨p0,p1,p2,p3⟩,f0,f1,f2,f3⟩:=zat k1;obtain ⟨x0,x1,x2,x3,x4,x5,x6,x7,x8,x9,x10⟩:=zj (ze kb b1);have hW:portW B 3 j x=zav B.id B.ports (j:Int):=by unfold portW; rw [if_neg (by decide),if_neg (by decide),if_pos rfl]
 rw [hW];clear hW;go_enter Tryz.func247,Tryz.ntmps247;go_wp2_with fail
 refine (zeN B.id a n c B.ports (j:Int) _ (hp.below b1)).mono ?_;rintro e w3 ⟨rfl,hb1⟩;go_wp2_with fail
 refine (zV (zav B.id B.ports (j:Int)) _).mono ?_;rintro e w2 ⟨rfl,hb2⟩;have HB:=hide (zd (zd b1 hb1) hb2);have k2:=ze (ze k1 hb1) hb2;clear p0 p1 p2 p3 f0 f1 f2 f3;obtain ⟨⟨p0,p1,p2,p3⟩,f0,f1,f2,f3⟩:=zat k2;go_wp2;refine bodyPost_ret (v:=.agg #[.int .i64 2,.int .i64 (zav B.id B.ports (j:Int)),.string ⟨#[]⟩,.slice none 0 0]) (by simp [results,Tryz.results247,go_sem, *]) rfl ⟨rfl,zai HB.out (Nat.le_refl _) _ _ _ _⟩

theorem zho (a:Option Addr) (n c:Nat) (fa:Option Addr) (fn fc:Nat) (ra:Option Addr) (rn rc:Nat) (oa:Option Addr) (on oc:Nat) (B:BR) (j:Nat) (g:Nat) (w:World) (kb:w.heap[g]? = some (.cells #[.int .i64 B.id,.string B.name,.slice a n c,.slice fa fn fc,.slice ra rn rc,.slice oa on oc,.int .i64 B.ticks,.int .i64 B.parse,.int .i64 B.word,.int .i64 B.drops,.int .i64 B.vers] 31)) (hv:IRow w oa on oc B.v.own) (hj:j < on) (x:PT) :
  Calls Tryz.prog 248 #[.int .i64 (j:Int),.pointer (some ⟨g,0,none⟩)] w fun e w'=>e=.returned (.agg #[.int .i64 2,.int .i64 (portW B 4 j x),.string ⟨#[]⟩,.slice none 0 0])∧Below w.heap.size w w':=by
 generalize hw1:w.alloc (Obj.cells #[.int .i64 0,.int .i64 0,.string ⟨#[]⟩,.slice none 0 0] 35)=w1;have b1:=zb hw1;have k1:=zk hw1;obtain ⟨⟨p0,p1,p2,p3⟩,f0,f1,f2,f3⟩:=zat k1;obtain ⟨x0,x1,x2,x3,x4,x5,x6,x7,x8,x9,x10⟩:=zj (ze kb b1);have hW:portW B 4 j x=B.v.own.getD j 0:=by unfold portW; rw [if_neg (by decide),if_neg (by decide),if_neg (by decide),List.getD_eq_getElem?_getD]
 rw [hW];have hle:=hv.le;obtain ⟨b,off,rfl,hc⟩:=(hv.below b1).at (by omega);have c0:=hc j hj;have hj':(j:Int) < (on:Int):=by omega
 generalize B.v.own.getD j 0=V at *;clear hW hv hc;go_enter Tryz.func248,Tryz.ntmps248;go_wp2_with fail
 refine (zV V _).mono ?_;rintro e w2 ⟨rfl,hb2⟩;have HB:=hide (zd b1 hb2);have k2:=ze k1 hb2;clear p0 p1 p2 p3 f0 f1 f2 f3;obtain ⟨⟨p0,p1,p2,p3⟩,f0,f1,f2,f3⟩:=zat k2;go_wp2;refine bodyPost_ret (v:=.agg #[.int .i64 2,.int .i64 V,.string ⟨#[]⟩,.slice none 0 0]) (by simp [results,Tryz.results248,go_sem, *]) rfl ⟨rfl,zai HB.out (Nat.le_refl _) _ _ _ _⟩

theorem zig (p:Int) (w:World) :
  Calls Tryz.prog 249 #[.int .i64 p] w fun e w'=>e=.returned (.agg #[.int .i64 2,.int .i64 1,.string ⟨#[]⟩,.slice none 0 0])∧Below w.heap.size w w':=by
 generalize hw1:w.alloc (Obj.cells #[.int .i64 0,.int .i64 0,.string ⟨#[]⟩,.slice none 0 0] 35)=w1;have b1:=zb hw1;have k1:=zk hw1;obtain ⟨⟨p0,p1,p2,p3⟩,f0,f1,f2,f3⟩:=zat k1;go_enter Tryz.func249,Tryz.ntmps249;go_wp2_with fail
 refine (zV 1 _).mono ?_;rintro e w2 ⟨rfl,hb2⟩;have HB:=hide (zd b1 hb2);have k2:=ze k1 hb2;clear p0 p1 p2 p3 f0 f1 f2 f3;obtain ⟨⟨p0,p1,p2,p3⟩,f0,f1,f2,f3⟩:=zat k2;go_wp2;refine bodyPost_ret (v:=.agg #[.int .i64 2,.int .i64 1,.string ⟨#[]⟩,.slice none 0 0]) (by simp [results,Tryz.results249,go_sem, *]) rfl ⟨rfl,zai HB.out (Nat.le_refl _) _ _ _ _⟩

theorem zih (a:Option Addr) (n c:Nat) (fa:Option Addr) (fn fc:Nat) (ra:Option Addr) (rn rc:Nat) (oa:Option Addr) (on oc:Nat) (B:BR) (j:Nat) (g:Nat) (w:World) (kb:w.heap[g]? = some (.cells #[.int .i64 B.id,.string B.name,.slice a n c,.slice fa fn fc,.slice ra rn rc,.slice oa on oc,.int .i64 B.ticks,.int .i64 B.parse,.int .i64 B.word,.int .i64 B.drops,.int .i64 B.vers] 31)) (hp:GRow vrowF w ra rn rc B.v.rows) (x:VR) (hx:B.v.rows[j]? = some x) :
  Calls Tryz.prog 250 #[.int .i64 (j:Int),.pointer (some ⟨g,0,none⟩)] w fun e w'=>e=.returned (.agg #[.int .i64 2,.int .i64 x.m,.string ⟨#[]⟩,.slice none 0 0])∧Below w.heap.size w w':=by
 generalize hw1:w.alloc (Obj.cells #[.int .i64 0,.int .i64 0,.string ⟨#[]⟩,.slice none 0 0] 35)=w1;have b1:=zb hw1;have k1:=zk hw1;obtain ⟨⟨p0,p1,p2,p3⟩,f0,f1,f2,f3⟩:=zat k1;obtain ⟨x0,x1,x2,x3,x4,x5,x6,x7,x8,x9,x10⟩:=zj (ze kb b1);have hj:j < rn:=by have:=(List.getElem?_eq_some_iff.1 hx).1; have:=hp.size; omega
 have hle:=hp.le;obtain ⟨y,b,off,hy,rfl,c0,c1,c2⟩:=zaD (hp.below b1) j hj;rw [hx] at hy;cases hy;have hj':(j:Int) < (rn:Int):=by omega
 clear hx hp;go_enter Tryz.func250,Tryz.ntmps250;go_wp2_with fail
 refine (zV x.m _).mono ?_;rintro e w2 ⟨rfl,hb2⟩;have HB:=hide (zd b1 hb2);have k2:=ze k1 hb2;clear p0 p1 p2 p3 f0 f1 f2 f3;obtain ⟨⟨p0,p1,p2,p3⟩,f0,f1,f2,f3⟩:=zat k2;go_wp2;refine bodyPost_ret (v:=.agg #[.int .i64 2,.int .i64 x.m,.string ⟨#[]⟩,.slice none 0 0]) (by simp [results,Tryz.results250,go_sem, *]) rfl ⟨rfl,zai HB.out (Nat.le_refl _) _ _ _ _⟩

theorem zii (a:Option Addr) (n c:Nat) (fa:Option Addr) (fn fc:Nat) (ra:Option Addr) (rn rc:Nat) (oa:Option Addr) (on oc:Nat) (B:BR) (j:Nat) (g:Nat) (w:World) (kb:w.heap[g]? = some (.cells #[.int .i64 B.id,.string B.name,.slice a n c,.slice fa fn fc,.slice ra rn rc,.slice oa on oc,.int .i64 B.ticks,.int .i64 B.parse,.int .i64 B.word,.int .i64 B.drops,.int .i64 B.vers] 31)) (hp:GRow vrowF w ra rn rc B.v.rows) (x:VR) (hx:B.v.rows[j]? = some x) :
  Calls Tryz.prog 251 #[.int .i64 (j:Int),.pointer (some ⟨g,0,none⟩)] w fun e w'=>e=.returned (.agg #[.int .i64 2,.int .i64 x.b,.string ⟨#[]⟩,.slice none 0 0])∧Below w.heap.size w w':=by
 generalize hw1:w.alloc (Obj.cells #[.int .i64 0,.int .i64 0,.string ⟨#[]⟩,.slice none 0 0] 35)=w1;have b1:=zb hw1;have k1:=zk hw1;obtain ⟨⟨p0,p1,p2,p3⟩,f0,f1,f2,f3⟩:=zat k1;obtain ⟨x0,x1,x2,x3,x4,x5,x6,x7,x8,x9,x10⟩:=zj (ze kb b1);have hj:j < rn:=by have:=(List.getElem?_eq_some_iff.1 hx).1; have:=hp.size; omega
 have hle:=hp.le;obtain ⟨y,b,off,hy,rfl,c0,c1,c2⟩:=zaD (hp.below b1) j hj;rw [hx] at hy;cases hy;have hj':(j:Int) < (rn:Int):=by omega
 clear hx hp;go_enter Tryz.func251,Tryz.ntmps251;go_wp2_with fail
 refine (zV x.b _).mono ?_;rintro e w2 ⟨rfl,hb2⟩;have HB:=hide (zd b1 hb2);have k2:=ze k1 hb2;clear p0 p1 p2 p3 f0 f1 f2 f3;obtain ⟨⟨p0,p1,p2,p3⟩,f0,f1,f2,f3⟩:=zat k2;go_wp2;refine bodyPost_ret (v:=.agg #[.int .i64 2,.int .i64 x.b,.string ⟨#[]⟩,.slice none 0 0]) (by simp [results,Tryz.results251,go_sem, *]) rfl ⟨rfl,zai HB.out (Nat.le_refl _) _ _ _ _⟩

theorem zhP (a:Option Addr) (n c:Nat) (fa:Option Addr) (fn fc:Nat) (ra:Option Addr) (rn rc:Nat) (oa:Option Addr) (on oc:Nat) (B:BR) (j:Nat) (g:Nat) (w:World) (kb:w.heap[g]? = some (.cells #[.int .i64 B.id,.string B.name,.slice a n c,.slice fa fn fc,.slice ra rn rc,.slice oa on oc,.int .i64 B.ticks,.int .i64 B.parse,.int .i64 B.word,.int .i64 B.drops,.int .i64 B.vers] 31)) (hp:GRow fentF w fa fn fc B.f) (x:FE) (hx:B.f[j]? = some x) (h0:0≤x.p∧x.p≤7) :
  Calls Tryz.prog 252 #[.int .i64 (j:Int),.pointer (some ⟨g,0,none⟩)] w fun e w'=>e=.returned (.agg #[.int .i64 2,.int .i64 (x.p+1),.string ⟨#[]⟩,.slice none 0 0])∧Below w.heap.size w w':=by
 generalize hw1:w.alloc (Obj.cells #[.int .i64 0,.int .i64 0,.string ⟨#[]⟩,.slice none 0 0] 35)=w1;have b1:=zb hw1;have k1:=zk hw1;obtain ⟨⟨p0,p1,p2,p3⟩,f0,f1,f2,f3⟩:=zat k1;obtain ⟨x0,x1,x2,x3,x4,x5,x6,x7,x8,x9,x10⟩:=zj (ze kb b1);have hj:j < fn:=by have:=(List.getElem?_eq_some_iff.1 hx).1; have:=hp.size; omega
 have hle:=hp.le;obtain ⟨y,b,off,hy,rfl,c0,c1,c2,c3,c4⟩:=zaP (hp.below b1) j hj;rw [hx] at hy;cases hy;have hj':(j:Int) < (fn:Int):=by omega
 clear hx hp;go_enter Tryz.func252,Tryz.ntmps252;go_wp2_with fail
 refine (zbT x.p (by omega) _).mono ?_;rintro e w3 ⟨rfl,ew⟩;obtain rfl:=ew.symm;go_wp2_with fail
 refine (zV (x.p+1) _).mono ?_;rintro e w2 ⟨rfl,hb2⟩;have HB:=hide (zd b1 hb2);have k2:=ze k1 hb2;clear p0 p1 p2 p3 f0 f1 f2 f3;obtain ⟨⟨p0,p1,p2,p3⟩,f0,f1,f2,f3⟩:=zat k2;go_wp2;refine bodyPost_ret (v:=.agg #[.int .i64 2,.int .i64 (x.p+1),.string ⟨#[]⟩,.slice none 0 0]) (by simp [results,Tryz.results252,go_sem, *]) rfl ⟨rfl,zai HB.out (Nat.le_refl _) _ _ _ _⟩

def Tells (w:World) (f:Nat) (caps:Array Value) (j:Nat) (K N:Int) (S:ByteArray):Prop :=
 Calls Tryz.prog f (#[.int .i64 (j:Int)]++caps) w fun e w'=>e=.returned (.agg #[.int .i64 K,.int .i64 N,.string S,.slice none 0 0])∧Below w.heap.size w w'

theorem zhH (f:Nat) (caps:Array Value) (j:Nat) (K N:Int) (S:ByteArray) (wb pb:Nat) (w:World) (h:∀w',Below w.heap.size w w'→Tells w' f caps j K N S) (c0:w.cell? ⟨wb,0,none⟩=some (.func (.func f) #[] caps)) (c1:w.cell? ⟨pb,0,none⟩=some (.int .i64 (j:Int))) (he:∀args w,(callFunc f args).run Tryz.prog w=.ok (.enter f args) w) :
  Calls Tryz.prog 275 #[.pointer (some ⟨wb,0,none⟩),.pointer (some ⟨pb,0,none⟩)] w fun e w'=>e=.returned (.agg #[.int .i64 K,.int .i64 N,.string S,.slice none 0 0])∧Below w.heap.size w w':=by
 generalize hw1:w.alloc (Obj.cells #[.int .i64 0,.int .i64 0,.string ⟨#[]⟩,.slice none 0 0] 35)=w1;have b1:=zb hw1;have k1:=zk hw1;obtain ⟨⟨p0,p1,p2,p3⟩,f0,f1,f2,f3⟩:=zat k1;have c0:=(b1.cell (zp c0)).trans c0;have c1:=(b1.cell (zp c1)).trans c1;go_enter Tryz.func275,Tryz.ntmps275;go_wp2_with fail
 refine (h _ b1).mono ?_;rintro e w2 ⟨rfl,hb2⟩;have HB:=hide (zd b1 hb2);have k2:=ze k1 hb2;clear p0 p1 p2 p3 f0 f1 f2 f3;obtain ⟨⟨p0,p1,p2,p3⟩,f0,f1,f2,f3⟩:=zat k2;go_wp2;refine bodyPost_ret (v:=.agg #[.int .i64 K,.int .i64 N,.string S,.slice none 0 0]) (by simp [results,Tryz.results275,go_sem, *]) rfl ⟨rfl,zai HB.out (Nat.le_refl _) _ _ _ _⟩

theorem zet (a:Option Addr) (n c:Nat) (fa:Option Addr) (fn fc:Nat) (ra:Option Addr) (rn rc:Nat) (oa:Option Addr) (on oc:Nat) (B:BR) (cc:Int) (p:Nat) (x:PT) (w:World) (h:BrRow w a n c fa fn fc ra rn rc oa on oc B) (hx:B.ports[p]? = some x) (ho:p < on) :
  Calls Tryz.prog 89 #[.agg #[.int .i64 B.id,.string B.name,.slice a n c,.slice fa fn fc,.slice ra rn rc,.slice oa on oc,.int .i64 B.ticks,.int .i64 B.parse,.int .i64 B.word,.int .i64 B.drops,.int .i64 B.vers],.int .i64 cc,.int .i64 (p:Int)] w fun e w'=>e=.returned (.int .i64 (portW B cc p x))∧Below w.heap.size w w':=by
 generalize hw1:w.alloc (Obj.cells #[.int .i64 B.id,.string B.name,.slice a n c,.slice fa fn fc,.slice ra rn rc,.slice oa on oc,.int .i64 B.ticks,.int .i64 B.parse,.int .i64 B.word,.int .i64 B.drops,.int .i64 B.vers] 31)=w1;have b1:=zb hw1;have k1:=zk hw1;obtain ⟨x0,x1,x2,x3,x4,x5,x6,x7,x8,x9,x10⟩:=zj k1;have hpn:p < n:=by have h1:=(List.getElem?_eq_some_iff.1 hx).1; have h2:=h.ports.size; omega
 obtain ⟨x',b,off,hx',rfl,p0,p1,-⟩:=pt_at (h.ports.below b1) p hpn;rw [hx] at hx';cases hx';obtain ⟨v,b2,off2,hv,rfl,o0⟩:=zfq (h.v.own.below b1) p ho;have hle:=h.ports.le;have htop:=h.ports.top;have hle2:=h.v.own.le;have htop2:=h.v.own.top;unfold maxLen at htop htop2;have HROW:=hide (h.ports.below b1);have HB:=hide b1;have HV:=hide hv;have i1:(0:Int)≤(p:Int):=by omega
 have i2:(p:Int) < (n:Int):=by omega
 have i3:(p:Int) < (on:Int):=by omega
 clear hx h hv b1 k1;by_cases e1:cc=1
 ·subst e1;have HW:Hid (portW B 1 p x=if x.up=true then 1 else 0):=hide (by unfold portW; rw [if_pos rfl]);rw [HW.out];clear o0 HW;cases hu:x.up
  ·rw [hu] at p0;go_enter Tryz.func89,Tryz.ntmps89;go_wp2;go_ret;exact ⟨rfl,HB.out⟩
  ·rw [hu] at p0;go_enter Tryz.func89,Tryz.ntmps89;go_wp2;go_ret;exact ⟨rfl,HB.out⟩
 have n1:(cc == 1)=false:=by simp [e1]
 by_cases e2:cc=2
 ·subst e2;have HW:Hid (portW B 2 p x=x.k):=hide (by unfold portW; rw [if_neg (by decide),if_pos rfl]);rw [HW.out];clear o0 HW;go_enter Tryz.func89,Tryz.ntmps89;go_wp2;go_ret;exact ⟨rfl,HB.out⟩
 have n2:(cc == 2)=false:=by simp [e2]
 by_cases e3:cc=3
 ·subst e3;have HW:Hid (portW B 3 p x=zav B.id B.ports (p:Int)):=hide (by unfold portW; rw [if_neg (by decide),if_neg (by decide),if_pos rfl]);rw [HW.out];clear o0 p0 p1 HW;go_enter Tryz.func89,Tryz.ntmps89;(go_wp2_with fail);refine (ze9 B.id _ n c B.ports (p:Int) _ HROW.out).mono ?_;rintro e w2 ⟨rfl,hb2⟩;have HB2:=hide (zd HB.out hb2);clear hb2 x0 x1 x2 x3 x4 x5 x6 x7 x8 x9 x10;go_wp2;go_ret;exact ⟨rfl,HB2.out⟩
 have n3:(cc == 3)=false:=by simp [e3]
 have HW:Hid (portW B cc p x=v):=hide (by unfold portW; rw [if_neg e1,if_neg e2,if_neg e3,HV.out]; rfl);rw [HW.out];clear p0 p1 HW;go_enter Tryz.func89,Tryz.ntmps89;go_wp2;go_ret;exact ⟨rfl,HB.out⟩

theorem zfa (r:VR) (cc:Int) (w:World) :
  Calls Tryz.prog 90 #[.agg #[.int .i64 r.i,.int .i64 r.m,.int .i64 r.b],.int .i64 cc] w fun e w'=>e=.returned (.int .i64 (rowW r cc))∧Below w.heap.size w w':=by
 have b1:=zh w (.cells #[.int .i64 r.i,.int .i64 r.m,.int .i64 r.b] 119);by_cases e1:cc=1
 ·subst e1;rw [show rowW r 1=1 from rfl];go_enter Tryz.func90,Tryz.ntmps90;go_wp2;go_ret;exact ⟨rfl,b1⟩
 have n1:(cc == 1)=false:=by simp [e1]
 by_cases e2:cc=2
 ·subst e2;rw [show rowW r 2=r.m from rfl];go_enter Tryz.func90,Tryz.ntmps90;go_wp2;go_ret;exact ⟨rfl,b1⟩
 have n2:(cc == 2)=false:=by simp [e2]
 rw [show rowW r cc=r.b by unfold rowW; rw [if_neg e1,if_neg e2]];go_enter Tryz.func90,Tryz.ntmps90;go_wp2;go_ret;exact ⟨rfl,b1⟩

section
open Go.RowKit

structure CF where
 f:Nat
 caps:Array Value

def clF:Flat CF where
 k:=1
 cs:=fun x=>[.func (.func x.f) #[] x.caps]
 len:=fun _=>rfl
 pos:=by decide
 one:=fun _ v hv=>by
  simp only [List.mem_cons,List.not_mem_nil,or_false] at hv;subst hv
  rfl

theorem cl_at {w:World} {ao:Option Addr} {len cap:Nat} {l:List CF} (h:GRow clF w ao len cap l) (i:Nat) (hi:i < len):∃(x:CF) (b off:Nat),l[i]? = some x∧ao=some ⟨b,off,none⟩∧w.cell? ⟨b,off+i,none⟩=some (.func (.func x.f) #[] x.caps):=by
 obtain ⟨x,b,off,hx,ha,hc⟩:=h.at i hi
 have:=hc 0 _ rfl
 exact ⟨x,b,off,hx,ha,by simpa [clF] using this⟩

def Boxed (w:World) (cl:List CF) (tn:Nat) (G:Nat→Nat→BD) (x:TH):Prop :=
 ∃(i j:Nat) (c:CF),cl[i]? = some c∧j < tn∧x.d=G i j∧w.heap[x.wb]? = some (.cells #[.func (.func c.f) #[] c.caps] 61)∧w.heap[x.pb]? = some (.cells #[.int .i64 (j:Int)] 3)

theorem Boxed.below {w w':World} {cl:List CF} {tn:Nat} {G:Nat→Nat→BD} {x:TH} (h:Boxed w cl tn G x) (hb:Below w.heap.size w w'):Boxed w' cl tn G x:=by
 obtain ⟨i,j,c,h1,h2,h3,h4,h5⟩:=h;exact ⟨i,j,c,h1,h2,h3,ze h4 hb,ze h5 hb⟩

theorem Boxed.grown {w w':World} {cl:List CF} {tn:Nat} {G:Nat→Nat→BD} {x:TH} (h:Boxed w cl tn G x) {base n:Nat} {v:Value} {xs:List Value} (hr:w.ownsRow base 91 2 v n xs) (hg:w.grownBy w' v.ownBlock):Boxed w' cl tn G x:=by
 obtain ⟨i,j,c,h1,h2,h3,h4,h5⟩:=h;have n1:(61:Nat)≠91:=by decide
 have n2:(3:Nat)≠91:=by decide
 exact ⟨i,j,c,h1,h2,h3,zr h4 hg (zb0 hr h4 n1),zr h5 hg (zb0 hr h5 n2)⟩

structure CoSt (w wr:World) (cl:List CF) (tn:Nat) (G:Nat→Nat→BD) (ao:Option Addr) (cap:Nat) (l:List TH):Prop where
 row:wr.ownsRow w.heap.size 91 2 (.slice ao l.length cap) l.length (thF.all l)
 names:THs wr w.heap.size l
 box:∀x∈l,Boxed wr cl tn G x
 below:Below w.heap.size w wr

section
variable {w wr w' w1:World} {cl:List CF} {tn:Nat} {G:Nat→Nat→BD} {ao ao':Option Addr} {cap cap':Nat} {l:List TH} {y:TH}
theorem CoSt.later (h:CoSt w wr cl tn G ao cap l) (hb:Below wr.heap.size wr w'):CoSt w w' cl tn G ao cap l:=⟨zm h.row hb,h.names.below hb,fun x hx=>(h.box x hx).below hb,zd h.below hb⟩
theorem CoSt.push (h:CoSt w wr cl tn G ao cap l) (hb:Below wr.heap.size wr w1) (hy:w1.ownsRow wr.heap.size 3 1 (.slice y.oa y.on y.oc) y.on (cI y.d.o)) (hz:I64s y.d.o) (hbox:Boxed w1 cl tn G y)
  (hg:w1.grownBy w' (Value.slice ao l.length cap).ownBlock) (hr:w'.ownsRow w.heap.size 91 2 (.slice ao' (l++[y]).length cap') (l++[y]).length (thF.all (l++[y]))):CoSt w w' cl tn G ao' cap' (l++[y]):=by
 have h1:=h.later hb;refine ⟨hr,h.names.push hb hy hz h.below.size h1.row hg, ?_, ?_⟩
 ·intro x hx;rcases List.mem_append.1 hx with hx | hx
  ·exact (h1.box x hx).grown h1.row hg
  ·rw [List.mem_singleton.1 hx];exact hbox.grown h1.row hg
 ·exact h1.below.grown hg h1.below.size (fun k hk=>(h1.row.lt k hk).1)
end

theorem zfH (g:Nat→BD):∀k,(rowTo g k).length=k
 | 0=>rfl
 | k+1=>by rw [rowTo,List.length_append,zfH g k]; rfl
theorem zf1 (G:Nat→Nat→BD) (n:Nat) (hn:n≤12):∀k,(zbs G n k).length≤k*12
 | 0=>Nat.le_refl _
 | k+1=>by
  have:=zf1 G n hn k
  rw [zbs,List.length_append,zfH,Nat.add_mul];omega

theorem zda (head col:Int) (w:World):Calls Tryz.prog 212 #[.int .i64 head,.int .i64 col] w fun e w'=>e=.returned (.slice (some ⟨w.heap.size,0,none⟩) 5 5)∧w'=w.alloc (Obj.cells #[.int .i64 1,.int .i64 3,.int .i64 1,.int .i64 head,.int .i64 col] 3):=by
 go_enter Tryz.func212,Tryz.ntmps212;go_wp2;go_ret;exact ⟨rfl,rfl⟩

theorem zaN (head:Int) (ta:Option Addr) (tn tc:Nat) (tl:List TL) (g m:Nat) (cl:List CF) (G:Nat→Nat→BD) (w:World) (ht:GRow tlF w ta tn tc tl) (hti:∀t∈tl,IRow w t.a t.n t.c t.z∧t.n≤2) (htn:tn≤12)
  (hc:GRow clF w (some ⟨g,0,none⟩) m m cl) (hm:m≤5) (hh:1≤head∧head≤4) (hG:∀(i j:Nat) t,tl[j]? = some t→(G i j).o=nmI (head::((i:Int)+1)::t.z)) :
  Calls Tryz.prog 236 #[.int .i64 head,.slice ta tn tc,.slice (some ⟨g,0,none⟩) m m] w fun e w'=>∃(ao:Option Addr) (cap:Nat) (l:List TH),e=.returned (.slice ao l.length cap)∧l.map TH.d=zbs G tn m∧CoSt w w' cl tn G ao cap l:=by
 go_enter Tryz.func236,Tryz.ntmps236;go_wp2_with fail
 go_loopw [7,8,9,10,11,12,15] (fun v7 u8 u9 u10 u11 u12 vk wr=>∃(k:Nat) (ao:Option Addr) (cap:Nat) (l:List TH),v7=.slice ao l.length cap∧vk=.int .i64 (k:Int)∧k≤m∧l.map TH.d=zbs G tn k∧CoSt w wr cl tn G ao cap l) (fun _ _ _ _ _ _ vk _=>7 - (intOf vk).toNat)
 case atStart=>exact ⟨0,none,0,[],rfl,rfl,Nat.zero_le _,rfl,⟨World.ownsRow_nil _ _ _ _,zhx _ _,(by intro x hx; cases hx),Below.refl _ _⟩⟩
 case round =>
  obtain ⟨k,ao,cap,l,rfl,rfl,hk,hd,st⟩:=hrel;by_cases hkm:k < m
  ·obtain ⟨cf,gb,off,hcf,hga,cc⟩:=cl_at (hc.below st.below) k hkm;cases hga;rw [Nat.zero_add] at cc;have hkm':(k:Int) < (m:Int):=by omega
   have HCF:=hide hcf;have HD:=hide hd;have hk5:(k:Int)≤5:=by omega
   generalize hwz:wr.alloc (Obj.cells #[.nilFunc] 61)=wz;have bz:=zb hwz;have kz:=zk hwz;have cz:wz.cell? ⟨wr.heap.size,0,none⟩=some .nilFunc:=by simp [World.cell?,kz]
   have fz:wz.frozen? ⟨wr.heap.size,0,none⟩=false:=by simp [World.frozen?,kz]
   have cc2:=(bz.cell (zp cc)).trans cc;clear hcf hd;(go_upto_region 5 with fail);generalize hws:wz.setCell ⟨wr.heap.size,0,none⟩ (.func (.func cf.f) #[] cf.caps)=ws;have bs:Below wr.heap.size wr ws:=by rw [← hws]; exact bz.setCell (Nat.le_refl _) _
   have ks:ws.heap[wr.heap.size]? = some (.cells #[.func (.func cf.f) #[] cf.caps] 61):=by
    have:=zt (j:=0) kz (.func (.func cf.f) #[] cf.caps)
    rw [hws] at this
    simpa using this
   have st:=st.later bs;clear cc cc2 cz fz kz bz hwz hws bs;generalize wr.heap.size=WB at *;(go_wp2_with fail)
   go_loopw [7,10,11,12,22] (fun v7 u10 u11 u12 vj wr=>∃(j:Nat) (ao:Option Addr) (cap:Nat) (l:List TH),v7=.slice ao l.length cap∧vj=.int .i64 (j:Int)∧j≤tn∧l.map TH.d=zbs G tn k++rowTo (G k) j∧CoSt w wr cl tn G ao cap l∧wr.heap[WB]? = some (.cells #[.func (.func cf.f) #[] cf.caps] 61)) (fun _ _ _ _ vj _=>14 - (intOf vj).toNat)
   case atStart=>exact ⟨0,ao,cap,l,rfl,rfl,Nat.zero_le _,by rw [HD.out]; simp [rowTo],st,ks⟩
   case round =>
    clear st ks HD;obtain ⟨j,ao,cap,l,rfl,rfl,hj,hd,st,ks⟩:=hrel;by_cases hjn:j < tn
    ·obtain ⟨t,tb,toff,htj,hta,ct⟩:=tl_at (ht.below st.below) j hjn;have htt:=hti t (List.mem_of_getElem? htj);have hjn':(j:Int) < (tn:Int):=by omega
     have htle:=ht.le;have hj12:(j:Int)≤12:=by omega
     have HG:=hide (hG k j t htj);have HLL:Hid (l.length≤72):=hide (by
      have h1:=congrArg List.length hd;rw [List.length_map,List.length_append,zfH] at h1
      have:=zf1 G tn htn k
      omega)
     have HD:=hide hd;subst hta;generalize hwz:wr.alloc (Obj.cells #[.int .i64 0] 3)=wz;have bz:=zb hwz;have kz:=zk hwz;have cz:wz.cell? ⟨wr.heap.size,0,none⟩=some (.int .i64 0):=by simp [World.cell?,kz]
     have fz:wz.frozen? ⟨wr.heap.size,0,none⟩=false:=by simp [World.frozen?,kz]
     have ct2:=(bz.cell (zp ct)).trans ct;clear hd htj;(go_upto_region 8 with fail);generalize hws:wz.setCell ⟨wr.heap.size,0,none⟩ (.int .i64 (j:Int))=ws;have bs:Below wr.heap.size wr ws:=by rw [← hws]; exact bz.setCell (Nat.le_refl _) _
     have kp:ws.heap[wr.heap.size]? = some (.cells #[.int .i64 (j:Int)] 3):=by
      have:=zt (j:=0) kz (.int .i64 (j:Int))
      rw [hws] at this
      simpa using this
     clear ct ct2 cz fz kz bz hwz hws;have HST:=hide st;have HKR:=hide ks;have HWL:=hide (Array.getElem?_eq_some_iff.1 ks).1;have HIT:=hide htt.1.byte;have HBS:=hide bs;have hir:=((htt.1.below st.below).below bs).flat;have ht2:=htt.2;obtain ⟨PB,hPB⟩:∃PB,PB=wr.heap.size:=⟨_,rfl⟩;have HPB:=hide hPB;rw [← hPB] at kp ⊢;have HKP:=hide kp;clear hPB kp ks st bs htt;(go_wp2_with fail);refine (zda head ((k:Int)+1) _).mono ?_;rintro e wl ⟨rfl,hwl⟩;have bl:Below ws.heap.size ws wl:=by rw [hwl]; exact zh _ _
     have kl:wl.heap[ws.heap.size]? = some (.cells #[.int .i64 1,.int .i64 3,.int .i64 1,.int .i64 head,.int .i64 ((k:Int)+1)] 3):=by rw [hwl]; exact zy _ _
     have hbase:wr.heap.size≤ws.heap.size:=HBS.out.size;have own:=zS intF (base:=wr.heap.size) (l:=[1,3,1,head,(k:Int)+1]) kl rfl hbase (by simp);have HBL:=hide (zd HBS.out bl);have hirl:=hir.below bl;clear hir hwl;go_wp2_with (at_builtin; refine zx (F:=intF) _ rfl _ _ 27 3 rfl wr.heap.size Tryz.underlying27 Tryz.infoI64 rfl (by decide) _ 5 [1,3,1,head,(k:Int)+1] rfl own t.a t.n t.c t.z rfl hirl (by omega) HBL.out.size ?_)
     intro na nc wn how _ hgr hb;have HB:=hide (HBL.out.trans hb);have hPBl:=(Array.getElem?_eq_some_iff.1 HKP.out).1;have kpn:=zr (ze HKP.out bl) hgr (fun b hb2=>by cases hb2; show ws.heap.size≠PB; omega);have ksn:=(HB.out.block WB HWL.out).trans HKR.out;have hyo:(G k j).o=[1,3,1,head,(k:Int)+1]++t.z:=by rw [HG.out]; rfl
     obtain ⟨y,hy⟩:∃y:TH,y=⟨na,5+t.n,nc,WB,PB,G k j⟩:=⟨_,rfl⟩;have HOY:Hid (wn.ownsRow wr.heap.size 3 1 (.slice y.oa y.on y.oc) y.on (cI y.d.o)):=hide (by rw [hy]; show wn.ownsRow wr.heap.size 3 1 (.slice na (5+t.n) nc) (5+t.n) (cI (G k j).o); rw [hyo,← zE]; exact how);have HIY:Hid (I64s y.d.o):=hide (by rw [hy]; show I64s (G k j).o; rw [hyo]; exact zdj (by intro z hz; simp at hz; omega) HIT.out);have HBX:Hid (Boxed wn cl tn G y):=hide (by rw [hy]; exact ⟨k,j,cf,HCF.out,hjn,rfl,ksn,kpn⟩);have HYD:Hid (y.d=G k j):=hide (by rw [hy]);clear how hgr hb hPBl hyo hirl own bl kl;generalize hwy:wn.alloc (Obj.cells #[.slice na (5+t.n) nc,.func (.func 275) #[] #[.pointer (some ⟨WB,0,none⟩),.pointer (some ⟨PB,0,none⟩)]] 91)=wy;have by1:=zb hwy;have gone:GRow thF wy (some ⟨wn.heap.size,0,none⟩) 1 1 [y]:=by rw [← hwy]; exact zau thF wn y _ _ (by rw [hy]; rfl)
     have HBY:=hide (zd HB.out by1);have hrow:=(HST.out.later HBY.out).row;have HROW:=hide hrow;have HKY:=hide (ze ksn by1);have HOY1:=hide (zm HOY.out by1);have HBX1:=hide (HBX.out.below by1);have hbw:w.heap.size≤wy.heap.size:=Nat.le_trans HST.out.below.size HBY.out.size;have hl72:=HLL.out;clear by1 hy ksn kpn;go_wp2_with (at_builtin; refine zx (F:=thF) _ rfl _ _ 87 91 rfl w.heap.size Tryz.underlying87 zhw rfl (by decide) _ l.length l rfl hrow (some ⟨wn.heap.size,0,none⟩) 1 1 [y] rfl gone (by omega) hbw ?_)
     intro ao2 cap2 we how2 _ hgr2 _;have HLN:Hid ((l++[y]).length=l.length+1):=hide (by simp);have HST2:=hide (HST.out.push (y:=y) HBY.out HOY1.out HIY.out HBX1.out hgr2 (by rw [HLN.out]; exact how2));have n1:(61:Nat)≠91:=by decide
     have HK2:=hide (zr HKY.out hgr2 (zb0 HROW.out HKY.out n1));have HD2:Hid ((l++[y]).map TH.d=zbs G tn k++rowTo (G k) (j+1)):=hide (by rw [List.map_append,HD.out,List.map_singleton,HYD.out,rowTo,List.append_assoc]);clear how2 hgr2 gone hrow hbw hwy;go_wp2
     go_roundw
     case rel=>exact ⟨j+1,ao2,cap2,l++[y],by rw [HLN.out],by go_num,by omega,HD2.out,HST2.out,HK2.out⟩
     case measure=>simp [intOf]; omega
    ·have hjn':¬(j:Int) < (tn:Int):=by omega
     have hjt:j=tn:=by omega
     have hd2:l.map TH.d=zbs G tn (k+1):=by rw [hd,hjt]; rfl
     have HD:=hide hd2;have HST:=hide st;clear hd hd2 st ks;go_wp2
     go_roundw
     case rel=>exact ⟨k+1,ao,cap,l,rfl,by go_num,by omega,HD.out,HST.out⟩
     case measure=>simp [intOf]; omega
  ·have hkm':¬(k:Int) < (m:Int):=by omega
   have hkm2:k=m:=by omega
   subst hkm2;have HD:=hide hd;have HST:=hide st;clear hd st;go_wp2;go_ret;exact ⟨ao,cap,l,rfl,HD.out,HST.out⟩

end

theorem zaV {l:List Int} (h:I64s l):I64s (nmI l):=by
 intro z hz;unfold nmI at hz;simp only [List.mem_cons] at hz;rcases hz with rfl | rfl | rfl | hz
 ·omega
 ·omega
 ·omega
 ·exact h z hz

theorem zW (ia:Option Addr) (il ic:Nat) (name:List Int) (w:World) (h:IRow w ia il ic name) (hn:il≤1048576) :
  Calls Tryz.prog 87 #[.slice ia il ic] w fun e w'=>∃na nc,e=.returned (.slice na (il+3) nc)∧w'.ownsRow w.heap.size 3 1 (.slice na (il+3) nc) (il+3) (cI (nmI name))∧Below w.heap.size w w':=by
 generalize hw1:w.alloc (Obj.cells #[.int .i64 1,.int .i64 3,.int .i64 1] 3)=w1;have b1:=zb hw1;have k1:=zk hw1;have own:=zS intF (base:=w.heap.size) (l:=[1,3,1]) k1 rfl (Nat.le_refl _) (by simp);have hg:=(h.below b1).flat;have HB1:=hide b1;go_enter Tryz.func87,Tryz.ntmps87;go_wp2_with (at_builtin; refine zx (F:=intF) _ rfl _ _ 27 3 rfl w.heap.size Tryz.underlying27 Tryz.infoI64 rfl (by decide) _ 3 [1,3,1] rfl own ia il ic name rfl hg (by omega) HB1.out.size ?_)
 intro na nc w2 how _ hgr hb;have HB:=hide (HB1.out.trans hb);rw [Nat.add_comm 3 il] at how ⊢;have HO:Hid (w2.ownsRow w.heap.size 3 1 (.slice na (il+3) nc) (il+3) (cI (nmI name))):=hide (by rw [← zE]; exact how);clear how hgr hb own k1 hg b1;go_wp2;go_ret;exact ⟨na,nc,rfl,HO.out,HB.out⟩

theorem zaJ (ba:Option Addr) (bc:Nat) (l:List BI) (ia:Option Addr) (il ic:Nat) (name:List Int) (v:Int) (base:Nat) (w:World) (hl:BOwns w base ba l.length bc l) (h:IRow w ia il ic name) (hn:il≤1048576) (hm:l.length≤1000) (hbase:base≤w.heap.size) :
  Calls Tryz.prog 88 #[.slice ba l.length bc,.slice ia il ic,.int .i64 v] w fun e w'=>∃ba' bc' y,e=.returned (.slice ba' (l.length+1) bc')∧BI.d y=numD name v∧BOwns w' base ba' (l++[y]).length bc' (l++[y])∧Below base w w':=by
 obtain ⟨i0,hi,hz0,hz1,hz2⟩:=info_parts Tryz.infoBind';have HI64:=hide (zaV h.byte);have HL0:=hide hl;go_enter Tryz.func88,Tryz.ntmps88;go_wp2_with fail
 refine (zW ia il ic name _ h hn).mono ?_;rintro e w1 ⟨na,nc,rfl,oN,b1⟩;go_wp2_with fail
 refine (zg5 v _).mono ?_;rintro e w2 ⟨rfl,b2⟩;have b02:=zd b1 b2;have oN:=zaY oN b2;have hl:=hl.below b02;have q3:=zh w2 (.cells #[.slice na (il+3) nc,.int .i64 2,.int .i64 v,.string ⟨#[]⟩,.slice none 0 0] 37);have hnew:=zex w2 (⟨na,il+3,nc,nmI name,2,v,⟨#[]⟩,none,0,0,[]⟩:BI);have hone:=zdQ (⟨na,il+3,nc,nmI name,2,v,⟨#[]⟩,none,0,0,[]⟩:BI);have HB3:=hide (zd b02 q3);have HY:Hid (BOwn (w2.alloc (.cells #[.slice na (il+3) nc,.int .i64 2,.int .i64 v,.string ⟨#[]⟩,.slice none 0 0] 37)) w.heap.size (⟨na,il+3,nc,nmI name,2,v,⟨#[]⟩,none,0,0,[]⟩:BI)):=hide ⟨zaY oN q3,World.ownsRow_nil _ _ _ _,HI64.out,(by intro z hz; cases hz),by show 0≤maxLen; omega⟩;have HL3:=hide (hl.below q3);have HND:Hid (((⟨na,il+3,nc,nmI name,2,v,⟨#[]⟩,none,0,0,[]⟩:BI):BI).blks.Nodup):=hide (by
  show (blkL na++blkL none).Nodup
  cases na <;> simp [blkL])
 have HAP:Hid (∀z∈l,∀b∈z.blks,b∉((⟨na,il+3,nc,nmI name,2,v,⟨#[]⟩,none,0,0,[]⟩:BI):BI).blks):=hide (fun z hz b hb hc=>by
  have h1:=(HY.out.blk b hc).1;have h2:=((HL0.out).item z hz).blk b hb;omega)
 have hrow:=HL3.out.row;have hsz:base≤(w2.alloc (.cells #[.slice na (il+3) nc,.int .i64 2,.int .i64 v,.string ⟨#[]⟩,.slice none 0 0] 37)).heap.size:=Nat.le_trans hbase HB3.out.size;clear b1 b2 b02 oN hl q3 h;go_wp2_with (at_builtin; refine wpList_append_own _ rfl _ _ 39 rfl base 37 i0 (.agg #[.slice none 0 0,.int .i64 0,.int .i64 0,.string ⟨#[]⟩,.slice none 0 0]) 5 80 Tryz.underlying39 hi hz0 hz1 hz2 rfl (by decide) _ l.length (cBs l) rfl hrow ⟨w2.heap.size,0,none⟩ 1 1 (⟨na,il+3,nc,nmI name,2,v,⟨#[]⟩,none,0,0,[]⟩:BI).cs rfl rfl hnew hone ?c1 ?c2 ?c3 ?_)
 case c1=>unfold maxLen; omega
 case c2=>omega
 case c3=>exact hsz
 intro v' w5 how hgr _;obtain ⟨lo',cap',rfl⟩:=ze1 how;have hpush:=HL3.out.push (HY.out.lt hbase) HND.out HAP.out hgr how;have HB5:=hide ((HB3.out.mono hbase).trans (ziB HL3.out hgr hsz));have HP5:=hide hpush;clear how hgr hpush hrow hnew hone;go_wp2;go_ret;exact ⟨lo',cap',(⟨na,il+3,nc,nmI name,2,v,⟨#[]⟩,none,0,0,[]⟩:BI),rfl,rfl,by simpa using HP5.out,HB5.out⟩

end Go.Proofs.YtcpdkcdfnpcemaaGreat
