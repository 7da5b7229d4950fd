/-
  Packed: EqRows OidSame Big.
-/
import Derived.Test.YtkcoehmpnkdinaaGreatPNKW
import Derived.Test.YtkcoehmpnkdinaaGreatPNK06
namespace Go.Proofs.YtkcoehmpnkdinaaGreat
set_option maxRecDepth 100000
set_option maxHeartbeats 16000000
open Go.RowKit

theorem zdA (a:Option Addr) (n c:Nat) (l:List PT) (a2:Option Addr) (n2 c2:Nat) (l2:List PT) (w:World) (h:GRow ptF w a n c l) (h2:GRow ptF w a2 n2 c2 l2) :
  Calls Tryz.prog 53 #[.slice a n c,.slice a2 n2 c2] w fun e w'=>∃q:Bool,e=.returned (.bool q)∧(q=true↔l=l2)∧Below w.heap.size w w':=by
 have hle:=h.le;have htop:=h.top;have hle2:=h2.le;have htop2:=h2.top;unfold maxLen at htop htop2;have hsz:=h.size;have hsz2:=h2.size;by_cases hnn:n=n2
 ·subst hnn;go_enter Tryz.func53,Tryz.ntmps53;go_wp2
  go_loopw [13] (fun i wr=>∃k:Nat,k≤n∧i=.int .i64 k∧(∀j:Nat,j < k→l[j]? = l2[j]?)∧Below w.heap.size w wr) (fun i _=>n - (intOf i).toNat)
  case atStart=>exact ⟨0,Nat.zero_le _,rfl,fun j hj=>by omega,Below.refl _ _⟩
  case round =>
   obtain ⟨k,hk,rfl,hall,hb⟩:=hrel;by_cases hlt:k < n
   ·obtain ⟨x,b,off,hx,rfl,c0,c1,c2,c3,c4,c5,c6,c7⟩:=pt_at (h.below hb) k hlt;obtain ⟨y,b2,off2,hy,rfl,d0,d1,d2,d3,d4,d5,d6,d7⟩:=pt_at (h2.below hb) k hlt;have i1:(0:Int)≤(k:Int):=by omega
    have i2:(k:Int) < (n:Int):=by omega
    cases hs:zg3 x y
    ·have HN:Hid (¬l=l2):=hide (by
      intro e;rw [e,hy] at hx;cases hx;rw [(zfI x x).2 rfl] at hs;cases hs)
     have hne:∀W,(binOp .neq 79 (.agg #[.bool x.up,.int .i64 x.k,.bool x.has,.int .i64 x.v.r,.int .i64 x.v.c,.int .i64 x.v.h,.int .i64 x.v.b,.int .i64 x.v.p]) (.agg #[.bool y.up,.int .i64 y.k,.bool y.has,.int .i64 y.v.r,.int .i64 y.v.c,.int .i64 y.v.h,.int .i64 y.v.b,.int .i64 y.v.p])).run Tryz.prog W=.ok (.bool true) W:=fun W=>by rw [zjT,hs]; rfl
     have hgd:Tryz.prog.eqGuardType Tryz.prog.depth 79=false:=by kernel_rfl
     have HS:(fun W=>(W.cell? ⟨b,off+k*8,none⟩=some (.bool x.up)∧W.cell? ⟨b,off+k*8+1,none⟩=some (.int .i64 x.k)∧W.cell? ⟨b,off+k*8+2,none⟩=some (.bool x.has)∧W.cell? ⟨b,off+k*8+3,none⟩=some (.int .i64 x.v.r)∧W.cell? ⟨b,off+k*8+4,none⟩=some (.int .i64 x.v.c)∧W.cell? ⟨b,off+k*8+5,none⟩=some (.int .i64 x.v.h)∧W.cell? ⟨b,off+k*8+6,none⟩=some (.int .i64 x.v.b)∧W.cell? ⟨b,off+k*8+7,none⟩=some (.int .i64 x.v.p))∧(W.cell? ⟨b2,off2+k*8,none⟩=some (.bool y.up)∧W.cell? ⟨b2,off2+k*8+1,none⟩=some (.int .i64 y.k)∧W.cell? ⟨b2,off2+k*8+2,none⟩=some (.bool y.has)∧W.cell? ⟨b2,off2+k*8+3,none⟩=some (.int .i64 y.v.r)∧W.cell? ⟨b2,off2+k*8+4,none⟩=some (.int .i64 y.v.c)∧W.cell? ⟨b2,off2+k*8+5,none⟩=some (.int .i64 y.v.h)∧W.cell? ⟨b2,off2+k*8+6,none⟩=some (.int .i64 y.v.b)∧W.cell? ⟨b2,off2+k*8+7,none⟩=some (.int .i64 y.v.p))) wr.drew:=⟨⟨c0,c1,c2,c3,c4,c5,c6,c7⟩,d0,d1,d2,d3,d4,d5,d6,d7⟩;clear hs hall hx hy;(go_wp2_with fail);refine wp_region_held_drew (S:=(fun W=>(zcc W b (off+k*8) (.bool x.up)∧zcc W b (off+k*8+1) (.int .i64 x.k)∧zcc W b (off+k*8+2) (.bool x.has)∧zcc W b (off+k*8+3) (.int .i64 x.v.r)∧zcc W b (off+k*8+4) (.int .i64 x.v.c)∧zcc W b (off+k*8+5) (.int .i64 x.v.h)∧zcc W b (off+k*8+6) (.int .i64 x.v.b)∧zcc W b (off+k*8+7) (.int .i64 x.v.p))∧(zcc W b2 (off2+k*8) (.bool y.up)∧zcc W b2 (off2+k*8+1) (.int .i64 y.k)∧zcc W b2 (off2+k*8+2) (.bool y.has)∧zcc W b2 (off2+k*8+3) (.int .i64 y.v.r)∧zcc W b2 (off2+k*8+4) (.int .i64 y.v.c)∧zcc W b2 (off2+k*8+5) (.int .i64 y.v.h)∧zcc W b2 (off2+k*8+6) (.int .i64 y.v.b)∧zcc W b2 (off2+k*8+7) (.int .i64 y.v.p)))) (by kernel_rfl) (HS) (fun hHeld => ?_);refine kK 0 ?_;refine kK 1 ?_;refine kK 2 ?_;refine kK 3 ?_;refine kK 4 ?_;refine kK 5 ?_;refine kK 6 ?_;refine kK 7 ?_;refine kK 8 ?_;refine wpAnyH_done (by kernel_rfl) ?_ _;clear HS hne hgd c0 c1 c2 c3 c4 c5 c6 c7 d0 d1 d2 d3 d4 d5 d6 d7;go_wp2;go_ret;exact ⟨false,rfl,⟨(fun e=>by cases e),fun e=>absurd e HN.out⟩,zr hb⟩
    ·have HA:Hid (∀j:Nat,j < k+1→l[j]? = l2[j]?):=hide (by
      intro j hj;by_cases e:j=k
      ·subst e;rw [hx,hy,(zfI x y).1 hs]
      ·exact hall j (by omega))
     have hne:∀W,(binOp .neq 79 (.agg #[.bool x.up,.int .i64 x.k,.bool x.has,.int .i64 x.v.r,.int .i64 x.v.c,.int .i64 x.v.h,.int .i64 x.v.b,.int .i64 x.v.p]) (.agg #[.bool y.up,.int .i64 y.k,.bool y.has,.int .i64 y.v.r,.int .i64 y.v.c,.int .i64 y.v.h,.int .i64 y.v.b,.int .i64 y.v.p])).run Tryz.prog W=.ok (.bool false) W:=fun W=>by rw [zjT,hs]; rfl
     have hgd:Tryz.prog.eqGuardType Tryz.prog.depth 79=false:=by kernel_rfl
     have HS:(fun W=>(W.cell? ⟨b,off+k*8,none⟩=some (.bool x.up)∧W.cell? ⟨b,off+k*8+1,none⟩=some (.int .i64 x.k)∧W.cell? ⟨b,off+k*8+2,none⟩=some (.bool x.has)∧W.cell? ⟨b,off+k*8+3,none⟩=some (.int .i64 x.v.r)∧W.cell? ⟨b,off+k*8+4,none⟩=some (.int .i64 x.v.c)∧W.cell? ⟨b,off+k*8+5,none⟩=some (.int .i64 x.v.h)∧W.cell? ⟨b,off+k*8+6,none⟩=some (.int .i64 x.v.b)∧W.cell? ⟨b,off+k*8+7,none⟩=some (.int .i64 x.v.p))∧(W.cell? ⟨b2,off2+k*8,none⟩=some (.bool y.up)∧W.cell? ⟨b2,off2+k*8+1,none⟩=some (.int .i64 y.k)∧W.cell? ⟨b2,off2+k*8+2,none⟩=some (.bool y.has)∧W.cell? ⟨b2,off2+k*8+3,none⟩=some (.int .i64 y.v.r)∧W.cell? ⟨b2,off2+k*8+4,none⟩=some (.int .i64 y.v.c)∧W.cell? ⟨b2,off2+k*8+5,none⟩=some (.int .i64 y.v.h)∧W.cell? ⟨b2,off2+k*8+6,none⟩=some (.int .i64 y.v.b)∧W.cell? ⟨b2,off2+k*8+7,none⟩=some (.int .i64 y.v.p))) wr.drew:=⟨⟨c0,c1,c2,c3,c4,c5,c6,c7⟩,d0,d1,d2,d3,d4,d5,d6,d7⟩;clear hs hall hx hy;(go_wp2_with fail);refine wp_region_held_drew (S:=(fun W=>(zcc W b (off+k*8) (.bool x.up)∧zcc W b (off+k*8+1) (.int .i64 x.k)∧zcc W b (off+k*8+2) (.bool x.has)∧zcc W b (off+k*8+3) (.int .i64 x.v.r)∧zcc W b (off+k*8+4) (.int .i64 x.v.c)∧zcc W b (off+k*8+5) (.int .i64 x.v.h)∧zcc W b (off+k*8+6) (.int .i64 x.v.b)∧zcc W b (off+k*8+7) (.int .i64 x.v.p))∧(zcc W b2 (off2+k*8) (.bool y.up)∧zcc W b2 (off2+k*8+1) (.int .i64 y.k)∧zcc W b2 (off2+k*8+2) (.bool y.has)∧zcc W b2 (off2+k*8+3) (.int .i64 y.v.r)∧zcc W b2 (off2+k*8+4) (.int .i64 y.v.c)∧zcc W b2 (off2+k*8+5) (.int .i64 y.v.h)∧zcc W b2 (off2+k*8+6) (.int .i64 y.v.b)∧zcc W b2 (off2+k*8+7) (.int .i64 y.v.p)))) (by kernel_rfl) (HS) (fun hHeld => ?_);refine kK 0 ?_;refine kK 1 ?_;refine kK 2 ?_;refine kK 3 ?_;refine kK 4 ?_;refine kK 5 ?_;refine kK 6 ?_;refine kK 7 ?_;refine kK 8 ?_;refine wpAnyH_done (by kernel_rfl) ?_ _;clear HS hne hgd c0 c1 c2 c3 c4 c5 c6 c7 d0 d1 d2 d3 d4 d5 d6 d7;go_wp2
     go_roundw
     case rel=>exact ⟨k+1,by omega,by go_num,HA.out,zr hb⟩
     case measure=>simp [intOf]; omega
   ·have hkn:k=n:=by omega
    subst hkn;have HE:Hid (l=l2):=hide (by
     refine List.ext_getElem? (fun j => ?_);by_cases hj:j < k
     ·exact hall j hj
     ·rw [List.getElem?_eq_none (by omega),List.getElem?_eq_none (by omega)])
    clear hall;go_wp2;go_ret;exact ⟨true,rfl,⟨fun _=>HE.out,fun _=>rfl⟩,hb⟩
 ·have hne:¬(n:Int)=(n2:Int):=by omega
  go_enter Tryz.func53,Tryz.ntmps53;go_wp2;go_ret;exact ⟨false,rfl,⟨(fun e=>by cases e),fun e=>absurd (by rw [← hsz,← hsz2,e]) hnn⟩,Below.refl _ _⟩

theorem zc0 (a:Option Addr) (n c:Nat) (l:List FE) (a2:Option Addr) (n2 c2:Nat) (l2:List FE) (w:World) (h:GRow fentF w a n c l) (h2:GRow fentF w a2 n2 c2 l2) :
  Calls Tryz.prog 54 #[.slice a n c,.slice a2 n2 c2] w fun e w'=>∃q:Bool,e=.returned (.bool q)∧(q=true↔l=l2)∧Below w.heap.size w w':=by
 have hle:=h.le;have htop:=h.top;have hle2:=h2.le;have htop2:=h2.top;unfold maxLen at htop htop2;have hsz:=h.size;have hsz2:=h2.size;by_cases hnn:n=n2
 ·subst hnn;go_enter Tryz.func54,Tryz.ntmps54;go_wp2
  go_loopw [13] (fun i wr=>∃k:Nat,k≤n∧i=.int .i64 k∧(∀j:Nat,j < k→l[j]? = l2[j]?)∧Below w.heap.size w wr) (fun i _=>n - (intOf i).toNat)
  case atStart=>exact ⟨0,Nat.zero_le _,rfl,fun j hj=>by omega,Below.refl _ _⟩
  case round =>
   obtain ⟨k,hk,rfl,hall,hb⟩:=hrel;by_cases hlt:k < n
   ·obtain ⟨x,b,off,hx,rfl,c0,c1,c2,c3,c4⟩:=zbH (h.below hb) k hlt;obtain ⟨y,b2,off2,hy,rfl,d0,d1,d2,d3,d4⟩:=zbH (h2.below hb) k hlt;have i1:(0:Int)≤(k:Int):=by omega
    have i2:(k:Int) < (n:Int):=by omega
    cases hs:zg1 x y
    ·have HN:Hid (¬l=l2):=hide (by
      intro e;rw [e,hy] at hx;cases hx;rw [(zfH x x).2 rfl] at hs;cases hs)
     have hne:∀W,(binOp .neq 95 (.agg #[.int .i64 x.t,.int .i64 x.m,.int .i64 x.p,.int .i64 x.a,.bool x.s]) (.agg #[.int .i64 y.t,.int .i64 y.m,.int .i64 y.p,.int .i64 y.a,.bool y.s])).run Tryz.prog W=.ok (.bool true) W:=fun W=>by rw [zgx,hs]; rfl
     have hgd:Tryz.prog.eqGuardType Tryz.prog.depth 95=false:=by kernel_rfl
     have HS:(fun W=>(W.cell? ⟨b,off+k*5,none⟩=some (.int .i64 x.t)∧W.cell? ⟨b,off+k*5+1,none⟩=some (.int .i64 x.m)∧W.cell? ⟨b,off+k*5+2,none⟩=some (.int .i64 x.p)∧W.cell? ⟨b,off+k*5+3,none⟩=some (.int .i64 x.a)∧W.cell? ⟨b,off+k*5+4,none⟩=some (.bool x.s))∧(W.cell? ⟨b2,off2+k*5,none⟩=some (.int .i64 y.t)∧W.cell? ⟨b2,off2+k*5+1,none⟩=some (.int .i64 y.m)∧W.cell? ⟨b2,off2+k*5+2,none⟩=some (.int .i64 y.p)∧W.cell? ⟨b2,off2+k*5+3,none⟩=some (.int .i64 y.a)∧W.cell? ⟨b2,off2+k*5+4,none⟩=some (.bool y.s))) wr.drew:=⟨⟨c0,c1,c2,c3,c4⟩,d0,d1,d2,d3,d4⟩;clear hs hall hx hy;(go_wp2_with fail);refine wp_region_held_drew (S:=(fun W=>(zcc W b (off+k*5) (.int .i64 x.t)∧zcc W b (off+k*5+1) (.int .i64 x.m)∧zcc W b (off+k*5+2) (.int .i64 x.p)∧zcc W b (off+k*5+3) (.int .i64 x.a)∧zcc W b (off+k*5+4) (.bool x.s))∧(zcc W b2 (off2+k*5) (.int .i64 y.t)∧zcc W b2 (off2+k*5+1) (.int .i64 y.m)∧zcc W b2 (off2+k*5+2) (.int .i64 y.p)∧zcc W b2 (off2+k*5+3) (.int .i64 y.a)∧zcc W b2 (off2+k*5+4) (.bool y.s)))) (by kernel_rfl) (HS) (fun hHeld => ?_);refine kK 0 ?_;refine kK 1 ?_;refine kK 2 ?_;refine kK 3 ?_;refine kK 4 ?_;refine kK 5 ?_;refine kK 6 ?_;refine kK 7 ?_;refine kK 8 ?_;refine wpAnyH_done (by kernel_rfl) ?_ _;clear HS hne hgd c0 c1 c2 c3 c4 d0 d1 d2 d3 d4;go_wp2;go_ret;exact ⟨false,rfl,⟨(fun e=>by cases e),fun e=>absurd e HN.out⟩,zr hb⟩
    ·have HA:Hid (∀j:Nat,j < k+1→l[j]? = l2[j]?):=hide (by
      intro j hj;by_cases e:j=k
      ·subst e;rw [hx,hy,(zfH x y).1 hs]
      ·exact hall j (by omega))
     have hne:∀W,(binOp .neq 95 (.agg #[.int .i64 x.t,.int .i64 x.m,.int .i64 x.p,.int .i64 x.a,.bool x.s]) (.agg #[.int .i64 y.t,.int .i64 y.m,.int .i64 y.p,.int .i64 y.a,.bool y.s])).run Tryz.prog W=.ok (.bool false) W:=fun W=>by rw [zgx,hs]; rfl
     have hgd:Tryz.prog.eqGuardType Tryz.prog.depth 95=false:=by kernel_rfl
     have HS:(fun W=>(W.cell? ⟨b,off+k*5,none⟩=some (.int .i64 x.t)∧W.cell? ⟨b,off+k*5+1,none⟩=some (.int .i64 x.m)∧W.cell? ⟨b,off+k*5+2,none⟩=some (.int .i64 x.p)∧W.cell? ⟨b,off+k*5+3,none⟩=some (.int .i64 x.a)∧W.cell? ⟨b,off+k*5+4,none⟩=some (.bool x.s))∧(W.cell? ⟨b2,off2+k*5,none⟩=some (.int .i64 y.t)∧W.cell? ⟨b2,off2+k*5+1,none⟩=some (.int .i64 y.m)∧W.cell? ⟨b2,off2+k*5+2,none⟩=some (.int .i64 y.p)∧W.cell? ⟨b2,off2+k*5+3,none⟩=some (.int .i64 y.a)∧W.cell? ⟨b2,off2+k*5+4,none⟩=some (.bool y.s))) wr.drew:=⟨⟨c0,c1,c2,c3,c4⟩,d0,d1,d2,d3,d4⟩;clear hs hall hx hy;(go_wp2_with fail);refine wp_region_held_drew (S:=(fun W=>(zcc W b (off+k*5) (.int .i64 x.t)∧zcc W b (off+k*5+1) (.int .i64 x.m)∧zcc W b (off+k*5+2) (.int .i64 x.p)∧zcc W b (off+k*5+3) (.int .i64 x.a)∧zcc W b (off+k*5+4) (.bool x.s))∧(zcc W b2 (off2+k*5) (.int .i64 y.t)∧zcc W b2 (off2+k*5+1) (.int .i64 y.m)∧zcc W b2 (off2+k*5+2) (.int .i64 y.p)∧zcc W b2 (off2+k*5+3) (.int .i64 y.a)∧zcc W b2 (off2+k*5+4) (.bool y.s)))) (by kernel_rfl) (HS) (fun hHeld => ?_);refine kK 0 ?_;refine kK 1 ?_;refine kK 2 ?_;refine kK 3 ?_;refine kK 4 ?_;refine kK 5 ?_;refine kK 6 ?_;refine kK 7 ?_;refine kK 8 ?_;refine wpAnyH_done (by kernel_rfl) ?_ _;clear HS hne hgd c0 c1 c2 c3 c4 d0 d1 d2 d3 d4;go_wp2
     go_roundw
     case rel=>exact ⟨k+1,by omega,by go_num,HA.out,zr hb⟩
     case measure=>simp [intOf]; omega
   ·have hkn:k=n:=by omega
    subst hkn;have HE:Hid (l=l2):=hide (by
     refine List.ext_getElem? (fun j => ?_);by_cases hj:j < k
     ·exact hall j hj
     ·rw [List.getElem?_eq_none (by omega),List.getElem?_eq_none (by omega)])
    clear hall;go_wp2;go_ret;exact ⟨true,rfl,⟨fun _=>HE.out,fun _=>rfl⟩,hb⟩
 ·have hne:¬(n:Int)=(n2:Int):=by omega
  go_enter Tryz.func54,Tryz.ntmps54;go_wp2;go_ret;exact ⟨false,rfl,⟨(fun e=>by cases e),fun e=>absurd (by rw [← hsz,← hsz2,e]) hnn⟩,Below.refl _ _⟩

theorem zdV (a:Option Addr) (n c:Nat) (l:List VR) (a2:Option Addr) (n2 c2:Nat) (l2:List VR) (w:World) (h:GRow vrowF w a n c l) (h2:GRow vrowF w a2 n2 c2 l2) :
  Calls Tryz.prog 55 #[.slice a n c,.slice a2 n2 c2] w fun e w'=>∃q:Bool,e=.returned (.bool q)∧(q=true↔l=l2)∧Below w.heap.size w w':=by
 have hle:=h.le;have htop:=h.top;have hle2:=h2.le;have htop2:=h2.top;unfold maxLen at htop htop2;have hsz:=h.size;have hsz2:=h2.size;by_cases hnn:n=n2
 ·subst hnn;go_enter Tryz.func55,Tryz.ntmps55;go_wp2
  go_loopw [13] (fun i wr=>∃k:Nat,k≤n∧i=.int .i64 k∧(∀j:Nat,j < k→l[j]? = l2[j]?)∧Below w.heap.size w wr) (fun i _=>n - (intOf i).toNat)
  case atStart=>exact ⟨0,Nat.zero_le _,rfl,fun j hj=>by omega,Below.refl _ _⟩
  case round =>
   obtain ⟨k,hk,rfl,hall,hb⟩:=hrel;by_cases hlt:k < n
   ·obtain ⟨x,b,off,hx,rfl,c0,c1,c2⟩:=zb2 (h.below hb) k hlt;obtain ⟨y,b2,off2,hy,rfl,d0,d1,d2⟩:=zb2 (h2.below hb) k hlt;have i1:(0:Int)≤(k:Int):=by omega
    have i2:(k:Int) < (n:Int):=by omega
    cases hs:zg5 x y
    ·have HN:Hid (¬l=l2):=hide (by
      intro e;rw [e,hy] at hx;cases hx;rw [(zfJ x x).2 rfl] at hs;cases hs)
     have hne:∀W,(binOp .neq 98 (.agg #[.int .i64 x.i,.int .i64 x.m,.int .i64 x.b]) (.agg #[.int .i64 y.i,.int .i64 y.m,.int .i64 y.b])).run Tryz.prog W=.ok (.bool true) W:=fun W=>by rw [zha,hs]; rfl
     have hgd:Tryz.prog.eqGuardType Tryz.prog.depth 98=false:=by kernel_rfl
     have HS:(fun W=>(W.cell? ⟨b,off+k*3,none⟩=some (.int .i64 x.i)∧W.cell? ⟨b,off+k*3+1,none⟩=some (.int .i64 x.m)∧W.cell? ⟨b,off+k*3+2,none⟩=some (.int .i64 x.b))∧(W.cell? ⟨b2,off2+k*3,none⟩=some (.int .i64 y.i)∧W.cell? ⟨b2,off2+k*3+1,none⟩=some (.int .i64 y.m)∧W.cell? ⟨b2,off2+k*3+2,none⟩=some (.int .i64 y.b))) wr.drew:=⟨⟨c0,c1,c2⟩,d0,d1,d2⟩;clear hs hall hx hy;(go_wp2_with fail);refine wp_region_held_drew (S:=(fun W=>(zcc W b (off+k*3) (.int .i64 x.i)∧zcc W b (off+k*3+1) (.int .i64 x.m)∧zcc W b (off+k*3+2) (.int .i64 x.b))∧(zcc W b2 (off2+k*3) (.int .i64 y.i)∧zcc W b2 (off2+k*3+1) (.int .i64 y.m)∧zcc W b2 (off2+k*3+2) (.int .i64 y.b)))) (by kernel_rfl) (HS) (fun hHeld => ?_);refine kK 0 ?_;refine kK 1 ?_;refine kK 2 ?_;refine kK 3 ?_;refine kK 4 ?_;refine kK 5 ?_;refine kK 6 ?_;refine kK 7 ?_;refine kK 8 ?_;refine wpAnyH_done (by kernel_rfl) ?_ _;clear HS hne hgd c0 c1 c2 d0 d1 d2;go_wp2;go_ret;exact ⟨false,rfl,⟨(fun e=>by cases e),fun e=>absurd e HN.out⟩,zr hb⟩
    ·have HA:Hid (∀j:Nat,j < k+1→l[j]? = l2[j]?):=hide (by
      intro j hj;by_cases e:j=k
      ·subst e;rw [hx,hy,(zfJ x y).1 hs]
      ·exact hall j (by omega))
     have hne:∀W,(binOp .neq 98 (.agg #[.int .i64 x.i,.int .i64 x.m,.int .i64 x.b]) (.agg #[.int .i64 y.i,.int .i64 y.m,.int .i64 y.b])).run Tryz.prog W=.ok (.bool false) W:=fun W=>by rw [zha,hs]; rfl
     have hgd:Tryz.prog.eqGuardType Tryz.prog.depth 98=false:=by kernel_rfl
     have HS:(fun W=>(W.cell? ⟨b,off+k*3,none⟩=some (.int .i64 x.i)∧W.cell? ⟨b,off+k*3+1,none⟩=some (.int .i64 x.m)∧W.cell? ⟨b,off+k*3+2,none⟩=some (.int .i64 x.b))∧(W.cell? ⟨b2,off2+k*3,none⟩=some (.int .i64 y.i)∧W.cell? ⟨b2,off2+k*3+1,none⟩=some (.int .i64 y.m)∧W.cell? ⟨b2,off2+k*3+2,none⟩=some (.int .i64 y.b))) wr.drew:=⟨⟨c0,c1,c2⟩,d0,d1,d2⟩;clear hs hall hx hy;(go_wp2_with fail);refine wp_region_held_drew (S:=(fun W=>(zcc W b (off+k*3) (.int .i64 x.i)∧zcc W b (off+k*3+1) (.int .i64 x.m)∧zcc W b (off+k*3+2) (.int .i64 x.b))∧(zcc W b2 (off2+k*3) (.int .i64 y.i)∧zcc W b2 (off2+k*3+1) (.int .i64 y.m)∧zcc W b2 (off2+k*3+2) (.int .i64 y.b)))) (by kernel_rfl) (HS) (fun hHeld => ?_);refine kK 0 ?_;refine kK 1 ?_;refine kK 2 ?_;refine kK 3 ?_;refine kK 4 ?_;refine kK 5 ?_;refine kK 6 ?_;refine kK 7 ?_;refine kK 8 ?_;refine wpAnyH_done (by kernel_rfl) ?_ _;clear HS hne hgd c0 c1 c2 d0 d1 d2;go_wp2
     go_roundw
     case rel=>exact ⟨k+1,by omega,by go_num,HA.out,zr hb⟩
     case measure=>simp [intOf]; omega
   ·have hkn:k=n:=by omega
    subst hkn;have HE:Hid (l=l2):=hide (by
     refine List.ext_getElem? (fun j => ?_);by_cases hj:j < k
     ·exact hall j hj
     ·rw [List.getElem?_eq_none (by omega),List.getElem?_eq_none (by omega)])
    clear hall;go_wp2;go_ret;exact ⟨true,rfl,⟨fun _=>HE.out,fun _=>rfl⟩,hb⟩
 ·have hne:¬(n:Int)=(n2:Int):=by omega
  go_enter Tryz.func55,Tryz.ntmps55;go_wp2;go_ret;exact ⟨false,rfl,⟨(fun e=>by cases e),fun e=>absurd (by rw [← hsz,← hsz2,e]) hnn⟩,Below.refl _ _⟩

theorem zgv (a1:Option Addr) (l1 c1:Nat) (z1:List Int) (a2:Option Addr) (l2 c2:Nat) (z2:List Int) (w:World) (h1:IRow w a1 l1 c1 z1) (h2:IRow w a2 l2 c2 z2) :
  Calls Tryz.prog 56 #[.slice a1 l1 c1,.slice a2 l2 c2] w fun e w'=>e=.returned (.bool (decide (z1=z2)))∧∃n,w'=w.drewN n:=by
 have m1:=h1.top; have m2:=h2.top; have s1:=h1.size; have s2:=h2.size; have e1:=h1.le; have e2:=h2.le
 unfold maxLen at m1 m2;by_cases hl:l1=l2
 ·subst hl;by_cases h0:l1=0
  ·subst h0;have hz:z1=z2:=by rw [List.eq_nil_of_length_eq_zero s1,List.eq_nil_of_length_eq_zero s2]
   go_enter Tryz.func56,Tryz.ntmps56;go_wp2
   go_loop [13] (fun i=>i=.int .i64 0) (fun _=>0)
   case atStart=>rfl
   case round =>
    subst hrel;go_wp2;go_ret;exact ⟨by simp,0,rfl⟩
  ·rcases h1.cell with h | ⟨b1,o1,rfl,g1⟩
   ·exact absurd h h0
   rcases h2.cell with h | ⟨b2,o2,rfl,g2⟩
   ·exact absurd h h0
   clear h1 h2;have G1:Hid (∀i,i < l1→w.cell? ⟨b1,o1+i,none⟩=some (.int .i64 (z1.getD i 0))):=g1;have G2:Hid (∀i,i < l1→w.cell? ⟨b2,o2+i,none⟩=some (.int .i64 (z2.getD i 0))):=g2;clear g1 g2;go_enter Tryz.func56,Tryz.ntmps56;go_wp2
   go_loopw [13] (fun i wr=>∃k:Nat,k≤l1∧i=.int .i64 k∧z1.take k=z2.take k∧∃n,wr=w.drewN n) (fun i _=>l1 - (intOf i).toNat)
   case atStart=>exact ⟨0,Nat.zero_le _,rfl,rfl,0,rfl⟩
   case round =>
    obtain ⟨k,hk,rfl,ht,n,rfl⟩:=hrel;have HT:Hid (z1.take k=z2.take k):=ht;clear ht;by_cases hlt:k < l1
    ·have c1:=G1.out k hlt;have c2:=G2.out k hlt;generalize hx:z1.getD k 0=x at c1;generalize hy:z2.getD k 0=y at c2;have HX:Hid (z1.getD k 0=x):=hx;have HY:Hid (z2.getD k 0=y):=hy;clear hx hy;by_cases hq:x=y
     ·subst hq;go_wp2
      go_quiet (fail)
      go_wp2
      go_roundw
      case rel=>exact ⟨k+1,by omega,by go_num,by rw [zdj _ _ (by omega),zdj _ _ (by omega),HT.out,HX.out,HY.out],_,rfl⟩
      case measure=>simp [intOf]; omega
     ·have hne:(x != y)=true:=by simp [hq]
      go_wp2
      go_quiet (fail)
      go_wp2;go_ret;exact ⟨zH (decide_eq_false (ne_at k (by rw [HX.out,HY.out]; exact hq))).symm,_,World.drewN_drewN _ _ _⟩
    ·go_wp2;go_ret;have hk':k=l1:=by omega
     exact ⟨zH (decide_eq_true (zhj (by omega) (by rw [s1,← hk']; exact HT.out))).symm,_,rfl⟩
 ·have hne:((l1:Int) != (l2:Int))=true:=by simp; omega
  have hz:¬z1=z2:=by intro e; rw [e] at s1; omega
  go_enter Tryz.func56,Tryz.ntmps56;go_wp2;go_ret;exact ⟨zH (decide_eq_false hz).symm,0,rfl⟩

theorem zlz (a0:Option Addr) (l0 c0:Nat) (w:World) (h:¬1048576 < l0):Calls Tryz.prog 4 #[.slice a0 l0 c0] w fun e w'=>e=.returned (.bool false)∧w'=w:=by
 have i1:¬(1048576:Int) < l0:=by omega
 go_enter Tryz.func4,Tryz.ntmps4;go_wp2;go_ret;exact ⟨rfl,rfl⟩

theorem Row.take {w:World} {ao:Option Addr} {n c:Nat} {zs:List Int} (h:Row w ao n c zs) (k:Nat) (hk:k≤n):Row w ao k c (zs.take k) where
 size:=by have:=h.size; simp; omega
 le:=by have:=h.le; omega
 top:=h.top
 nil:=h.nil
 byte:=fun z hz=>h.byte z (List.mem_of_mem_take hz)
 cell:=by
  rcases h.cell with h0 | ⟨b,off,ha,hc⟩
  ·exact .inl (by omega)
  ·exact .inr ⟨b,off,ha,fun i hi=>by rw [hc i (by omega)]; simp [List.getD_eq_getElem?_getD,hi]⟩

end Go.Proofs.YtkcoehmpnkdinaaGreat
