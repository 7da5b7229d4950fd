/-
  FnTrueWays answers true of every code: of a drawn net, how far it is from a bridge to its root is no more than by any neighbour and the link to it, and as much as by one; the root's own is 0; neighbours have the same root.
-/
import Derived.Test.YtkaefmfopejbaaaGreatPVK30
namespace Go.Proofs.YtkaefmfopejbaaaGreat
set_option maxRecDepth 100000
set_option maxHeartbeats 16000000
open Go.RowKit

section
open Go.RowKit

structure Bst (bs:List BR) (ls:List LK) (u x:Nat) (X:BR) (c:Int) (p:Nat) (best:Int):Prop where
 lo:best = -1∨c≤best
 hi:∀(j v q:Nat) (y:PT) (B:BR) (c':Int),j < p→Hears bs ls ls.length u j v q→bs[u]? = some B→B.ports[j]? = some y→Rooted bs ls v x X c'→best ≠ -1∧best≤c'+y.k

section
variable {bs:List BR} {ls:List LK} {u x p:Nat} {X:BR} {c best:Int}

theorem zhQ:Bst bs ls u x X c 0 (-1):=⟨.inl rfl,fun _ _ _ _ _ _ h=>absurd h (Nat.not_lt_zero _)⟩

theorem Bst.skip (h:Bst bs ls u x X c p best) (hn:∀v q,¬Hears bs ls ls.length u p v q):Bst bs ls u x X c (p+1) best :=
 ⟨h.lo,fun j v q y B c' hj hh hB hy hr=>by
  by_cases e:j=p
  ·subst e;exact absurd hh (hn v q)
  ·exact h.hi j v q y B c' (by omega) hh hB hy hr⟩

theorem Bst.take (h:Bst bs ls u x X c p best) {v q:Nat} {B:BR} {y:PT} {c2 K:Int} (hh:Hears bs ls ls.length u p v q) (hB:bs[u]? = some B) (hy:B.ports[p]? = some y) (hr:Rooted bs ls v x X c2) (hK:c2+y.k=K) (hc:c≤K) (hl:best < 0∨K < best) (hp:0≤c) (h1:∀v' q',Hears bs ls ls.length u p v' q'→v'=v):Bst bs ls u x X c (p+1) K :=
 ⟨.inr hc,fun j v' q' y' B' c' hj hh' hB' hy' hr'=>by
  by_cases e:j=p
  ·subst e;have e:=h1 _ _ hh';subst e;rw [hB] at hB';cases hB';rw [hy] at hy';cases hy'
   have:=zbq hr.least hr'.least
   omega
  ·have:=h.hi j v' q' y' B' c' (by omega) hh' hB' hy' hr'
   have:=h.lo
   omega⟩

theorem Bst.keep (h:Bst bs ls u x X c p best) {v q:Nat} {B:BR} {y:PT} {c2 K:Int} (hh:Hears bs ls ls.length u p v q) (hB:bs[u]? = some B) (hy:B.ports[p]? = some y) (hr:Rooted bs ls v x X c2) (hK:c2+y.k=K) (hn:0≤best) (hl:best≤K) (h1:∀v' q',Hears bs ls ls.length u p v' q'→v'=v):Bst bs ls u x X c (p+1) best :=
 ⟨h.lo,fun j v' q' y' B' c' hj hh' hB' hy' hr'=>by
  by_cases e:j=p
  ·subst e;have e:=h1 _ _ hh';subst e;rw [hB] at hB';cases hB';rw [hy] at hy';cases hy'
   have:=zbq hr.least hr'.least
   omega
  ·exact h.hi j v' q' y' B' c' (by omega) hh' hB' hy' hr'⟩

theorem Bst.done {ss:List SY} (h:Bst bs ls u x X c p best) (hok:NetOk bs ls ss) (hr:Rooted bs ls u x X c) {B:BR} (hB:bs[u]? = some B) (hne:¬u=x) (hp:B.ports.length≤p):best=c:=by
 obtain ⟨v,q,k,⟨j,B',y,hh,hB',hy,rfl⟩,hr2⟩:=zfJ hok hr hne;rw [hB] at hB';cases hB';have hj:=(List.getElem?_eq_some_iff.1 hy).1;have h1:=h.hi j v q y B _ (by omega) hh hB hy hr2;have h2:=h.lo;omega
end

theorem zeA (a0:Option Addr) (l0 c0:Nat) (z0:List Int) (w:World) (h0:Row w a0 l0 c0 z0) :
  Calls Tryz.prog 4 #[.slice a0 l0 c0] w fun e w'=>e=.returned (.bool true)∧Below w.heap.size w w':=by
 by_cases hbig:1048576 < l0
 ·have hb1:Calls Tryz.prog 5 #[.slice a0 l0 c0] w fun e w'=>e=.returned (.bool true)∧w'=w:=by
   have i1:(1048576:Int) < l0:=by omega
   go_enter Tryz.func5,Tryz.ntmps5;go_wp2;go_ret;exact ⟨rfl,rfl⟩
  go_enter Tryz.func4,Tryz.ntmps4;go_wp2_with (go_at_call 5; refine hb1.mono ?_; rintro e w' ⟨rfl,rfl⟩)
  go_ret;exact ⟨rfl,Below.refl _ _⟩
 go_enter Tryz.func4,Tryz.ntmps4;go_wp2_with (go_at_call 5; refine (zi9 a0 l0 c0 _ hbig).mono ?_; rintro e w' ⟨rfl,e3⟩; obtain rfl:=e3.symm)
 refine (zfq a0 l0 c0 z0 _ h0 (by omega)).mono ?_;rintro e w1 ⟨N,ao,cap,l,rfl,oN,hok,-,-,bw⟩;have HOK:=hide hok;generalize hwb:w1.alloc (Obj.cells #[.slice N.ba N.bn N.bc,.slice N.la N.ln N.lc,.slice N.sa N.sn N.sc] 28)=w2;have bb0:=zb hwb;have kN:=zk hwb;have oN:=oN.below bb0;have bw:=zc bw bb0;generalize hXN:w1.heap.size=XN at *;have HNL:Hid (N.brs.length=N.bn):=hide (by rw [zbv]; exact oN.row.b.size);have HN6:Hid (N.bn≤6):=hide (by rw [← HNL.out]; exact hok.1.2.2.2);have HL9:Hid (N.ln≤9):=hide (by rw [← oN.row.l.size]; exact hok.2.1.1);have h1n:1≤N.bn:=by rw [← HNL.out]; exact hok.1.2.2.1
 obtain ⟨-,bb,off,-,hba,-⟩:=br_at oN.row.b 0 (by omega);have HBA:=hide hba;have HGB:Hid (GRow brF w2 (some ⟨bb,off,none⟩) N.bn N.bc N.bs):=hide (by rw [← hba]; exact oN.row.b);clear hok bb0 hba h1n;obtain ⟨x0,x1,x2⟩:=zd kN;have hn6:=HN6.out;go_upto_region 4 with fail
 try rw [hwb]
 clear hwb;go_wp2_with fail
 go_loopw [5] (fun i wr=>∃k:Nat,k≤N.bn∧i=.int .i64 k∧Below w2.heap.size w2 wr) (fun i _=>N.bn - (intOf i).toNat)
 case atStart=>exact ⟨0,Nat.zero_le _,rfl,Below.refl _ _⟩
 case round =>
  clear x0 x1 x2;obtain ⟨k,hk,rfl,hb⟩:=hrel;obtain ⟨x0,x1,x2⟩:=zd (za kN hb);by_cases hkn:k < N.bn
  ·have j0:(0:Int)≤(k:Int):=by omega
   have j1:(k:Int) < (N.bn:Int):=by omega
   obtain ⟨y,-,-,hy,-⟩:=br_at oN.row.b k hkn;have hyR:=oN.row.item y (List.mem_of_getElem? hy);have HYB:=hide (zb8 hy);have HALL:Hid (∀W,Below w2.heap.size w2 W→(zcc W XN 0 (.slice (some ⟨bb,off,none⟩) N.bn N.bc)∧zcc W XN 1 (.slice N.la N.ln N.lc)∧zcc W XN 2 (.slice N.sa N.sn N.sc))∧zcc W bb (off+k*11) (.int .i64 y.B.id)∧zcc W bb (off+k*11+2) (.slice y.a y.n y.c)):=hide (fun W hW=>by
    obtain ⟨u0,u1,u2⟩:=zd (za kN hW);rw [HBA.out] at u0;have u3:=zH HGB.out hW hy;exact ⟨⟨u0,u1,u2⟩,u3.1,u3.2.2.1⟩)
   obtain ⟨x,X,c,hr⟩:=zcY HOK.out HYB.out;have HR:=hide hr;have HF:=hide (zcj HOK.out hr HYB.out);have hrt:=fun W hW=>za8 N k W hW hkn (by omega) (by have:=HL9.out; omega)
   have hro:=hr.root;rw [HNL.out] at hro;rw [hro] at hrt;clear hy hr hro;(go_wp2_with fail);refine (zbQ N N.ss HOK.out k x X c _ (oN.row.below hb) hkn HR.out).mono ?_;rintro e w4 ⟨rfl,hb4⟩;have hb:=zc hb hb4;clear x0 x1 x2 hb4;obtain ⟨x0,x1,x2⟩:=zd (za kN hb);(go_wp2_with fail);refine (hrt _ (oN.row.below hb)).mono ?_;rintro e w5 ⟨rfl,hb5⟩;have hb:=zc hb hb5;have hyn:=hyR.ports.size;have hy6:y.n≤6:=by
    have h1:=(zK (HOK.out.1.1 y.B (List.mem_of_getElem? HYB.out))).2.2.2.1;unfold in3 at h1;simp only [Bool.and_eq_true,decide_eq_true_eq] at h1;omega
   clear x0 x1 x2 hb5 hrt;(go_wp2_with fail)
   go_loopw [8,9] (fun s i wr=>∃(p:Nat) (best:Int),p≤y.n∧i=.int .i64 p∧s=.int .i64 best∧Bst N.brs N.ls k x X c p best∧Below w2.heap.size w2 wr) (fun _ i _=>y.n - (intOf i).toNat)
   case atStart=>exact ⟨0,-1,Nat.zero_le _,rfl,rfl,zhQ,hb⟩
   case round =>
    clear hb;obtain ⟨p,best,hp,rfl,rfl,hbs,hb⟩:=hrel;by_cases hlt:p < y.n
    ·obtain ⟨z,pb,po,hz,hya,p0,p1,-⟩:=pt_at ((hyR.below hb).ports) p hlt;have HZ:Hid (y.B.ports[p]? = some z):=hide hz;have HYA:=hide hya;obtain ⟨⟨x0,x1,x2⟩,q0,q2⟩:=HALL.out _ hb;have i0:(0:Int)≤(p:Int):=by omega
     have i1:(p:Int) < (y.n:Int):=by omega
     clear hz hya;(go_wp2_with fail);rw [← HBA.out];refine (zdM N (k:Int) (p:Int) _ (oN.row.below hb)).mono ?_;rintro e w7 ⟨rfl,hb7⟩;have p0:=(hb7.cell (zp p0)).trans p0;have p1:=(hb7.cell (zp p1)).trans p1;have hb:=zc hb hb7;clear x0 x1 x2 q0 q2 hb7;obtain ⟨⟨x0,x1,x2⟩,q0,q2⟩:=HALL.out _ hb;rw [HYA.out] at q2;cases hbe:zaN N.ls (k:Int) (p:Int) with
     | none =>
      have HBS:=hide (hbs.skip (fun v q hh=>by have:=(zcV HOK.out hh).1; rw [hbe] at this; cases this));clear hbe hbs p0 p1;dsimp only [zfi];have HB9:=hide hb;clear x0 x1 x2 q0 q2 hb;go_wp2
      go_roundw
      case rel=>exact ⟨p+1,_,by omega,by go_num,rfl,HBS.out,HB9.out⟩
      case measure=>simp [intOf]; omega
     | some o =>
      obtain ⟨o1,o2⟩:=o;dsimp only [zfi];cases hup:z.up
      ·have HBS:=hide (hbs.skip (fun v q hh=>by
        obtain ⟨-,B',z',h1,h2,h3⟩:=zcV HOK.out hh;rw [HYB.out] at h1;cases h1;rw [HZ.out] at h2;cases h2;rw [hup] at h3;cases h3))
       rw [hup] at p0;clear hbe hbs hup;have HB9:=hide hb;clear hb;go_wp2
       go_roundw
       case rel=>exact ⟨p+1,_,by omega,by go_num,rfl,HBS.out,HB9.out⟩
       case measure=>simp [intOf]; omega
      ·obtain ⟨v,r,rfl,rfl,hh⟩:=zdf HOK.out hbe HYB.out HZ.out hup;rw [hup] at p0;have HH:=hide hh;obtain ⟨c2,hr2,hc2⟩:=zdx HOK.out HR.out ⟨p,y.B,z,hh,HYB.out,HZ.out,rfl⟩;have HR2:=hide hr2;have hvn:v < N.bn:=by have:=((zd1 HOK.out).lt _ _ _ _ (⟨p,y.B,z,hh,HYB.out,HZ.out,rfl⟩:EdgeB N.brs N.ls k v r z.k)).2; rw [HNL.out] at this; exact this
       have hrt2:=fun W hW=>za8 N v W hW hvn (by have:=HN6.out; omega) (by have:=HL9.out; omega)
       have hro2:=hr2.root;rw [HNL.out] at hro2;rw [hro2] at hrt2;have hzk:=(zd1 HOK.out).cost _ _ _ _ (⟨p,y.B,z,hh,HYB.out,HZ.out,rfl⟩:EdgeB N.brs N.ls k v r z.k);obtain ⟨D,hD⟩:∃D,N.brs[v]? = some D:=⟨_,List.getElem?_eq_getElem (by rw [HNL.out]; exact hvn)⟩;have hf2:=(zcj HOK.out hr2 hD).2.2.2.2.2;have hwr:IntKind.i64.wrap (c2+z.k)=c2+z.k:=by rw [IntKind.wrap_i64]; omega
       have vv:Below w7.heap.size w7 w7.drew:=zG (Below.refl _ _);clear hbe hup hh hr2 hro2 hD hf2 hzk;(go_upto_region 15 with fail);clear x0 x1 x2 q0 q2;refine wp_region_held_drew (S:=(fun W=>(zcc W XN 0 (.slice (some ⟨bb,off,none⟩) N.bn N.bc)∧zcc W XN 1 (.slice N.la N.ln N.lc)∧zcc W XN 2 (.slice N.sa N.sn N.sc))∧zcc W bb (off+k*11+2) (.slice (some ⟨pb,po,none⟩) y.n y.c)∧zcc W pb (po+p*8+1) (.int .i64 z.k))) (by kernel_rfl) (⟨(HALL.out _ (zc hb vv)).1,by rw [← HYA.out]; exact (HALL.out _ (zc hb vv)).2.2,(vv.cell (zp p1)).trans p1⟩) (fun hHeld => ?_);refine kK 0 ⟨some 68,.load 28 (.tmp 3),28,"laws.go:879",#[],none⟩ ?_;refine kK 1 ⟨some 69,.move (.tmp 10),3,"laws.go:879",#[],none⟩ ?_;refine kK 3 ⟨some 71,.fieldAddr 28 (.tmp 3) 0,0,"laws.go:879",#[],none⟩ ?_;refine kK 4 ⟨some 72,.load 24 (.tmp 71),24,"laws.go:879",#[⟨3,.data⟩],none⟩ ?_;refine kK 5 ⟨some 73,.move (.tmp 5),3,"laws.go:879",#[],none⟩ ?_;refine kK 6 ⟨some 74,.indexAddr 24 (.tmp 72) (.tmp 73),0,"laws.go:879",#[⟨4,.data⟩,⟨5,.data⟩],none⟩ ?_;refine kK 7 ⟨some 75,.fieldAddr 44 (.tmp 74) 2,0,"laws.go:879",#[⟨6,.data⟩],none⟩ ?_;refine kK 8 ⟨some 76,.load 38 (.tmp 75),38,"laws.go:879",#[⟨7,.data⟩],none⟩ ?_;refine kK 9 ⟨some 77,.move (.tmp 9),3,"laws.go:879",#[],none⟩ ?_;refine kK 10 ⟨some 78,.indexAddr 38 (.tmp 76) (.tmp 77),0,"laws.go:879",#[⟨8,.data⟩,⟨9,.data⟩],none⟩ ?_;refine kK 11 ⟨some 79,.fieldAddr 53 (.tmp 78) 1,0,"laws.go:879",#[⟨10,.data⟩],none⟩ ?_;refine kK 12 ⟨some 80,.load 3 (.tmp 79),3,"laws.go:879",#[⟨11,.data⟩],none⟩ ?_;refine kR 2 ⟨some 70,.call ⟨.value (.func 17),#[.tmp 68,.tmp 69],#[28,3]⟩,3,"laws.go:879",#[⟨0,.data⟩,⟨1,.data⟩],none⟩ (fun K hK => ?_);go_simp;clear hHeld;rw [← HBA.out];refine (zbQ N N.ss HOK.out v x X c2 _ (oN.row.below (zc hb vv)) hvn HR2.out).mono ?_;rintro e w8 ⟨rfl,hb8⟩;have vv:=zc vv hb8;clear hb8;(go_wp2_with fail);refine kO hK (⟨(HALL.out _ (zc hb vv)).1,by rw [← HYA.out]; exact (HALL.out _ (zc hb vv)).2.2,(vv.cell (zp p1)).trans p1⟩) fun hHeld => ?_
       clear hK K;refine kK 13 ⟨some 81,.binOp .add 3 (.tmp 70) (.tmp 80) 3,3,"laws.go:879",#[⟨2,.data⟩,⟨12,.data⟩],none⟩ ?_;refine kK 14 ⟨some 13,.assign (.tmp 81),3,"laws.go:879",#[⟨13,.data⟩,⟨2,.chain⟩,⟨0,.phase⟩,⟨1,.phase⟩,⟨2,.phase⟩,⟨3,.phase⟩,⟨4,.phase⟩,⟨5,.phase⟩,⟨6,.phase⟩,⟨7,.phase⟩,⟨8,.phase⟩,⟨9,.phase⟩,⟨10,.phase⟩,⟨11,.phase⟩,⟨12,.phase⟩,⟨13,.phase⟩],none⟩ ?_;refine wpAnyH_done (by kernel_rfl) ?_ _;clear hHeld p0 p1;have hb:=zc hb vv;clear vv;have HK':Hid (c≤c2+z.k):=hide hc2;have HKE:Hid (c2+z.k=c2+z.k):=hide rfl;generalize hKK:c2+z.k=KK at *
       replace HKE:Hid (c2+z.k=KK):=hide hKK
       have kge:=HK'.out;have c0:=HF.out.2.2.2.2.2.1;clear hKK hc2 hwr;by_cases hneg:best < 0
       ·have HBS:=hide (hbs.take HH.out HYB.out HZ.out HR2.out HKE.out kge (.inl hneg) c0 (fun v2 q2 h2=>(zcr HOK.out h2 HH.out).1));obtain ⟨⟨x0,x1,x2⟩,q0,q2⟩:=HALL.out _ hb;clear hbs;(go_wp2_with fail);rw [← HBA.out];refine (hrt2 _ (oN.row.below hb)).mono ?_;rintro e w9 ⟨rfl,hb9⟩;have hb:=zc hb hb9;clear hb9;have HB9:=hide hb;clear x0 x1 x2 q0 q2 hb;go_wp2
        go_roundw
        case rel=>exact ⟨p+1,_,by omega,by go_num,rfl,HBS.out,HB9.out⟩
        case measure=>simp [intOf]; omega
       ·by_cases hless:KK < best
        ·have HBS:=hide (hbs.take HH.out HYB.out HZ.out HR2.out HKE.out kge (.inr hless) c0 (fun v2 q2 h2=>(zcr HOK.out h2 HH.out).1));obtain ⟨⟨x0,x1,x2⟩,q0,q2⟩:=HALL.out _ hb;clear hbs;(go_wp2_with fail);rw [← HBA.out];refine (hrt2 _ (oN.row.below hb)).mono ?_;rintro e w9 ⟨rfl,hb9⟩;have hb:=zc hb hb9;clear hb9;have HB9:=hide hb;clear x0 x1 x2 q0 q2 hb;go_wp2
         go_roundw
         case rel=>exact ⟨p+1,_,by omega,by go_num,rfl,HBS.out,HB9.out⟩
         case measure=>simp [intOf]; omega
        ·have HBS:=hide (hbs.keep HH.out HYB.out HZ.out HR2.out HKE.out (by omega) (by omega) (fun v2 q2 h2=>(zcr HOK.out h2 HH.out).1));obtain ⟨⟨x0,x1,x2⟩,q0,q2⟩:=HALL.out _ hb;clear hbs;(go_wp2_with fail);rw [← HBA.out];refine (hrt2 _ (oN.row.below hb)).mono ?_;rintro e w9 ⟨rfl,hb9⟩;have hb:=zc hb hb9;clear hb9;have HB9:=hide hb;clear x0 x1 x2 q0 q2 hb;go_wp2
         go_roundw
         case rel=>exact ⟨p+1,_,by omega,by go_num,rfl,HBS.out,HB9.out⟩
         case measure=>simp [intOf]; omega
    ·have hpn:p=y.n:=by omega
     have HF2:=HF.out;obtain ⟨⟨x0,x1,x2⟩,q0,q2⟩:=HALL.out _ hb;have HB9:=hide hb;have r1:=HF.out.2.2.2.1;have r3:¬X.id=0:=by omega
     have r4:¬(0:Int)=X.id:=by omega
     by_cases hkx:k=x
     ·have hc0:=HF.out.2.1 hkx;rw [HF.out.1.2 hkx] at q0;subst hc0;have r2:¬(X.id < X.id):=by omega
      clear hb hbs hkx HF2;go_wp2
      go_roundw
      case rel=>exact ⟨k+1,by omega,by go_num,HB9.out⟩
      case measure=>simp [intOf]; omega
     ·have hbc:=hbs.done HOK.out HR.out HYB.out hkx (by omega);have r2:¬(y.B.id < X.id):=by have:=HF.out.2.2.1; omega
      have r5:¬X.id=y.B.id:=fun e=>hkx (HF.out.1.1 e.symm)
      subst hbc;clear hb hbs hkx HF2;go_wp2
      go_roundw
      case rel=>exact ⟨k+1,by omega,by go_num,HB9.out⟩
      case measure=>simp [intOf]; omega
  ·have hke:k=N.bn:=by omega
   have HB:=hide (zc bw hb);clear hb;go_wp2;go_ret;exact ⟨rfl,HB.out⟩

theorem fnTrueWays_own:ownKnob Tryz.prog.godebug=none:=by kernel_rfl
theorem fnTrueWays_laid:laidOutB Tryz.prog=true:=by kernel_rfl

open Go.ChangeShapes Go.WideShapes Go.ChangeAt in
open Go.ChangeMaps (open_string shut_string) in
theorem fnTrueWays_lifted (os:Os) (started:os.Started) (H:Type) (enc:TypeId × Value→H) :
  ReturnsInHanded {} Tryz.checked os 4 .any (Rows.fnTrueWaysSpec.pre6 enc Tryz.prog Tryz.f4 Rows.fnTrueWaysRow.domain false) (Rows.fnTrueWaysSpec.post enc Tryz.prog Tryz.f4 false true false false):=by
 refine returnsInHanded_of_change (C:=Tryz.checked) fnTrueWays_own started (by kernel_rfl) Tryz.func4
  (ChangeSpec.witness6 (enc:=enc) (C:=Tryz.checked) false ⟨#[],#[.slice none 0 0],[]⟩ 8 (by kernel_rfl) (by kernel_rfl) (by kernel_rfl) (by kernel_rfl)) ?_
 intro W base args ds gs before hval0 hW hcnd _;have hval:∀(j:Nat) t v,Tryz.f4.params[j]? = some t→args[j]? = some v→Value.okWide Tryz.prog W .any base t v:=hval0;have hW':=hW;obtain ⟨p,q,hA0,hV,rfl,hfz,hnd⟩:=hW;have hA:DataW.TrodAll enc Tryz.prog W 0 (fun _=>true) true Tryz.f4.params.toList args.toList ds p:=hA0;rw [Tryz.params4] at hA hval;obtain ⟨v0,vs0,d0,ds0,p0,q0,hargs,rfl,rfl,h0,r0⟩:=trodAll_cons hA;obtain ⟨rfl,rfl,rfl⟩:=trodAll_nil r0;obtain rfl:args=#[v0]:=by cases args; simp_all
 obtain ⟨rfl,rfl⟩:=trodVars_none hV;obtain ⟨a0,len0,cap0,rfl⟩:=okWide_slice Tryz.underlying22 (hval 0 22 v0 rfl rfl);have k0:=h0;have lt0:∀x∈p0,x.block < W.heap.size:=by obtain ⟨m,hm⟩:=k0; exact DataW.trod_lt m _ _ _ hm
 obtain ⟨z0,w0⟩:∃zs,Row W a0 len0 cap0 zs:=by
  obtain ⟨fuel,hf⟩:=h0;rcases open_ints Tryz.underlying22 Tryz.underlying5 (by kernel_rfl) hf with ⟨hcs,_⟩ | ⟨x,l,c,zs,hcs,_,hl,hm,hz,_,hcell,hwz⟩
  ·simp [Value.cells] at hcs
   obtain ⟨rfl,rfl,rfl⟩:=hcs;exact ⟨[],zi0 W⟩
  ·simp [Value.cells] at hcs
   obtain ⟨rfl,rfl,rfl⟩:=hcs;exact ⟨zs.take len0,zii hl hm (by simpa using hz) hcell hwz⟩
 clear hA0 hval0;refine (zeA a0 len0 cap0 z0 W w0).mono fun e W' ⟨he,bel⟩ => ?_
 subst he;exact ⟨_,rfl,_,_,_,[],_,[],hW',trodAll_mk1 (shut_bool Tryz.underlying4 _),(trodAll_cons_mk (Below.trod fnTrueWays_laid (by kernel_rfl) (of_decide_eq_true (by kernel_rfl)) k0 bel lt0) trodAll_mk0),rfl,bel.frame _,fun h=>by cases h⟩

theorem fnTrueWays_holds:Rows.FnTrueWaysSaid :=
 OpenClaim.holds_of_wide 4 Tryz.f4 rfl rfl rfl rfl rfl rfl rfl ⟨rfl,rfl,rfl,rfl,rfl⟩ rfl rfl rfl rfl rfl (by kernel_rfl) Tryz.func4 (by kernel_rfl)
  (of_decide_eq_true (by kernel_rfl)) (by unfold Func.isWrapper; first | (rw [if_pos (by decide +kernel)]; kernel_rfl) | (rw [if_neg (by decide +kernel)]; exact ⟨rfl,rfl⟩))
  (fun os started H enc _=>fnTrueWays_lifted os started H enc)

#print axioms fnTrueWays_holds

end

end Go.Proofs.YtkaefmfopejbaaaGreat
