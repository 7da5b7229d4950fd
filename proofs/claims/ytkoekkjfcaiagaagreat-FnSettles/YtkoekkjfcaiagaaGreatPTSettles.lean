/-
  FnSettles answers true of every code: drawn bridges agree within twenty rounds; then another round changes nothing that they know.
-/
import Derived.Test.YtkoekkjfcaiagaaGreatPTKW
import Derived.Test.YtkoekkjfcaiagaaGreatPTK01
import Derived.Test.YtkoekkjfcaiagaaGreatPTK02
import Derived.Test.YtkoekkjfcaiagaaGreatPTK06
import Derived.Test.YtkoekkjfcaiagaaGreatPTK22
import Derived.Test.YtkoekkjfcaiagaaGreatPTK35
import Derived.Test.YtkoekkjfcaiagaaGreatPTK40
import Derived.WalkKit
import Derived.ProofKit
import Derived.OpenShut
import Derived.ShutString
import Derived.ChangeOld
import Derived.Below
namespace Go.Proofs.YtkoekkjfcaiagaaGreat
set_option maxRecDepth 100000
set_option maxHeartbeats 16000000
open Go.RowKit

theorem zjh {bs:List BR} {ls:List LK} {ss:List SY} (h:NetOk bs ls ss):∀x∈ls,x.Rng:=fun x hx=>by
 obtain ⟨⟨-,u,v,hu,hv,-⟩,-⟩:=h.2.1.2 x hx;obtain ⟨i,j,A,ea,ep,hA,hpA⟩:=zaL hu;obtain ⟨i2,j2,D,eb,eq,hD,hpD⟩:=zaL hv;have h1:=(List.getElem?_eq_some_iff.1 hA).1;have h2:=(List.getElem?_eq_some_iff.1 hD).1;have h3:=zcc (h.1.1 A (List.mem_of_getElem? hA)) hpA;have h4:=zcc (h.1.1 D (List.mem_of_getElem? hD)) hpD;have h6:=h.1.2.2.2;unfold LK.Rng I64;omega

theorem zgT (a0:Option Addr) (l0 c0:Nat) (z0:List Int) (w:World) (h0:Row w a0 l0 c0 z0) :
  Calls Tryz.prog 6 #[.slice a0 l0 c0] w fun e w'=>e=.returned (.bool true)∧Below w.heap.size w w':=by
 by_cases hbig:1048576 < l0
 ·have hb1:Calls Tryz.prog 7 #[.slice a0 l0 c0] w fun e w'=>e=.returned (.bool true)∧w'=w:=by
   have i1:(1048576:Int) < l0:=by omega
   go_enter Tryz.func7,Tryz.ntmps7;go_wp2;go_ret;exact ⟨rfl,rfl⟩
  go_enter Tryz.func6,Tryz.ntmps6;go_wp2_with (go_at_call 7; refine hb1.mono ?_; rintro e w' ⟨rfl,rfl⟩)
  go_ret;exact ⟨rfl,Below.refl _ _⟩
 go_enter Tryz.func6,Tryz.ntmps6;go_wp2_with (go_at_call 7; refine (zk9 a0 l0 c0 _ hbig).mono ?_; rintro e w' ⟨rfl,e3⟩; obtain rfl:=e3.symm)
 refine (zg6 a0 l0 c0 z0 _ h0 (by omega)).mono ?_;rintro e w1 ⟨N,ao,cap,l,rfl,oN,hok,-,-,bw⟩;have HOK:=hide hok;generalize hwb:w1.alloc (Obj.cells #[.slice N.ba N.bn N.bc,.slice N.la N.ln N.lc,.slice N.sa N.sn N.sc] 31)=w2;have bb:=zb hwb;have kN:=zk hwb;have oN:=oN.below bb;have bw:=zc bw bb;generalize hXN:w1.heap.size=XN at *;clear hok bb;obtain ⟨x0,x1,x2⟩:=zd kN;go_wp2_with fail
 clear hwb;refine (zeF N 20 _ oN.row ⟨by have:=(zbm oN.row HOK.out).1; omega,by have:=(zbm oN.row HOK.out).2.1; omega,by have:=(zbm oN.row HOK.out).2.2.1; omega,zcr oN.row (fun B hB=>ok_sm (HOK.out.1.1 B hB))⟩ (fun B hB=>ok_rg (HOK.out.1.1 B hB))).mono ?_;rintro e w3 ⟨X,rfl,oX,hRX,hb3⟩;have hRX:zbZ 20 N.t X.t:=hRX;have HOX:Hid (NetOk X.brs X.ls X.ss):=hide (zeT HOK.out hRX).2.2.1;have HRX:=hide hRX;generalize hwb:w3.alloc (Obj.cells #[.slice X.ba X.bn X.bc,.slice X.la X.ln X.lc,.slice X.sa X.sn X.sc] 31)=w4;have bb:=zb hwb;have kX:=zk hwb;have oX:=oX.below bb;have bw:=zc (zc bw hb3) bb;generalize hXX:w3.heap.size=XX at *;clear hRX bb hb3 x0 x1 x2 kN oN;obtain ⟨x0,x1,x2⟩:=zd kX;go_wp2_with fail
 clear hwb;refine (zc8 X _ oX.row (by have:=(zbm oX.row HOX.out).1; omega) (by have:=(zbm oX.row HOX.out).2.1; omega) (by have:=(zbm oX.row HOX.out).2.2.1; omega) (zcr oX.row (fun B hB=>ok_sm (HOX.out.1.1 B hB))) (fun B hB=>ok_rg (HOX.out.1.1 B hB))).mono ?_;rintro e w5 ⟨Y,rfl,oY,hRY,hb5⟩;have HST:=hide (ziE HOK.out HRX.out hRY);have HOY:Hid (NetOk Y.brs Y.ls Y.ss):=hide (by
  have e1:=(hRY.yes HOX.out).1;rw [e1,HST.out.ls,HST.out.sy];exact zcp HOX.out)
 generalize hwb:w5.alloc (Obj.cells #[.slice Y.ba Y.bn Y.bc,.slice Y.la Y.ln Y.lc,.slice Y.sa Y.sn Y.sc] 31)=w6;have bb:=zb hwb;have kY:=zk hwb;have oY:=oY.below bb;have oX:=oX.below (zc hb5 bb);have kX:=za kX (zc hb5 bb);have bw:=zc (zc bw hb5) bb;generalize hXY:w5.heap.size=XY at *;clear hRY bb hb5 x0 x1 x2;obtain ⟨x0,x1,x2⟩:=zd kX;go_wp2_with fail
 clear hwb;refine (zc4 X _ oX.row).mono ?_;rintro e w7 ⟨rfl,hb7⟩;rw [HST.out.ax];have oX:=oX.below hb7;have oY:=oY.below hb7;have kX:=za kX hb7;have kY:=za kY hb7;have bw:=zc bw hb7;clear hb7 x0 x1 x2;obtain ⟨y0,y1,y2⟩:=zd kY;go_wp2_with fail
 refine (zc4 Y _ oY.row).mono ?_;rintro e w8 ⟨rfl,hb8⟩;rw [HST.out.ay];have oX:=oX.below hb8;have oY:=oY.below hb8;have kX:=za kX hb8;have kY:=za kY hb8;have b70:=zc bw hb8;clear hb8 y0 y1 y2 bw;have hsn:(Y.sn:Int)=0:=by have:=oY.row.s.size; rw [HST.out.sy] at this; simp at this; omega
 have HBN:Hid (Y.bn=X.bn):=hide (by have:=oX.row.b.size; have:=oY.row.b.size; have:=HST.out.len; omega);have HLN:Hid (X.ls.length=X.ln∧Y.ls.length=Y.ln∧X.ln≤9∧Y.ln≤9):=hide (by have:=oX.row.l.size; have:=oY.row.l.size; have:=(zbm oX.row HOX.out).2.1; have:=(zbm oY.row HOY.out).2.1; omega);have HLV:Hid (zaE X.brs X.ls X.ln=zaE Y.brs Y.ls Y.ln):=hide (by rw [← HLN.out.1,← HLN.out.2.1]; exact HST.out.live.symm);have HX6:Hid (X.bn≤6):=hide (zbm oX.row HOX.out).1;obtain ⟨x0,x1,x2⟩:=zd kX;obtain ⟨y0,y1,y2⟩:=zd kY;go_wp2_with fail
 clear x0 x1 x2 y0 y1 y2;have b7:Below w8.heap.size w8 w8:=Below.refl _ _
 go_loopw [7,8] (fun v u8 wr=>∃i:Nat,v=.int .i64 (i:Int)∧i≤X.bn∧Below w8.heap.size w8 wr) (fun v _ _=>7 - (intOf v).toNat)
 case atStart=>exact ⟨0,rfl,Nat.zero_le _,b7⟩
 case round =>
  obtain ⟨i,rfl,hi,hb⟩:=hrel;have hx6:(X.bn:Int)≤6:=by have:=HX6.out; omega
  obtain ⟨x0,x1,x2⟩:=zd (za kX hb);by_cases hix:i < X.bn
  ·have i1:(0:Int)≤(i:Int):=by omega
   have i2:(i:Int) < (X.bn:Int):=by omega
   (go_wp2_with fail)
   go_loopw [8] (fun v wr=>∃p:Nat,v=.int .i64 (p:Int)∧p≤6∧Below w8.heap.size w8 wr) (fun v _=>7 - (intOf v).toNat)
   case atStart=>exact ⟨0,rfl,Nat.zero_le _,hb⟩
   case round =>
    clear hb x0 x1 x2;obtain ⟨p,rfl,hp6,hb⟩:=hrel;have hp6':(p:Int)≤6:=by omega
    obtain ⟨x0,-,-⟩:=zd (za kX hb);obtain ⟨y0,-,-⟩:=zd (za kY hb);obtain ⟨x,b1,o1,hx,hxa,-,-,c1,-⟩:=br_at (oX.row.b.below hb) i hix;obtain ⟨y,b2,o2,hy,hya,-,-,c2,-⟩:=br_at (oY.row.b.below hb) i (by have:=HBN.out; omega);have HPP:Hid (y.B.ports=x.B.ports):=hide (HST.out.ports i x y hx hy);obtain ⟨hxl,-,hxn6⟩:=zfY oX HOX.out hx;obtain ⟨hyl,-,-⟩:=zfY oY HOY.out hy;have HNY:Hid (y.n=x.n):=hide (by have:=HPP.out; rw [this] at hyl; omega);rw [hxa] at x0;rw [hya] at y0;clear hyl hxl;by_cases hp:p < x.n
    ·obtain ⟨u,g1,f1,hu,hga1,p0,p1,p2,p3,p4,p5,p6,p7⟩:=pt_at (((oX.b.item x (List.mem_of_getElem? hx)).row.ports).below hb) p hp;obtain ⟨u2,g2,f2,hu2,hga2,q0,q1,q2,q3,q4,q5,q6,q7⟩:=pt_at (((oY.b.item y (List.mem_of_getElem? hy)).row.ports).below hb) p (by have:=HNY.out; omega);rw [HPP.out,hu] at hu2;cases hu2;rw [hga1] at c1;rw [hga2] at c2;have HS:Hid (∀W,Below wr.heap.size wr W→(W.cell? ⟨XX,0,none⟩=some (.slice (some ⟨b1,o1,none⟩) X.bn X.bc)∧W.cell? ⟨b1,o1+i*11+2,none⟩=some (.slice (some ⟨g1,f1,none⟩) x.n x.c))∧(W.cell? ⟨XY,0,none⟩=some (.slice (some ⟨b2,o2,none⟩) Y.bn Y.bc)∧W.cell? ⟨b2,o2+i*11+2,none⟩=some (.slice (some ⟨g2,f2,none⟩) y.n y.c))∧(W.cell? ⟨g1,f1+p*8,none⟩=some (.bool u.up)∧W.cell? ⟨g1,f1+p*8+1,none⟩=some (.int .i64 u.k)∧W.cell? ⟨g1,f1+p*8+2,none⟩=some (.bool u.has)∧W.cell? ⟨g1,f1+p*8+3,none⟩=some (.int .i64 u.v.r)∧W.cell? ⟨g1,f1+p*8+4,none⟩=some (.int .i64 u.v.c)∧W.cell? ⟨g1,f1+p*8+5,none⟩=some (.int .i64 u.v.h)∧W.cell? ⟨g1,f1+p*8+6,none⟩=some (.int .i64 u.v.b)∧W.cell? ⟨g1,f1+p*8+7,none⟩=some (.int .i64 u.v.p))∧(W.cell? ⟨g2,f2+p*8,none⟩=some (.bool u.up)∧W.cell? ⟨g2,f2+p*8+1,none⟩=some (.int .i64 u.k)∧W.cell? ⟨g2,f2+p*8+2,none⟩=some (.bool u.has)∧W.cell? ⟨g2,f2+p*8+3,none⟩=some (.int .i64 u.v.r)∧W.cell? ⟨g2,f2+p*8+4,none⟩=some (.int .i64 u.v.c)∧W.cell? ⟨g2,f2+p*8+5,none⟩=some (.int .i64 u.v.h)∧W.cell? ⟨g2,f2+p*8+6,none⟩=some (.int .i64 u.v.b)∧W.cell? ⟨g2,f2+p*8+7,none⟩=some (.int .i64 u.v.p))):=hide (fun W hW=>⟨⟨(hW.cell (zo x0)).trans x0,(hW.cell (zo c1)).trans c1⟩,⟨(hW.cell (zo y0)).trans y0,(hW.cell (zo c2)).trans c2⟩,⟨(hW.cell (zo p0)).trans p0,(hW.cell (zo p1)).trans p1,(hW.cell (zo p2)).trans p2,(hW.cell (zo p3)).trans p3,(hW.cell (zo p4)).trans p4,(hW.cell (zo p5)).trans p5,(hW.cell (zo p6)).trans p6,(hW.cell (zo p7)).trans p7⟩,(hW.cell (zo q0)).trans q0,(hW.cell (zo q1)).trans q1,(hW.cell (zo q2)).trans q2,(hW.cell (zo q3)).trans q3,(hW.cell (zo q4)).trans q4,(hW.cell (zo q5)).trans q5,(hW.cell (zo q6)).trans q6,(hW.cell (zo q7)).trans q7⟩);have hne:∀W,(binOp .neq 67 (.agg #[.bool u.up,.int .i64 u.k,.bool u.has,.int .i64 u.v.r,.int .i64 u.v.c,.int .i64 u.v.h,.int .i64 u.v.b,.int .i64 u.v.p]) (.agg #[.bool u.up,.int .i64 u.k,.bool u.has,.int .i64 u.v.r,.int .i64 u.v.c,.int .i64 u.v.h,.int .i64 u.v.b,.int .i64 u.v.p])).run Tryz.prog W=.ok (.bool false) W:=fun W=>by rw [zkZ,(ziA u u).2 rfl]; rfl
     have hgd:Tryz.prog.eqGuardType Tryz.prog.depth 67=false:=by kernel_rfl
     have vv:Below wr.heap.size wr wr.drew:=zw (Below.refl _ _);have k1:(0:Int)≤(p:Int):=by omega
     have k2:(p:Int) < (x.n:Int):=by omega
     have k3:(p:Int) < (y.n:Int):=by have:=HNY.out; omega
     have i4:(i:Int) < (Y.bn:Int):=by have:=HBN.out; omega
     clear hu hga1 hga2;(go_upto_region 14 with fail);clear x0 y0 c1 c2 p0 q0 p1 q1 p2 q2 p3 q3 p4 q4 p5 q5 p6 q6 p7 q7;refine wp_region_held_drew (S:=(fun W=>(W.cell? ⟨XX,0,none⟩=some (.slice (some ⟨b1,o1,none⟩) X.bn X.bc)∧W.cell? ⟨b1,o1+i*11+2,none⟩=some (.slice (some ⟨g1,f1,none⟩) x.n x.c))∧(W.cell? ⟨XY,0,none⟩=some (.slice (some ⟨b2,o2,none⟩) Y.bn Y.bc)∧W.cell? ⟨b2,o2+i*11+2,none⟩=some (.slice (some ⟨g2,f2,none⟩) y.n y.c))∧(W.cell? ⟨g1,f1+p*8,none⟩=some (.bool u.up)∧W.cell? ⟨g1,f1+p*8+1,none⟩=some (.int .i64 u.k)∧W.cell? ⟨g1,f1+p*8+2,none⟩=some (.bool u.has)∧W.cell? ⟨g1,f1+p*8+3,none⟩=some (.int .i64 u.v.r)∧W.cell? ⟨g1,f1+p*8+4,none⟩=some (.int .i64 u.v.c)∧W.cell? ⟨g1,f1+p*8+5,none⟩=some (.int .i64 u.v.h)∧W.cell? ⟨g1,f1+p*8+6,none⟩=some (.int .i64 u.v.b)∧W.cell? ⟨g1,f1+p*8+7,none⟩=some (.int .i64 u.v.p))∧(W.cell? ⟨g2,f2+p*8,none⟩=some (.bool u.up)∧W.cell? ⟨g2,f2+p*8+1,none⟩=some (.int .i64 u.k)∧W.cell? ⟨g2,f2+p*8+2,none⟩=some (.bool u.has)∧W.cell? ⟨g2,f2+p*8+3,none⟩=some (.int .i64 u.v.r)∧W.cell? ⟨g2,f2+p*8+4,none⟩=some (.int .i64 u.v.c)∧W.cell? ⟨g2,f2+p*8+5,none⟩=some (.int .i64 u.v.h)∧W.cell? ⟨g2,f2+p*8+6,none⟩=some (.int .i64 u.v.b)∧W.cell? ⟨g2,f2+p*8+7,none⟩=some (.int .i64 u.v.p)))) (by kernel_rfl) (HS.out _ vv) (fun hHeld => ?_);refine kK 0 ⟨some 52,.fieldAddr 31 (.tmp 5) 0,0,"laws.go:807",#[],none⟩ ?_;refine kK 1 ⟨some 53,.load 28 (.tmp 52),28,"laws.go:807",#[⟨0,.data⟩],none⟩ ?_;refine kK 2 ⟨some 54,.move (.tmp 7),3,"laws.go:807",#[],none⟩ ?_;refine kK 3 ⟨some 55,.indexAddr 28 (.tmp 53) (.tmp 54),0,"laws.go:807",#[⟨1,.data⟩,⟨2,.data⟩],none⟩ ?_;refine kK 4 ⟨some 56,.fieldAddr 63 (.tmp 55) 2,0,"laws.go:807",#[⟨3,.data⟩],none⟩ ?_;refine kK 5 ⟨some 57,.load 57 (.tmp 56),57,"laws.go:807",#[⟨4,.data⟩],none⟩ ?_;refine kK 6 ⟨some 58,.move (.tmp 8),3,"laws.go:807",#[],none⟩ ?_;refine kK 7 ⟨some 59,.indexAddr 57 (.tmp 57) (.tmp 58),0,"laws.go:807",#[⟨5,.data⟩,⟨6,.data⟩],none⟩ ?_;refine kK 8 ⟨some 60,.load 67 (.tmp 59),67,"laws.go:807",#[⟨7,.data⟩],none⟩ ?_;refine kK 9 ⟨some 61,.fieldAddr 31 (.tmp 6) 0,0,"laws.go:807",#[],none⟩ ?_;refine kK 10 ⟨some 62,.load 28 (.tmp 61),28,"laws.go:807",#[⟨9,.data⟩],none⟩ ?_;refine kK 11 ⟨some 63,.move (.tmp 7),3,"laws.go:807",#[],none⟩ ?_;refine kK 12 ⟨some 64,.indexAddr 28 (.tmp 62) (.tmp 63),0,"laws.go:807",#[⟨10,.data⟩,⟨11,.data⟩],none⟩ ?_;refine kK 13 ⟨some 65,.fieldAddr 63 (.tmp 64) 2,0,"laws.go:807",#[⟨12,.data⟩],none⟩ ?_;refine kK 14 ⟨some 66,.load 57 (.tmp 65),57,"laws.go:807",#[⟨13,.data⟩],none⟩ ?_;refine kK 15 ⟨some 67,.move (.tmp 8),3,"laws.go:807",#[],none⟩ ?_;refine kK 16 ⟨some 68,.indexAddr 57 (.tmp 66) (.tmp 67),0,"laws.go:807",#[⟨14,.data⟩,⟨15,.data⟩],none⟩ ?_;refine kK 17 ⟨some 69,.load 67 (.tmp 68),67,"laws.go:807",#[⟨16,.data⟩],none⟩ ?_;refine kK 18 ⟨some 70,.binOp .neq 67 (.tmp 60) (.tmp 69) 67,4,"laws.go:807",#[⟨8,.data⟩,⟨17,.data⟩],none⟩ ?_;refine wpAnyH_done (by kernel_rfl) ?_ _;have HB:=hide (zc hb vv);clear hHeld vv hb;go_wp2
     go_roundw
     case rel=>exact ⟨p+1,by go_num,by omega,HB.out⟩
     case measure=>simp [intOf]; omega
    ·have hp':¬(p:Int) < (x.n:Int):=by omega
     have HB:=hide hb;clear hb y0 c2;go_wp2
     go_roundw
     case rel=>exact ⟨i+1,by go_num,by omega,HB.out⟩
     case measure=>simp [intOf]; omega
  ·have hix':¬(i:Int) < (X.bn:Int):=by omega
   have vv:Below wr.heap.size wr wr.drew:=zw (Below.refl _ _);(go_upto_region 16 with fail);clear x0 x1 x2;refine wp_region_held_drew (S:=(fun W=>(W.cell? ⟨XX,0,none⟩=some (.slice X.ba X.bn X.bc)∧W.cell? ⟨XX,1,none⟩=some (.slice X.la X.ln X.lc)∧W.cell? ⟨XX,2,none⟩=some (.slice X.sa X.sn X.sc))∧(W.cell? ⟨XY,0,none⟩=some (.slice Y.ba Y.bn Y.bc)∧W.cell? ⟨XY,1,none⟩=some (.slice Y.la Y.ln Y.lc)∧W.cell? ⟨XY,2,none⟩=some (.slice Y.sa Y.sn Y.sc)))) (by kernel_rfl) (⟨zd (za kX (zc hb vv)),zd (za kY (zc hb vv))⟩) (fun hHeld => ?_);refine kK 0 ⟨some 71,.load 31 (.tmp 5),31,"laws.go:812",#[],none⟩ ?_;refine kK 2 ⟨some 73,.load 31 (.tmp 6),31,"laws.go:812",#[],none⟩ ?_;refine kR 1 ⟨some 72,.call ⟨.value (.func 36),#[.tmp 71],#[31]⟩,24,"laws.go:812",#[⟨0,.data⟩],none⟩ (fun K hK => ?_);go_simp;refine (zdB X _ (oX.row.below (zc hb vv)) (by have:=HLN.out; omega) (zjh HOX.out)).mono ?_;rintro r wz ⟨la,ca,rfl,ola,hbz⟩;(try have ola:=zh ola hbz);have vv:=zc vv hbz;clear hbz;(go_wp2_with fail);refine hK.out _ _ (⟨zd (za kX (zc hb vv)),zd (za kY (zc hb vv))⟩) (fun hHeld => ?_);clear hK K;(try simp only [Act.put,lA,lB,lC]);refine kR 3 ⟨some 74,.call ⟨.value (.func 36),#[.tmp 73],#[31]⟩,24,"laws.go:812",#[⟨2,.data⟩,⟨1,.chain⟩],none⟩ (fun K hK => ?_);go_simp;refine (zdB Y _ (oY.row.below (zc hb vv)) (by have:=HLN.out; omega) (zjh HOY.out)).mono ?_;rintro r wz ⟨lb,cb,rfl,olb,hbz⟩;(try have ola:=zh ola hbz);have vv:=zc vv hbz;clear hbz;(go_wp2_with fail);refine hK.out _ _ (⟨zd (za kX (zc hb vv)),zd (za kY (zc hb vv))⟩) (fun hHeld => ?_);clear hK K;(try simp only [Act.put,lA,lB,lC]);refine kR 4 ⟨some 75,.call ⟨.value (.func 35),#[.tmp 72,.tmp 74],#[24,24]⟩,4,"laws.go:812",#[⟨1,.data⟩,⟨3,.data⟩,⟨3,.chain⟩],none⟩ (fun K hK => ?_);go_simp;refine (zgQ _ _ _ _ _ _ _ _ _ (zel (by rw [← zbD]; exact ola) (zjf _ _ _ (by have:=HLN.out; omega))) (zel (by rw [← zbD]; exact olb) (zjf _ _ _ (by have:=HLN.out; omega)))).mono ?_;rintro r wz ⟨rfl,hbz⟩;rw [decide_eq_true HLV.out];obtain ⟨nd,rfl⟩:=hbz;have vv:=zj4 vv nd;(go_wp2_with fail);refine hK.out _ _ (⟨zd (za kX (zc hb vv)),zd (za kY (zc hb vv))⟩) (fun hHeld => ?_);clear hK K;(try simp only [Act.put,lA,lB,lC]);refine kK 5 ⟨some 2,.assign (.tmp 75),4,"laws.go:812",#[⟨4,.data⟩,⟨4,.chain⟩,⟨0,.phase⟩,⟨1,.phase⟩,⟨2,.phase⟩,⟨3,.phase⟩,⟨4,.phase⟩],none⟩ ?_;refine wpAnyH_done (by kernel_rfl) ?_ _;have HB:=hide (zc (zc b70 hb) vv);clear hHeld vv;go_wp2;go_ret;exact ⟨rfl,HB.out⟩

theorem fnSettles_own:ownKnob Tryz.prog.godebug=none:=by kernel_rfl
theorem fnSettles_laid:laidOutB Tryz.prog=true:=by kernel_rfl

open Go.ChangeShapes Go.WideShapes Go.ChangeAt in
open Go.ChangeMaps (open_string shut_string) in
theorem fnSettles_lifted (os:Os) (started:os.Started) (H:Type) (enc:TypeId × Value→H) :
  ReturnsInHanded {} Tryz.checked os 6 .any (Rows.fnSettlesSpec.pre6 enc Tryz.prog Tryz.f6 Rows.fnSettlesRow.domain false) (Rows.fnSettlesSpec.post enc Tryz.prog Tryz.f6 false true false false):=by
 refine returnsInHanded_of_change (C:=Tryz.checked) fnSettles_own started (by kernel_rfl) Tryz.func6
  (ChangeSpec.witness6 (enc:=enc) (C:=Tryz.checked) false ⟨#[],#[.slice none 0 0],[]⟩ 8 (by kernel_rfl) (by kernel_rfl) (by kernel_rfl) (by kernel_rfl)) ?_
 intro W base args ds gs before hval0 hW hcnd _;have hval:∀(j:Nat) t v,Tryz.f6.params[j]?=some t→args[j]?=some v→Value.okWide Tryz.prog W .any base t v:=hval0;have hW':=hW;obtain ⟨p,q,hA0,hV,rfl,hfz,hnd⟩:=hW;have hA:DataW.TrodAll enc Tryz.prog W 0 (fun _=>true) true Tryz.f6.params.toList args.toList ds p:=hA0;rw [Tryz.params6] at hA hval;obtain ⟨v0,vs0,d0,ds0,p0,q0,hargs,rfl,rfl,h0,r0⟩:=trodAll_cons hA;obtain ⟨rfl,rfl,rfl⟩:=trodAll_nil r0;obtain rfl:args=#[v0]:=by cases args; simp_all
 obtain ⟨rfl,rfl⟩:=trodVars_none hV;obtain ⟨a0,len0,cap0,rfl⟩:=okWide_slice Tryz.underlying22 (hval 0 22 v0 rfl rfl);have k0:=h0;have lt0:∀x∈p0,x.block < W.heap.size:=by obtain ⟨m,hm⟩:=k0; exact DataW.trod_lt m _ _ _ hm
 obtain ⟨z0,w0⟩:∃zs,Row W a0 len0 cap0 zs:=by
  obtain ⟨fuel,hf⟩:=h0;rcases open_ints Tryz.underlying22 Tryz.underlying5 (by kernel_rfl) hf with ⟨hcs,_⟩ | ⟨x,l,c,zs,hcs,_,hl,hm,hz,_,hcell,hwz⟩
  ·simp [Value.cells] at hcs
   obtain ⟨rfl,rfl,rfl⟩:=hcs;exact ⟨[],zk4 W⟩
  ·simp [Value.cells] at hcs
   obtain ⟨rfl,rfl,rfl⟩:=hcs;exact ⟨zs.take len0,zko hl hm (by simpa using hz) hcell hwz⟩
 clear hA0 hval0;refine (zgT a0 len0 cap0 z0 W w0).mono fun e W' ⟨he,bel⟩ => ?_
 subst he;exact ⟨_,rfl,_,_,_,[],_,[],hW',trodAll_mk1 (shut_bool Tryz.underlying4 _),(trodAll_cons_mk (Below.trod fnSettles_laid (by kernel_rfl) (of_decide_eq_true (by kernel_rfl)) k0 bel lt0) trodAll_mk0),rfl,bel.frame _,fun h=>by cases h⟩

theorem fnSettles_holds:Rows.FnSettlesSaid :=
 OpenClaim.holds_of_wide 6 Tryz.f6 rfl rfl rfl rfl rfl rfl rfl ⟨rfl,rfl,rfl,rfl,rfl⟩ rfl rfl rfl rfl rfl (by kernel_rfl) Tryz.func6 (by kernel_rfl)
  (of_decide_eq_true (by kernel_rfl)) (by unfold Func.isWrapper; first | (rw [if_pos (by decide +kernel)]; kernel_rfl) | (rw [if_neg (by decide +kernel)]; exact ⟨rfl,rfl⟩))
  (fun os started H enc _=>fnSettles_lifted os started H enc)

#print axioms fnSettles_holds

end Go.Proofs.YtkoekkjfcaiagaaGreat
