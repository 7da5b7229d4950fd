/-
  MibGet of the program.
-/
import Derived.Test.YtljbdmlgfggadaaGreatPGK26
namespace Go.Proofs.YtljbdmlgfggadaaGreat
set_option maxRecDepth 100000
set_option maxHeartbeats 16000000
open Go.RowKit

theorem zcn (a:Option Addr) (n c:Nat) (fa:Option Addr) (fn fc:Nat) (ra:Option Addr) (rn rc:Nat) (oa:Option Addr) (on oc:Nat) (B:BR) (ia:Option Addr) (il ic:Nat) (o:List Int) (w:World) (h:BrRow w a n c fa fn fc ra rn rc oa on oc B) (hfn:fn≤16777216) (hR:∀r∈B.v.rows,r.Rng) (hi:IRow w ia il ic o) :
  Calls Tryz.prog 24 #[.agg #[.int .i64 B.id,.string B.name,.slice a n c,.slice fa fn fc,.slice ra rn rc,.slice oa on oc,.int .i64 B.ticks,.int .i64 B.parse,.int .i64 B.word,.int .i64 B.drops,.int .i64 B.vers],.slice ia il ic] w fun e w'=>e=.returned (.agg #[.int .i64 (zcp (zF B) o).K,.int .i64 (zcp (zF B) o).N,.string (zcp (zF B) o).S,.slice none 0 0])∧Below w.heap.size w w':=by
 generalize hw1:w.alloc (Obj.cells #[.int .i64 B.id,.string B.name,.slice a n c,.slice fa fn fc,.slice ra rn rc,.slice oa on oc,.int .i64 B.ticks,.int .i64 B.parse,.int .i64 B.word,.int .i64 B.drops,.int .i64 B.vers] 31)=w1;have b1:=zb hw1;have k1:=zk hw1;generalize hwr:w1.alloc (Obj.cells #[.int .i64 0,.int .i64 0,.string ⟨#[]⟩,.slice none 0 0] 35)=w1r;have b1r:=zb hwr;have kr0:=zk hwr;have b0r:=zd b1 b1r;have HW1:=hide b1.size;obtain ⟨x0,x1,x2,x3,x4,x5,x6,x7,x8,x9,x10⟩:=zi (ze k1 b1r);go_enter Tryz.func24,Tryz.ntmps24;go_wp2_with fail
 refine (zbB a n c fa fn fc ra rn rc oa on oc B _ (h.below b0r) hfn hR).mono ?_;rintro e w2 ⟨ta,tc,l,rfl,hd,th,h2⟩;have b2:=zd b0r h2;have kr:=ze kr0 h2;have HBW:=hide b0r.size;clear x0 x1 x2 x3 x4 x5 x6 x7 x8 x9 x10 h k1 hw1 hwr h2 kr0 b1 b1r b0r;have HD:=hide hd;have HL:Hid (l.length≤100∧(zF B).length=l.length):=hide (by have h1:=congrArg List.length hd; rw [List.length_map] at h1; rw [h1]; exact ⟨zb7 B,rfl⟩);have HAT:Hid (∀(i:Nat) x,l[i]?=some x→(zF B)[i]?=some x.d):=hide (fun i x hx=>by rw [← hd,List.getElem?_map,hx]; rfl);have hi2:=hi.below b2;clear hd;go_wp2_with fail
 go_loopw [6,10] (fun u6 vk wr=>∃(k:Nat),vk=.int .i64 (k:Int)∧k≤l.length∧(∀(i:Nat) y,i < k→(zF B)[i]?=some y→decide (y.o=o)=false)∧Below w2.heap.size w2 wr) (fun _ vk _=>102 - (intOf vk).toNat)
 case atStart=>exact ⟨0,rfl,Nat.zero_le _,(by intro i y hi; omega),Below.refl _ _⟩
 case round =>
  obtain ⟨k,rfl,hk,hno,hb⟩:=hrel;have hl100:=HL.out.1;have HNO:=hide hno;by_cases hkl:k < l.length
  ·have hkl':(k:Int) < (l.length:Int):=by omega
   have hk100:(k:Int)≤100:=by omega
   obtain ⟨x,xb,off,hx,hxa,c0,c1⟩:=th_at (th.row.below hb) k hkl;subst hxa;generalize hwz:wr.alloc (Obj.cells #[.slice none 0 0,.nilFunc] 72)=wz;have bz:=zb hwz;have kz:=zk hwz;obtain ⟨⟨p0,p1⟩,f0,f1⟩:=zy kz;have d0:=(bz.cell (zp c0)).trans c0;have d1:=(bz.cell (zp c1)).trans c1;have HX:=hide (HAT.out k x hx);have HM:=hide (List.mem_of_getElem? hx);have HB:=hide hb;clear hx hno hb;(go_upto_region 4 with fail);clear p0 p1 f0 f1 c0 c1 d0 d1 hwz;refine zdV kz _ _ (fun ws ks gs => ?_);have bs:Below wr.heap.size wr ws:=bz.grown gs bz.size (fun b hb2=>by cases hb2; exact Nat.le_refl _);obtain ⟨⟨p0,p1⟩,-⟩:=zy ks;clear bz kz gs;have HBS:=hide (zd HB.out bs);have hnm:=zK ((th.names.below HBS.out).item x HM.out) (th.names.i64 x HM.out);(go_wp2_with fail);refine (zco _ _ _ x.d.o ia il ic o _ hnm (hi2.below HBS.out)).mono ?_;rintro e w5 ⟨rfl,nd,rfl⟩;have h5:Below ws.heap.size ws (ws.drewN nd):=zV (Below.refl _ _) nd;have ks5:=ze ks h5;have HB5:=hide (zd HBS.out h5);generalize ws.drewN nd=w5 at *;clear p0 p1 ks h5 bs hnm;obtain ⟨⟨p0,p1⟩,-⟩:=zy ks5;cases hq:decide (x.d.o=o)
   ·have HNO2:=hide (zcl (p:=fun d:BD=>decide (d.o=o)) HNO.out HX.out hq);clear hq;go_wp2
    go_roundw
    case rel=>exact ⟨k+1,by go_num,by omega,HNO2.out,HB5.out⟩
    case measure=>simp [intOf]; omega
   ·have HG:=hide (zgl HNO.out HX.out hq);clear hq;(go_wp2_with fail);refine (th.gives x HM.out _ HB5.out).mono ?_;rintro e w6 ⟨rfl,h6⟩;have hb6:=zd HB5.out h6;obtain ⟨⟨q0,q1,q2,q3⟩,f0,f1,f2,f3⟩:=zak (ze kr hb6);have HB6:=hide (zd b2 hb6);clear p0 p1 ks5 h6 hb6 kr;go_wp2;refine bodyPost_ret (v:=.agg #[.int .i64 x.d.K,.int .i64 x.d.N,.string x.d.S,.slice none 0 0]) (by simp [results,Tryz.results24,go_sem, *]) rfl ⟨(by rw [HG.out]),zaj HB6.out HW1.out _ _ _ _⟩
  ·have hkl':¬(k:Int) < (l.length:Int):=by omega
   have hke:k=l.length:=by omega
   have HG:=hide (zgm (fun i y hi hy=>HNO.out i y (by have:=HL.out.2; omega) hy));obtain ⟨⟨q0,q1,q2,q3⟩,f0,f1,f2,f3⟩:=zak (ze kr hb);have HB6:=hide (zd b2 hb);clear hno hb kr hke;go_wp2;refine bodyPost_ret (v:=.agg #[.int .i64 128,.int .i64 0,.string ⟨#[]⟩,.slice none 0 0]) (by simp [results,Tryz.results24,go_sem, *]) rfl ⟨(by rw [HG.out]),zaj HB6.out HW1.out _ _ _ _⟩

end Go.Proofs.YtljbdmlgfggadaaGreat
