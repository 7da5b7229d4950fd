/-
  Packed: MibThings ChgWhy ChgOne ChgSetOne MibImplG.
-/
import Derived.Test.YtcpdkcdfnpcemaaGreatPRBrOkI
import Derived.Test.YtcpdkcdfnpcemaaGreatPRK19
import Derived.Test.YtcpdkcdfnpcemaaGreatPRK27
namespace Go.Proofs.YtcpdkcdfnpcemaaGreat
set_option maxRecDepth 100000
set_option maxHeartbeats 16000000
open Go.RowKit

theorem zgM (w:World) (base:Nat):Things w base none 0 []:=⟨zdk thF w,zhT w base,(by intro x hx; cases hx),(by intro x hx; cases hx)⟩

theorem zc6 (a:Option Addr) (n c:Nat) (fa:Option Addr) (fn fc:Nat) (ra:Option Addr) (rn rc:Nat) (oa:Option Addr) (on oc:Nat) (B:BR) (w:World) (h:BrRow w a n c fa fn fc ra rn rc oa on oc B) (hok:MbOk B) (hnm:B.name.size≤maxLen) :
  Calls Tryz.prog 114 #[.agg #[.int .i64 B.id,.string B.name,.slice a n c,.slice fa fn fc,.slice ra rn rc,.slice oa on oc,.int .i64 B.ticks,.int .i64 B.parse,.int .i64 B.word,.int .i64 B.drops,.int .i64 B.vers]] w fun e w'=>∃(ao:Option Addr) (cap:Nat) (l:List TH),e=.returned (.slice ao l.length cap)∧l.map TH.d=zaU B∧Things w' w.heap.size ao cap l∧Below w.heap.size w w':=by
 generalize hw1:w.alloc (Obj.cells #[.int .i64 B.id,.string B.name,.slice a n c,.slice fa fn fc,.slice ra rn rc,.slice oa on oc,.int .i64 B.ticks,.int .i64 B.parse,.int .i64 B.word,.int .i64 B.drops,.int .i64 B.vers] 31)=w2;have b2:=zb hw1;have k2:=zk hw1;have HH:=hide h;have HOK:=hide hok;have HNM:=hide hnm;clear h hok hnm;go_enter Tryz.func114,Tryz.ntmps114;obtain ⟨x0,x1,x2,x3,x4,x5,x6,x7,x8,x9,x10⟩:=zj k2;go_upto_region 1 with fail
 try rw [hw1]
 clear x0 x1 x2 x3 x4 x5 x6 x7 x8 x9 x10 hw1;have vv:Below w2.heap.size w2 w2.drew:=zr (Below.refl _ _);refine wp_region_held_drew (S:=(fun W=>(zcc W w.heap.size 0 (.int .i64 B.id)∧zcc W w.heap.size 1 (.string B.name)∧zcc W w.heap.size 2 (.slice a n c)∧zcc W w.heap.size 3 (.slice fa fn fc)∧zcc W w.heap.size 4 (.slice ra rn rc)∧zcc W w.heap.size 5 (.slice oa on oc)∧zcc W w.heap.size 6 (.int .i64 B.ticks)∧zcc W w.heap.size 7 (.int .i64 B.parse)∧zcc W w.heap.size 8 (.int .i64 B.word)∧zcc W w.heap.size 9 (.int .i64 B.drops)∧zcc W w.heap.size 10 (.int .i64 B.vers)))) (by kernel_rfl) (zj (ze k2 vv)) (fun hHeld => ?_);refine kK 0 ?_;refine kK 2 ?_;refine kK 4 ?_;refine kK 6 ?_;refine kR 1 fun K hK => ?_
 go_simp;clear hHeld;refine (zeZ a n c fa fn fc ra rn rc oa on oc B _ (HH.out.below (zd b2 vv)) HNM.out).mono ?_;rintro e z1 ⟨o1,p1,l1,rfl,d1,t1,h1⟩;have q1:=t1.names;have vv:=zd vv h1;have HD1:=hide d1;clear d1;go_wp2_with fail
 refine kO hK (zj (ze k2 vv)) fun hHeld => ?_
 clear hK K;refine kR 3 fun K hK => ?_
 go_simp;clear hHeld;refine (zd4 a n c fa fn fc ra rn rc oa on oc B _ (HH.out.below (zd b2 vv)) HOK.out).mono ?_;rintro e z2 ⟨o2,p2,l2,rfl,d2,t2,h2⟩;have q2:=q1.append h2 t2.names (Nat.le_refl _) h1.size;have t1:=t1.below h2;have vv:=zd vv h2;have HD2:=hide d2;clear d2;go_wp2_with fail
 refine kO hK (zj (ze k2 vv)) fun hHeld => ?_
 clear hK K;refine kR 5 fun K hK => ?_
 go_simp;clear hHeld;refine (zes a n c fa fn fc ra rn rc oa on oc B _ (HH.out.below (zd b2 vv)) HOK.out).mono ?_;rintro e z3 ⟨o3,p3,l3,rfl,d3,t3,h3⟩;have q3:=q2.append h3 t3.names (Nat.le_refl _) (zd h1 h2).size;have t1:=t1.below h3;have t2:=t2.below h3;have vv:=zd vv h3;have HD3:=hide d3;clear d3;go_wp2_with fail
 refine kO hK (zj (ze k2 vv)) fun hHeld => ?_
 clear hK K;refine kR 7 fun K hK => ?_
 go_simp;clear hHeld;refine (zeq a n c fa fn fc ra rn rc oa on oc B _ (HH.out.below (zd b2 vv)) HOK.out).mono ?_;rintro e z4 ⟨o4,p4,l4,rfl,d4,t4,h4⟩;have q4:=q3.append h4 t4.names (Nat.le_refl _) (zd (zd h1 h2) h3).size;have t1:=t1.below h4;have t2:=t2.below h4;have t3:=t3.below h4;have vv:=zd vv h4;have HD4:=hide d4;clear d4;go_wp2_with fail
 refine kO hK (zj (ze k2 vv)) fun hHeld => ?_
 clear hK K;refine kR 8 fun K hK => ?_
 go_simp;clear hHeld
 first
 | refine zac (K:=K _) (fun wx kI hbx => ?_)
 | refine zR (K:=K _) (fun wx kI hbx => ?_)
 have q4:=q4.below hbx;have t1:=t1.below hbx;have t2:=t2.below hbx;have t3:=t3.below hbx;have t4:=t4.below hbx;have vv:=zd vv hbx;clear hbx;refine kO hK (zj (ze k2 vv)) fun hHeld => ?_
 clear hK K;refine kR 9 fun K hK => ?_
 go_simp;clear hHeld;have HL:Hid ((l1++l2++l3++l4).map TH.d=zaU B):=hide (by
  rw [List.map_append,List.map_append,List.map_append,HD1.out,HD2.out,HD3.out,HD4.out];unfold zaU
  rfl)
 have hlen:l1.length+l2.length+l3.length+l4.length≤100:=by
  have h5:=congrArg List.length HL.out;have h6:=zex HOK.out;simp only [List.length_map,List.length_append] at h5;omega
 have hl5:l1.length=5:=by
  have h5:=congrArg List.length HD1.out;rw [List.length_map] at h5;exact h5
 have hsum:sumS [⟨o1,l1.length,p1,l1⟩,⟨o2,l2.length,p2,l2⟩,⟨o3,l3.length,p3,l3⟩,⟨o4,l4.length,p4,l4⟩] 4=l1.length+l2.length+l3.length+l4.length:=by
  show 0+l1.length+l2.length+l3.length+l4.length=_
  omega
 have hcat:catS [⟨o1,l1.length,p1,l1⟩,⟨o2,l2.length,p2,l2⟩,⟨o3,l3.length,p3,l3⟩,⟨o4,l4.length,p4,l4⟩] 4=l1++l2++l3++l4:=by
  show []++l1++l2++l3++l4=_
  rw [List.nil_append]
 have hg:=zE (F:=slF) (zT slF (base:=0) (l:=[⟨o1,l1.length,p1,l1⟩,⟨o2,l2.length,p2,l2⟩,⟨o3,l3.length,p3,l3⟩,⟨o4,l4.length,p4,l4⟩]) kI rfl (Nat.zero_le _) (by simp));have HSUM:=hide hsum;have hcc:=zen _ 4 [⟨o1,l1.length,p1,l1⟩,⟨o2,l2.length,p2,l2⟩,⟨o3,l3.length,p3,l3⟩,⟨o4,l4.length,p4,l4⟩] _ hg (by
  intro x hx;simp only [List.mem_cons,List.not_mem_nil,or_false] at hx;rcases hx with rfl | rfl | rfl | rfl
  ·exact t1.row
  ·exact t2.row
  ·exact t3.row
  ·exact t4.row) (by rw [hsum]; omega) (by rw [hsum]; omega) (by omega)
 rw [hsum,hcat] at hcc;clear hsum hl5;refine hcc.mono ?_;rintro e z5 ⟨o5,p5,rfl,r5,h5⟩;have q5:=q4.below h5;have t1:=t1.below h5;have t2:=t2.below h5;have t3:=t3.below h5;have t4:=t4.below h5;have vv:=zd vv h5;clear hcc h5 hg kI hcat;go_wp2_with fail
 refine kO hK (zj (ze k2 vv)) fun hHeld => ?_
 clear hK K;refine kK 10 ?_;refine wpAnyH_done (by kernel_rfl) ?_ _;have HTH:Hid (Things z5 w.heap.size o5 p5 (l1++l2++l3++l4)):=hide (by
  have hll:(l1++l2++l3++l4).length=l1.length+l2.length+l3.length+l4.length:=by simp only [List.length_append]
  have hm:∀x∈l1++l2++l3++l4,x∈l1∨x∈l2∨x∈l3∨x∈l4:=by
   intro x hx;simp only [List.mem_append] at hx;rcases hx with ((hx | hx) | hx) | hx
   ·exact .inl hx
   ·exact .inr (.inl hx)
   ·exact .inr (.inr (.inl hx))
   ·exact .inr (.inr (.inr hx))
  refine ⟨by rw [hll]; exact r5,q5.lt b2.size, ?_, ?_⟩
  ·intro x hx;rcases hm x hx with hx | hx | hx | hx
   ·exact t1.gives x hx
   ·exact t2.gives x hx
   ·exact t3.gives x hx
   ·exact t4.gives x hx
  ·intro x hx;rcases hm x hx with hx | hx | hx | hx
   ·exact t1.nil x hx
   ·exact t2.nil x hx
   ·exact t3.nil x hx
   ·exact t4.nil x hx)
 have HB:=hide (zd b2 vv);have HLL:Hid ((l1++l2++l3++l4).length=l1.length+l2.length+l3.length+l4.length):=hide (by simp only [List.length_append]);clear hHeld vv k2 b2 q5 q4 t1 t2 t3 t4 r5 hlen;go_wp2;go_ret;exact ⟨o5,p5,l1++l2++l3++l4,(by show Ending.returned (.slice o5 (l1.length+l2.length+l3.length+l4.length) p5)=_; rw [HLL.out]),HL.out,HTH.out,HB.out⟩

theorem zdH (a:Option Addr) (n c:Nat) (fa:Option Addr) (fn fc:Nat) (ra:Option Addr) (rn rc:Nat) (oa:Option Addr) (on oc:Nat) (B:BR) (w:World) (h:BrRow w a n c fa fn fc ra rn rc oa on oc B) (hfn:fn≤16777216) (hR:∀r∈B.v.rows,r.Rng) :
  Calls Tryz.prog 43 #[.agg #[.int .i64 B.id,.string B.name,.slice a n c,.slice fa fn fc,.slice ra rn rc,.slice oa on oc,.int .i64 B.ticks,.int .i64 B.parse,.int .i64 B.word,.int .i64 B.drops,.int .i64 B.vers]] w fun e w'=>∃(ao:Option Addr) (cap:Nat) (l:List TH),e=.returned (.slice ao l.length cap)∧l.map TH.d=zal B∧Things w' w.heap.size ao cap l∧Below w.heap.size w w':=by
 generalize hw1:w.alloc (Obj.cells #[.int .i64 B.id,.string B.name,.slice a n c,.slice fa fn fc,.slice ra rn rc,.slice oa on oc,.int .i64 B.ticks,.int .i64 B.parse,.int .i64 B.word,.int .i64 B.drops,.int .i64 B.vers] 31)=w1;have b1:=zb hw1;have k1:=zk hw1;have HH:=hide h;obtain ⟨x0,x1,x2,x3,x4,x5,x6,x7,x8,x9,x10⟩:=zj k1;go_enter Tryz.func43,Tryz.ntmps43;go_wp2_with fail
 refine (zb8 a n c fa fn fc ra rn rc oa on oc B _ (h.below b1) hfn hR).mono ?_;rintro e w2 ⟨rfl,hb2⟩;have k2:=ze k1 hb2;have b2:=zd b1 hb2;clear hb2 k1 b1 x0 x1 x2 x3 x4 x5 x6 x7 x8 x9 x10 h hw1;cases hok:zG B
 ·have HM:Hid (zal B=[]):=hide (by unfold zal; rw [if_neg (by rw [hok]; decide)]);have HB:=hide b2;clear hok k2 b2;go_wp2;go_ret;exact ⟨none,0,[],rfl,HM.out.symm,zgM _ _,HB.out⟩
 ·have HM:Hid (zal B=zaU B):=hide (by unfold zal; rw [if_pos hok]);have HOK:=hide (mb_ok hok);have HNM:Hid (B.name.size≤maxLen):=hide (by have:=(zaV hok).2.2.1; unfold maxLen; omega);have HB:=hide b2;clear hok b2;obtain ⟨x0,x1,x2,x3,x4,x5,x6,x7,x8,x9,x10⟩:=zj k2;(go_wp2_with fail);refine (zc6 a n c fa fn fc ra rn rc oa on oc B _ (HH.out.below HB.out) HOK.out HNM.out).mono ?_;rintro e w3 ⟨ao,cap,l,rfl,hd,ht,h3⟩;have HD:=hide hd;have HT:=hide ht;have HB3:=hide h3;clear hd ht h3 k2 x0 x1 x2 x3 x4 x5 x6 x7 x8 x9 x10;go_wp2;go_ret;have ht:=HT.out;exact ⟨ao,cap,l,rfl,by rw [HD.out,HM.out],⟨ht.row,ht.names.lt HB.out.size,ht.gives,ht.nil⟩,zd HB.out HB3.out⟩

section
open Go.RowKit

theorem zjo {B:BR} (h:Mid B):MbOk B:=by
 have hf':=(zaW B.f).1 h.f;refine ⟨h.pn.2,h.rn,hf'.2,fun r hr=>(h.ri r hr).1,fun e he => ?_,h.own⟩;have h1:=(zdw e).1 (hf'.1.1 e he);exact ⟨h1.1,h1.2.1,h1.2.2.1⟩

theorem ziR (x:TH) (za:Option Addr) (zn zc:Nat) (z:List Int) (g:Nat) (w:World) (hx:IRow w x.oa x.on x.oc x.d.o) (hz:IRow w za zn zc z) (kg:w.heap[g]? = some (.cells #[.slice za zn zc] 27)) :
  Calls Tryz.prog 218 #[.agg #[.slice x.oa x.on x.oc,.func (.func 275) #[] #[.pointer (some ⟨x.wb,0,none⟩),.pointer (some ⟨x.pb,0,none⟩)]],.pointer (some ⟨g,0,none⟩)] w fun e w'=>e=.returned (.bool (decide (x.d.o=z)))∧Below w.heap.size w w':=by
 generalize hw1:w.alloc (Obj.cells #[.slice x.oa x.on x.oc,.func (.func 275) #[] #[.pointer (some ⟨x.wb,0,none⟩),.pointer (some ⟨x.pb,0,none⟩)]] 91)=w1;have b1:=zb hw1;have k1:=zk hw1;obtain ⟨⟨p0,p1⟩,-⟩:=zU k1;have c1:=cell1 (ze kg b1);have HX:=hide (hx.below b1);have HZ:=hide (hz.below b1);have HB:=hide b1;clear hx hz kg b1 k1;go_enter Tryz.func218,Tryz.ntmps218;go_wp2_with fail
 refine (zbn _ _ _ x.d.o za zn zc z _ HX.out HZ.out).mono ?_;rintro e w5 ⟨rfl,nd,rfl⟩;go_wp2;go_ret;exact ⟨rfl,zap HB.out nd⟩

theorem zgQ (base:Nat) (ao:Option Addr) (cap:Nat) (l:List TH) (hl:l.length≤100) (za:Option Addr) (zn zc:Nat) (z:List Int) (g:Nat) (w:World) (h:Things w base ao cap l) (hz:IRow w za zn zc z) (cg:w.heap[g]? = some (.cells #[.slice za zn zc] 27)) :
  Calls Tryz.prog 267 #[.slice ao l.length cap,.func (.func 218) #[] #[.pointer (some ⟨g,0,none⟩)]] w fun r w'=>(∃i:Int,r=.returned (.int .i64 i)∧(0≤i↔∃x∈l,x.d.o=z))∧Below w.heap.size w w':=by
 go_enter Tryz.func267,Tryz.ntmps267;go_wp2
 go_loopw [8] (fun i wr=>∃k:Nat,k≤l.length∧i=.int .i64 k∧(∀(j:Nat) (y:TH),j < k→l[j]? = some y→y.d.o≠z)∧Below w.heap.size w wr) (fun i _=>102 - (intOf i).toNat)
 case atStart=>exact ⟨0,Nat.zero_le _,rfl,fun j y hj=>by omega,Below.refl _ _⟩
 case round =>
  obtain ⟨k,hk,rfl,hno,hb⟩:=hrel;by_cases hlt:k < l.length
  ·have hlt':(k:Int) < (l.length:Int):=by omega
   have hk100:(k:Int)≤100:=by omega
   obtain ⟨x,xb,off,hx,rfl,c0,c1⟩:=th_at (h.row.below hb) k hlt;have HM:=hide (List.mem_of_getElem? hx);have HB:=hide hb;have HNO:=hide hno;have HXK:=hide hx;have hnm:=zV ((h.names.below hb).item x HM.out) (h.names.i64 x HM.out);clear hx hno;(go_wp2_with fail);refine (ziR x za zn zc z g _ hnm (hz.below HB.out) (ze cg HB.out)).mono ?_;rintro r w1 ⟨rfl,hb1⟩;have HB1:=hide (zd HB.out hb1);clear hb1 c0 c1 hb hnm;by_cases hq:x.d.o=z
   ·have HF:Hid (∃x∈l,x.d.o=z):=hide ⟨x,HM.out,hq⟩;rw [decide_eq_true hq];clear hq;go_wp2;go_ret;exact ⟨⟨_,rfl,fun _=>HF.out,fun _=>by omega⟩,HB1.out⟩
   ·have HO:Hid (∀(j:Nat) (y:TH),j < k+1→l[j]? = some y→y.d.o≠z):=hide (by
     intro j y hj hy;by_cases e:j=k
     ·subst e;rw [HXK.out] at hy;cases hy;exact hq
     ·exact HNO.out j y (by omega) hy)
    rw [decide_eq_false hq];clear hq;go_wp2
    go_roundw
    case rel=>exact ⟨k+1,by omega,by go_num,HO.out,HB1.out⟩
    case measure=>simp [intOf]; omega
  ·have hlt':¬(k:Int) < (l.length:Int):=by omega
   have hkn:k=l.length:=by omega
   have HF:Hid (¬∃x∈l,x.d.o=z):=hide (by
    rintro ⟨x,hx,e⟩;obtain ⟨i,hi⟩:=List.getElem?_of_mem hx;exact hno i x (by have:=(List.getElem?_eq_some_iff.1 hi).1; omega) hi e)
   have HB:=hide hb;clear hno hb hkn;go_wp2;go_ret;exact ⟨⟨-1,rfl,fun e=>by omega,fun e=>absurd e HF.out⟩,HB.out⟩

theorem zgP (base:Nat) (ao:Option Addr) (cap:Nat) (l:List TH) (hl:l.length≤100) (za:Option Addr) (zn zc:Nat) (z:List Int) (g:Nat) (w:World) (h:Things w base ao cap l) (hz:IRow w za zn zc z) (cg:w.heap[g]? = some (.cells #[.slice za zn zc] 27)) (b:Bool) (hb:(∃x∈l,x.d.o=z)↔b=true) :
  Calls Tryz.prog 217 #[.slice ao l.length cap,.func (.func 218) #[] #[.pointer (some ⟨g,0,none⟩)]] w fun r w'=>r=.returned (.bool b)∧Below w.heap.size w w':=by
 have HBB:=hide hb;clear hb;go_enter Tryz.func217,Tryz.ntmps217;go_wp2_with fail
 refine (zgQ base ao cap l hl za zn zc z g _ h hz cg).mono ?_;rintro e w1 ⟨⟨i,rfl,hi⟩,hb1⟩;have HD:Hid (decide (0≤i)=b):=hide (by
  have hi2:0≤i↔b=true:=hi.trans HBB.out;cases b
  ·exact decide_eq_false (fun e=>by have:=hi2.1 e; cases this)
  ·exact decide_eq_true (hi2.2 rfl))
 have HB1:=hide hb1;clear hb1 hi;go_wp2;go_ret;exact ⟨by show Ending.returned (.bool (decide (0≤i)))=_; rw [HD.out],HB1.out⟩

section
variable {w:World} {base X:Nat} {a:Option Addr} {n c:Nat} {fa:Option Addr} {fn fc:Nat} {ra:Option Addr} {rn rc:Nat} {oa:Option Addr} {on oc:Nat} {B:BR} {ua:Option Addr} {un uc:Nat}
theorem zel (h:Tr w base X a n c fa fn fc ra rn rc oa on oc B ua un uc) (hm:Mid B) (za:Option Addr) (zn zc:Nat) (z:List Int) (hz:IRow w za zn zc z) (hk:zaw B z=none) :
  Calls Tryz.prog 153 #[.pointer (some ⟨X,0,none⟩),.slice za zn zc] w fun e w'=>e=.returned (.int .i64 (if seenB B z=true then 4 else 3))∧Below w.heap.size w w':=by
 obtain ⟨sb,hsb⟩:∃sb,seenB B z=sb:=⟨_,rfl⟩;have HS:=hide hsb;rw [hsb];clear hsb;have hst:=zfn hm hk;have HNM:Hid (B.name.size≤maxLen):=hide (by have:=hm.name; unfold maxLen; omega);have HMB:=hide (zjo hm);generalize hw1:w.alloc (Obj.cells #[.slice za zn zc] 27)=w1;have b1:=zb hw1;have k1:=zk hw1;obtain ⟨x0,x1,x2,x3,x4,x5,x6,x7,x8,x9,x10,x11,-⟩:=zaD (ze h.box b1);have HST:=hide hst;have HT:=hide h;clear hst hk hm h;go_enter Tryz.func153,Tryz.ntmps153;go_wp2_with fail
 try rw [hw1]
 clear hw1;refine (zce a n c fa fn fc ra rn rc oa on oc B _).mono ?_;rintro e w2 ⟨rfl,hb2⟩;have b2:=zd b1 hb2;have k2:=ze k1 hb2;clear x0 x1 x2 x3 x4 x5 x6 x7 x8 x9 x10 x11 hb2 b1 k1;go_wp2_with fail
 refine (zc6 a n c fa fn fc ra rn rc oa on oc B _ (HT.out.below b2).own.row HMB.out HNM.out).mono ?_;rintro e w3 ⟨ao,cap,l,rfl,hd,ht,hb3⟩;have b3:=zd b2 hb3;have k3:=ze k2 hb3;have hl100:l.length≤100:=by
  have h1:=congrArg List.length hd;rw [List.length_map] at h1;rw [h1];exact zex HMB.out
 have hany:(∃x∈l,x.d.o=z)↔seenB B z=true:=by
  rw [← HST.out,← hd]
  constructor
  ·rintro ⟨x,hx,e⟩;exact ⟨x.d,List.mem_map_of_mem hx,e⟩
  ·rintro ⟨d,hd2,e⟩;obtain ⟨x,hx,rfl⟩:=List.mem_map.1 hd2;exact ⟨x,hx,e⟩
 have HANY:=hide hany;have HL:=hide hl100;have HTH:=hide ht;clear hany hl100 hd ht hb3 b2 k2;have hmf:∀(fn:Fn) (first cap:Array Value) (w:World),(Instr.makeFunc fn first cap).run Tryz.prog w=.ok (.func fn first cap) w:=fun _ _ _ _=>rfl
 go_wp2_with fail
 refine (zgP _ ao cap l HL.out za zn zc z _ _ HTH.out (hz.below b3) k3 sb (by rw [← HS.out]; exact HANY.out)).mono ?_;rintro e w4 ⟨rfl,hb4⟩;have HB:=hide (zd b3 hb4);clear hb4 b3 k3;cases sb
 ·go_wp2;exact bodyPost_ret (v:=.int .i64 3) (by simp [results,Tryz.results153,go_sem, *]) rfl ⟨rfl,HB.out⟩
 ·go_wp2;exact bodyPost_ret (v:=.int .i64 4) (by simp [results,Tryz.results153,go_sem, *]) rfl ⟨rfl,HB.out⟩
end

end

section
open Go.RowKit

theorem zjv:(Tryz.prog.info? 1).map (fun i=>(i.zero,i.size,i.bytes))=some (some .nilFunc,unF.k,8):=by kernel_rfl

section
variable {w0 w:World} {base X:Nat} {a:Option Addr} {n c:Nat} {fa:Option Addr} {fn fc:Nat} {ra:Option Addr} {rn rc:Nat} {oa:Option Addr} {on oc:Nat} {B:BR} {ua:Option Addr} {uc:Nat} {cl:List CL}

theorem ziL (h:Chg w0 w base X a n c fa fn fc ra rn rc oa on oc B ua uc cl) (hm:Mid B) (hcl:cl.length≤1048576) (x:BD) (za:Option Addr) (zn zc:Nat) (ya:Option Addr) (yn yc:Nat) (hz:IRow w za zn zc x.o) (hNI:I64 x.N) (hSS:x.S.size≤16777216) :
  Calls Tryz.prog 72 #[.pointer (some ⟨X,0,none⟩),.agg #[.slice za zn zc,.int .i64 x.K,.int .i64 x.N,.string x.S,.slice ya yn yc]] w fun e w'=>e=.returned (.int .i64 (zbr B x).2)∧∃(ra':Option Addr) (rn' rc':Nat) (ua':Option Addr) (uc':Nat) (cl':List CL),Chg w0 w' base X a n c fa fn fc ra' rn' rc' oa on oc (zbr B x).1 ua' uc' cl'∧cl'.length≤cl.length+1∧Below base w w'∧Stays w w':=by
 have HBL:Hid (base≤w.heap.size):=hide (by have h1:=h.tr.hX; have h2:=(Array.getElem?_eq_some_iff.1 h.tr.box).1; omega);have HBN:Hid (base≤w0.heap.size):=hide (by have h1:=h.tr.hX; have h2:=h.lo.1; omega);have HC:=hide h;have HM:=hide hm;have HZ:=hide hz;have HNI:=hide hNI;have HSS:=hide hSS;have HCL:=hide hcl;generalize hw1:w.alloc (Obj.cells #[.slice za zn zc,.int .i64 x.K,.int .i64 x.N,.string x.S,.slice ya yn yc] 37)=w1;have b1:=zb hw1;have k1:=zk hw1;obtain ⟨x0,x1,x2,x3,x4⟩:=zt k1;clear h hm hz hNI hSS hcl;go_enter Tryz.func72,Tryz.ntmps72;go_wp2_with fail
 try rw [hw1]
 clear hw1;refine (zd6 (HC.out.tr.below b1) HM.out za zn zc x.o (HZ.out.below b1)).mono ?_;rintro e w2 ⟨hres,hb2⟩;clear x0 x1 x2 x3 x4;have b12:=zd b1 hb2;cases hk:zaw B x.o with
 | none =>
  have HKD:=hide hk;obtain ⟨cd,hcd⟩:∃cd:Int,cd=(if seenB B x.o=true then 4 else 3):=⟨_,rfl⟩;have HCODE:Hid (zbr B x=(B,cd)):=hide (by unfold zbr; rw [hk,hcd]);have HCD:=hide hcd;clear hcd;rw [hk] at hres;clear hk;rcases hres with rfl | ⟨f1,c1,f2,c2,rfl⟩
  ·generalize hw3:w2.alloc (Obj.cells #[.int .i64 0,.nilFunc,.nilFunc] 199)=w3;have b3:=zb hw3;have k3:=zk hw3;obtain ⟨y0,y1,y2⟩:=zag k3;have f0:=zm k3 0;have f1':=zm k3 1;have f2':=zm k3 2;(go_upto_region 2 with fail);(try rw [hw3]);clear hw3 y0 y1 y2 f0 f1' f2';refine zbj (K:=fun W=>Code.wp _ _ _ _ W) k3 b3 (Nat.le_refl _) _ _ _ (fun wS kS bS hqS => ?_);clear hqS;have b0S:=zd b12 bS;have kb:=ze k1 (zd hb2 bS);obtain ⟨x0,-⟩:=zt kb;clear k3 b3;(go_wp2_with fail);refine (zel (HC.out.tr.below b0S) HM.out za zn zc x.o (HZ.out.below b0S) HKD.out).mono ?_;rintro e w6 ⟨rfl,hb6⟩;rw [← HCD.out];have HBE:=hide (zd b0S hb6);clear hb6 b0S kb x0 kS bS;go_wp2;exact bodyPost_ret (v:=.int .i64 cd) (by simp [results,Tryz.results72,go_sem, *]) rfl ⟨by rw [HCODE.out],ra,rn,rc,ua,uc,cl,by rw [HCODE.out]; exact HC.out.below HBE.out,by omega,HBE.out.mono HBL.out,Stays.of_below HBE.out⟩
  ·generalize hw3:w2.alloc (Obj.cells #[.int .i64 0,.nilFunc,.nilFunc] 199)=w3;have b3:=zb hw3;have k3:=zk hw3;obtain ⟨y0,y1,y2⟩:=zag k3;have f0:=zm k3 0;have f1':=zm k3 1;have f2':=zm k3 2;(go_upto_region 2 with fail);(try rw [hw3]);clear hw3 y0 y1 y2 f0 f1' f2';refine zbj (K:=fun W=>Code.wp _ _ _ _ W) k3 b3 (Nat.le_refl _) _ _ _ (fun wS kS bS hqS => ?_);clear hqS;have b0S:=zd b12 bS;have kb:=ze k1 (zd hb2 bS);obtain ⟨x0,-⟩:=zt kb;clear k3 b3;(go_wp2_with fail);refine (zel (HC.out.tr.below b0S) HM.out za zn zc x.o (HZ.out.below b0S) HKD.out).mono ?_;rintro e w6 ⟨rfl,hb6⟩;rw [← HCD.out];have HBE:=hide (zd b0S hb6);clear hb6 b0S kb x0 kS bS;go_wp2;exact bodyPost_ret (v:=.int .i64 cd) (by simp [results,Tryz.results72,go_sem, *]) rfl ⟨by rw [HCODE.out],ra,rn,rc,ua,uc,cl,by rw [HCODE.out]; exact HC.out.below HBE.out,by omega,HBE.out.mono HBL.out,Stays.of_below HBE.out⟩
 | some kd =>
  have HKD:=hide hk;rw [hk] at hres;obtain ⟨f1,c1,f2,c2,rfl,hs⟩:=hres;have HSA:=hide hs;clear hs;generalize hw3:w2.alloc (Obj.cells #[.int .i64 0,.nilFunc,.nilFunc] 199)=w3;have b3:=zb hw3;have k3:=zk hw3;obtain ⟨y0,y1,y2⟩:=zag k3;have f0:=zm k3 0;have f1':=zm k3 1;have f2':=zm k3 2;(go_upto_region 2 with fail);(try rw [hw3]);clear hw3 y0 y1 y2 f0 f1' f2';refine zbj (K:=fun W=>Code.wp _ _ _ _ W) k3 b3 (Nat.le_refl _) _ _ _ (fun wS kS bS hqS => ?_);clear hqS;have b0S:=zd b12 bS;have kb:=ze k1 (zd hb2 bS);obtain ⟨x0,x1,x2,x3,x4⟩:=zt kb;obtain ⟨y0,y1,y2⟩:=zag kS;clear k3 b3;by_cases hK:x.K=kindN kd
  ·have HKK:=hide hK;have hK2:(x.K != kindN kd)=false:=by rw [hK]; exact bne_self_eq_false _
   cases htk:zbK B x.N x.S kd
   ·have HTK:=hide htk;have HCODE:Hid (zbr B x=(B,2)):=hide (by unfold zbr; rw [hk]; show (if x.K=kindN kd then (if zbK B x.N x.S kd=true then (putK B x.N x.S kd,(0:Int)) else (B,2)) else (B,1))=_; rw [if_pos hK,if_neg (by rw [htk]; decide)]);clear hk htk hK;have htc:=(HSA.out.below bS).takes (HC.out.tr.below b0S);have he:=htc.1;(go_wp2_with fail);refine (htc.2 _ (Below.refl _ _) x.K x.N x.S ya yn yc HNI.out HSS.out).mono ?_;rintro e w6 ⟨rfl,hb6⟩;dsimp only;rw [HTK.out];have HBE:=hide (zd b0S hb6);clear htc he hb6 b0S kb kS bS x0 x1 x2 x3 x4 y0 y1 y2;go_wp2;exact bodyPost_ret (v:=.int .i64 2) (by simp [results,Tryz.results72,go_sem, *]) rfl ⟨by rw [HCODE.out],ra,rn,rc,ua,uc,cl,by rw [HCODE.out]; exact HC.out.below HBE.out,by omega,HBE.out.mono HBL.out,Stays.of_below HBE.out⟩
   ·have HTK:=hide htk;have HCODE:Hid (zbr B x=(putK B x.N x.S kd,0)):=hide (by unfold zbr; rw [hk]; show (if x.K=kindN kd then (if zbK B x.N x.S kd=true then (putK B x.N x.S kd,(0:Int)) else (B,2)) else (B,1))=_; rw [if_pos hK,if_pos htk]);clear hk htk hK;have htc:=(HSA.out.below bS).takes (HC.out.tr.below b0S);have he:=htc.1;(go_wp2_with fail);refine (htc.2 _ (Below.refl _ _) x.K x.N x.S ya yn yc HNI.out HSS.out).mono ?_;rintro e w6 ⟨rfl,hb6⟩;dsimp only;rw [HTK.out];have HCH:=hide (HC.out.below (zd b0S hb6));have HPU:=hide ((HSA.out.below (zd bS hb6)).puts HCH.out.tr HM.out);have he:=HPU.out.1;have HBS:=hide (zd b0S hb6);have HKS:=hide (ze kS hb6);have HKB:=hide (ze kb hb6);have HS:Hid (∀W,Below w6.heap.size w6 W→(zcc W w2.heap.size 2 (.func (.func f2) #[] c2)∧(zcc W w.heap.size 1 (.int .i64 x.K)∧zcc W w.heap.size 2 (.int .i64 x.N)∧zcc W w.heap.size 3 (.string x.S)∧zcc W w.heap.size 4 (.slice ya yn yc)))):=hide (fun W hW=>⟨(zag (ze HKS.out hW)).2.2,(zt (ze HKB.out hW)).1.2⟩);have vv:Below w6.heap.size w6 w6.drew:=zr (Below.refl _ _);clear htc hb6 b0S kb kS bS x0 x1 x2 x3 x4 y0 y1 y2;(go_upto_region 8 with fail);obtain ⟨-,-,-,-,-,-,-,-,-,-,-,-,x12⟩:=zaD HCH.out.tr.box;refine wp_region_held_drew (S:=(fun W=>(zcc W w2.heap.size 2 (.func (.func f2) #[] c2)∧(zcc W w.heap.size 1 (.int .i64 x.K)∧zcc W w.heap.size 2 (.int .i64 x.N)∧zcc W w.heap.size 3 (.string x.S)∧zcc W w.heap.size 4 (.slice ya yn yc))))) (by kernel_rfl) ((by first | exact HSE.out | exact HSD.out | exact HSX.out | exact HSB.out | exact HS.out _ vv)) (fun hHeld => ?_)
    repeat' first
    |
     with_reducible refine kLa ?_
     first
     |
      refine kLf 0 ?_;refine kK 0 ?_
     |
      refine kLf 1 ?_;refine kK 1 ?_
     |
      refine kLf 2 ?_;refine kK 2 ?_
     |
      refine kLf 3 ?_;refine kK 3 ?_
     |
      refine kLf 5 ?_;refine kK 5 ?_
     |
      refine kLf 6 ?_;refine kK 6 ?_
     |
      refine kLf 7 ?_;refine kK 7 ?_
     |
      refine kLf 8 ?_;refine kK 8 ?_
     |
      refine kLf 12 ?_;refine kK 12 ?_
     |
      refine kLf 13 ?_;refine kK 13 ?_
     |
      refine kLp [4,9] ?_
     |
      refine kLp [9] ?_
     |
      refine kLp [10] ?_
     |
      refine kLp [11] ?_
     |
      refine kLp [14] ?_
     |
      refine kLp [4,10] ?_
     |
      refine kLp [4] ?_
     |
      refine wpAnyH_done (by kernel_rfl) ?_ _;clear hHeld;have HRES:=hide HNEW.out;have HBE:Hid (Below base w (wD.setCell ⟨X,12,none⟩ (.slice ua' (cl.length+1) uc'))):=hide (HBD.out.setCell (p:=⟨X,12,none⟩) HNEW.out.tr.hX _);have HSTE:Hid (Stays w (wD.setCell ⟨X,12,none⟩ (.slice ua' (cl.length+1) uc'))):=hide (fun k cs T hk hT=>zx (HST.out k cs T hk hT) (zD (HST.out k cs T hk hT) HBX.out (by rcases hT with rfl | rfl <;> decide)));clear HSD HSE HSB HSX HQD HQQ;go_wp2;exact bodyPost_ret (v:=.int .i64 0) (by simp [results,Tryz.results72,go_sem, *]) rfl ⟨by rw [HCODE.out],ra',rn',rc',ua',uc',cl++[y],by rw [HCODE.out]; exact HRES.out,by simp,HBE.out,HSTE.out⟩
    |
     exact AllReadyH.nil
    |
     refine kLc 4 (fun K hK => ?_) ?_;go_simp;refine kO hK ((by first | exact HSE.out | exact HSD.out | exact HSX.out | exact HSB.out | exact HS.out _ vv)) fun hHeld => ?_
     clear hK K
    |
     refine kLc 9 (fun K hK => ?_) ?_;go_simp;clear hHeld;refine (HPU.out.2 _ vv x.K x.N x.S ya yn yc HNI.out HSS.out HTK.out).mono ?_;rintro e zB ⟨y,wm,u,ra',rn',rc',rfl,ex,hT,hblk,hn12,hbase,hylt⟩;have HEX:=hide ex;have HTB:=hide hT;have HBK:=hide hblk;have HN12:=hide hn12;have HYL:=hide (And.intro hbase hylt);have HA:=hide vv;have HQQ:Hid (zB.heap[w2.heap.size]? = some (.cells #[.int .i64 (kindN kd),.func (.func f1) #[] c1,.func (.func f2) #[] c2] 199)∧zB.heap[w.heap.size]? = some (.cells #[.slice za zn zc,.int .i64 x.K,.int .i64 x.N,.string x.S,.slice ya yn yc] 37)):=hide (by
      obtain ⟨cs,T,hcs,-,hk⟩:=hblk;have hno:=hk.no;have q:=zd vv ex.below;have qs:=ze HKS.out q;have qb:=ze HKB.out q;have e1:=zx (b:=y.b) (j:=y.j) (u:=u) qs (zD qs hcs (fun e=>hno.2.1 e.symm));have e2:=zx (b:=y.b) (j:=y.j) (u:=u) qb (zD qb hcs (fun e=>hno.2.2.1 e.symm));rw [← ex.set] at e1 e2;exact ⟨e1,e2⟩)
     have HSB:Hid (zB.cell? ⟨w2.heap.size,2,none⟩=some (.func (.func f2) #[] c2)∧(zB.cell? ⟨w.heap.size,1,none⟩=some (.int .i64 x.K)∧zB.cell? ⟨w.heap.size,2,none⟩=some (.int .i64 x.N)∧zB.cell? ⟨w.heap.size,3,none⟩=some (.string x.S)∧zB.cell? ⟨w.heap.size,4,none⟩=some (.slice ya yn yc))):=hide ⟨(zag HQQ.out.1).2.2,(zt HQQ.out.2).1.2⟩;obtain ⟨-,-,-,-,-,-,-,-,-,-,-,-,x12⟩:=zaD hT.box;clear ex hT hblk hn12 hbase hylt vv;have vw:Below zB.heap.size zB zB:=Below.refl _ _;(go_wp2_with fail);refine kO hK ((by first | exact HSE.out | exact HSD.out | exact HSX.out | exact HSB.out | exact HS.out _ vv)) fun hHeld => ?_
     clear hK K
    |
     refine kLc 10 (fun K hK => ?_) ?_;go_simp
     first
     | refine zac (K:=K _) (fun wx kN hbx => ?_)
     | refine zR (K:=K _) (fun wx kN hbx => ?_)
     have vw:=zd vw hbx;have HSX:Hid (wx.cell? ⟨w2.heap.size,2,none⟩=some (.func (.func f2) #[] c2)∧(wx.cell? ⟨w.heap.size,1,none⟩=some (.int .i64 x.K)∧wx.cell? ⟨w.heap.size,2,none⟩=some (.int .i64 x.N)∧wx.cell? ⟨w.heap.size,3,none⟩=some (.string x.S)∧wx.cell? ⟨w.heap.size,4,none⟩=some (.slice ya yn yc))):=hide ⟨(zag (ze HQQ.out.1 hbx)).2.2,(zt (ze HQQ.out.2 hbx)).1.2⟩;obtain ⟨-,-,-,-,-,-,-,-,-,-,-,-,x12⟩:=zaD (HTB.out.below hbx).box;clear hbx;refine kO hK ((by first | exact HSE.out | exact HSD.out | exact HSX.out | exact HSB.out | exact HS.out _ vv)) fun hHeld => ?_
     clear hK K
    |
     refine kLc 11 (fun K hK => ?_) ?_;have gn1:GRow unF wx (some ⟨_,0,none⟩) 1 1 [y]:=zE (F:=unF) (zT unF (l:=[y]) (base:=0) kN rfl (Nat.zero_le _) (by simp));have owU:=HCH.out.unAt HA.out HEX.out HBK.out vw;have hzx:w0.heap.size≤wx.heap.size:=Nat.le_trans HCH.out.und.size (Nat.le_trans HA.out.size (Nat.le_trans HEX.out.below.size (Nat.le_trans (by rw [HEX.out.set]; simp [World.setCell]) vw.size)));refine zan (F:=unF) rfl _ _ 101 1 rfl w0.heap.size Tryz.underlying101 zjv rfl (by decide) _ cl.length cl rfl owU _ 1 1 _ rfl gn1 (by have:=HCL.out; omega) hzx ?_;intro ua' uc' wD how _ hgr hbD;have hnew:=HCH.out.push (wC:=wx) HA.out HEX.out HTB.out HBK.out HN12.out HYL.out.2 vw (ua':=ua') (uc':=uc') (by rw [show (cl++[y]).length=cl.length+1 by simp]; exact how) hgr;rw [show (Value.slice ua' (cl++[y]).length uc')=.slice ua' (cl.length+1) uc' by simp] at hnew;have tD:=(HTB.out.below vw).unGrown owU hgr;have HQD:Hid (wD.heap[w2.heap.size]? = some (.cells #[.int .i64 (kindN kd),.func (.func f1) #[] c1,.func (.func f2) #[] c2] 199)∧wD.heap[w.heap.size]? = some (.cells #[.slice za zn zc,.int .i64 x.K,.int .i64 x.N,.string x.S,.slice ya yn yc] 37)):=hide ⟨zA (ze HQQ.out.1 vw) hgr (zaf owU (ze HQQ.out.1 vw) (by decide)),zA (ze HQQ.out.2 vw) hgr (zaf owU (ze HQQ.out.2 vw) (by decide))⟩;have HSD:Hid (wD.cell? ⟨w2.heap.size,2,none⟩=some (.func (.func f2) #[] c2)∧(wD.cell? ⟨w.heap.size,1,none⟩=some (.int .i64 x.K)∧wD.cell? ⟨w.heap.size,2,none⟩=some (.int .i64 x.N)∧wD.cell? ⟨w.heap.size,3,none⟩=some (.string x.S)∧wD.cell? ⟨w.heap.size,4,none⟩=some (.slice ya yn yc))):=hide ⟨(zag HQD.out.1).2.2,(zt HQD.out.2).1.2⟩;have HNEW:=hide hnew;have HBX:=hide tD.box;have HFX:=hide (tD.fr 12);have HBD:Hid (Below base w wD):=hide (by
      have hbw:=HBL.out;have q0:Below base w zB:=by
       rw [HEX.out.set];exact (((zd HBS.out (zd HA.out HEX.out.below)).mono hbw)).setCell (p:=⟨y.b,y.j,none⟩) HYL.out.1 u
      have q1:Below base w wx:=q0.trans (vw.mono (Nat.le_trans hbw q0.size));exact q1.grown hgr (Nat.le_trans hbw q1.size) (fun b hb=>Nat.le_trans HBN.out (owU.lt b hb).1))
     have HST:Hid (Stays w wD):=hide (by
      intro k cs T hk hT;obtain ⟨cs2,T2,hcs2,-,hk2⟩:=HBK.out;have hno:=hk2.no;have q:=ze hk (zd HBS.out (zd HA.out HEX.out.below));have q2:=zx (b:=y.b) (j:=y.j) (u:=u) q (zD q hcs2 (by rcases hT with rfl | rfl; exact fun e=>hno.2.2.2 e.symm; exact fun e=>hno.2.2.1 e.symm));rw [← HEX.out.set] at q2;have q3:=ze q2 vw;exact zA q3 hgr (zaf owU q3 (by rcases hT with rfl | rfl <;> decide)))
     clear hnew how hgr hbD gn1 owU tD kN vw hzx;refine kO hK ((by first | exact HSE.out | exact HSD.out | exact HSX.out | exact HSB.out | exact HS.out _ vv)) fun hHeld => ?_
     clear hK K
    |
     refine kLc 14 (fun K hK => ?_) ?_;obtain ⟨-,-,-,-,-,-,-,-,-,-,-,-,x12⟩:=zaD HBX.out;have fX:=HFX.out;go_simp;clear x12 fX;have HSE:Hid ((wD.setCell ⟨X,12,none⟩ (.slice ua' (cl.length+1) uc')).cell? ⟨w2.heap.size,2,none⟩=some (.func (.func f2) #[] c2)∧((wD.setCell ⟨X,12,none⟩ (.slice ua' (cl.length+1) uc')).cell? ⟨w.heap.size,1,none⟩=some (.int .i64 x.K)∧(wD.setCell ⟨X,12,none⟩ (.slice ua' (cl.length+1) uc')).cell? ⟨w.heap.size,2,none⟩=some (.int .i64 x.N)∧(wD.setCell ⟨X,12,none⟩ (.slice ua' (cl.length+1) uc')).cell? ⟨w.heap.size,3,none⟩=some (.string x.S)∧(wD.setCell ⟨X,12,none⟩ (.slice ua' (cl.length+1) uc')).cell? ⟨w.heap.size,4,none⟩=some (.slice ya yn yc))):=hide ⟨(zag (zx HQD.out.1 (zD HQD.out.1 HBX.out (by decide)))).2.2,(zt (zx HQD.out.2 (zD HQD.out.2 HBX.out (by decide)))).1.2⟩;refine kO hK ((by first | exact HSE.out | exact HSD.out | exact HSX.out | exact HSB.out | exact HS.out _ vv)) fun hHeld => ?_
     clear hK K
  ·have HCODE:Hid (zbr B x=(B,1)):=hide (by unfold zbr; rw [hk]; show (if x.K=kindN kd then (if zbK B x.N x.S kd=true then (putK B x.N x.S kd,(0:Int)) else (B,2)) else (B,1))=_; rw [if_neg hK]);have hK2:(x.K != kindN kd)=true:=by simpa using hK
   have HBE:=hide b0S;clear hk b0S kb kS bS;go_wp2;exact bodyPost_ret (v:=.int .i64 1) (by simp [results,Tryz.results72,go_sem, *]) rfl ⟨by rw [HCODE.out],ra,rn,rc,ua,uc,cl,by rw [HCODE.out]; exact HC.out.below HBE.out,by omega,HBE.out.mono HBL.out,Stays.of_below HBE.out⟩
end

end

theorem zg1 {w:World} {base X:Nat} {a:Option Addr} {n c:Nat} {fa:Option Addr} {fn fc:Nat} {ra:Option Addr} {rn rc:Nat} {oa:Option Addr} {on oc:Nat} {B:BR} (h:BrOwn w base a n c fa fn fc ra rn rc oa on oc B) (hX:base≤X)
  (hb:w.heap[X]? = some (.cells #[.slice a n c,.int .i64 B.id,.string B.name,.slice none 0 0,.slice fa fn fc,.slice ra rn rc,.slice oa on oc,.int .i64 B.ticks,.int .i64 B.parse,.int .i64 B.word,.int .i64 B.drops,.int .i64 B.vers,.slice none 0 0] 103)):Chg w w base X a n c fa fn fc ra rn rc oa on oc B none 0 []:=by
 refine ⟨⟨hb,h,hX⟩,World.ownsRow_nil _ _ _ _,(by intro x hx; cases hx),zjc hb rfl (Nat.le_refl _),(Array.getElem?_eq_some_iff.1 hb).1, ?_, ?_⟩
 ·intro b e;exact (h.ports.lt b (by rw [e]; rfl)).2
 ·intro b e;exact (h.v.own.lt b (by rw [e]; rfl)).2

theorem zdF (a:Option Addr) (n c:Nat) (fa:Option Addr) (fn fc:Nat) (ra:Option Addr) (rn rc:Nat) (oa:Option Addr) (on oc:Nat) (B:BR) (x:BD) (za:Option Addr) (zn zc:Nat) (ya:Option Addr) (yn yc:Nat) (w:World) (h:BrRow w a n c fa fn fc ra rn rc oa on oc B) (hn:n≤1048576) (hfn:fn≤1048576) (hrn:rn≤1048576) (hon:on≤1048576) (hR:∀r∈B.v.rows,r.Rng) (hz:IRow w za zn zc x.o) (hNI:I64 x.N) (hSS:x.S.size≤16777216) :
  Calls Tryz.prog 24 #[.agg #[.int .i64 B.id,.string B.name,.slice a n c,.slice fa fn fc,.slice ra rn rc,.slice oa on oc,.int .i64 B.ticks,.int .i64 B.parse,.int .i64 B.word,.int .i64 B.drops,.int .i64 B.vers],.agg #[.slice za zn zc,.int .i64 x.K,.int .i64 x.N,.string x.S,.slice ya yn yc]] w fun e w'=>∃(a2:Option Addr) (n2 c2:Nat) (fa2:Option Addr) (fn2 fc2:Nat) (ra2:Option Addr) (rn2 rc2:Nat) (oa2:Option Addr) (on2 oc2:Nat),e=.returned (.tuple #[.agg #[.int .i64 (zaR B x).1.id,.string (zaR B x).1.name,.slice a2 n2 c2,.slice fa2 fn2 fc2,.slice ra2 rn2 rc2,.slice oa2 on2 oc2,.int .i64 (zaR B x).1.ticks,.int .i64 (zaR B x).1.parse,.int .i64 (zaR B x).1.word,.int .i64 (zaR B x).1.drops,.int .i64 (zaR B x).1.vers],.int .i64 (zaR B x).2])∧BrOwn w' w.heap.size a2 n2 c2 fa2 fn2 fc2 ra2 rn2 rc2 oa2 on2 oc2 (zaR B x).1∧Below w.heap.size w w':=by
 have HH:=hide h;have HZ:=hide hz;have HNI:=hide hNI;have HSS:=hide hSS;have HR:=hide hR;generalize hw1:w.alloc (Obj.cells #[.int .i64 B.id,.string B.name,.slice a n c,.slice fa fn fc,.slice ra rn rc,.slice oa on oc,.int .i64 B.ticks,.int .i64 B.parse,.int .i64 B.word,.int .i64 B.drops,.int .i64 B.vers] 31)=w1;have b1:=zb hw1;have k1:=zk hw1;generalize hw2:w1.alloc (Obj.cells #[.slice za zn zc,.int .i64 x.K,.int .i64 x.N,.string x.S,.slice ya yn yc] 37)=w2;have b2:=zb hw2;have k2:=zk hw2;generalize hw3:w2.alloc (Obj.cells #[.int .i64 0,.string ⟨#[]⟩,.slice none 0 0,.slice none 0 0,.slice none 0 0,.slice none 0 0,.int .i64 0,.int .i64 0,.int .i64 0,.int .i64 0,.int .i64 0] 31)=w3;have b3:=zb hw3;have k3:=zk hw3;have b03:=zd (zd b1 b2) b3;have kA:=ze (ze k1 b2) b3;have kI:=ze k2 b3;have HS2:Hid (w.heap.size≤w2.heap.size):=hide (zd b1 b2).size;have HZ3:Hid (w2.heap.size < w3.heap.size):=hide (Array.getElem?_eq_some_iff.1 k3).1;obtain ⟨x0,x1,x2,x3,x4,x5,x6,x7,x8,x9,x10⟩:=zj kA;clear b1 b2 b3 k1 k2 h hz hNI hSS hR;go_enter Tryz.func24,Tryz.ntmps24;go_wp2_with fail
 try rw [hw3]
 clear hw1 hw2 hw3;refine (zd3 a n c fa fn fc ra rn rc oa on oc B _ (HH.out.below b03) (by omega) (by omega) (by omega) (by omega)).mono ?_;rintro e w4 ⟨a4,c4,fa4,fc4,ra4,rc4,oa4,oc4,rfl,own4,hb4⟩;generalize hw5:w4.alloc (Obj.cells #[.slice a4 n c4,.int .i64 B.id,.string B.name,.slice none 0 0,.slice fa4 fn fc4,.slice ra4 rn rc4,.slice oa4 on oc4,.int .i64 B.ticks,.int .i64 B.parse,.int .i64 B.word,.int .i64 B.drops,.int .i64 B.vers,.slice none 0 0] 103)=w5;have b5:=zb hw5;have k5:=zk hw5;have b35:=zd hb4 b5;have b05:=zd b03 b35;have HCG:=hide (zg1 ((own4.lt (base':=w.heap.size) b03.size).below b5) (Nat.le_trans b03.size hb4.size) k5);have kA5:=ze kA b35;have kI5:=ze kI b35;have kR5:=ze k3 b35;clear x0 x1 x2 x3 x4 x5 x6 x7 x8 x9 x10 own4 hb4 b5 k5 b35 kA kI k3;obtain ⟨x0,x1,x2,x3,x4,x5,x6,x7,x8,x9,x10⟩:=zj kA5;go_upto_region 2 with fail
 try rw [hw5]
 clear hw5;go_wp2_with fail
 refine (zb8 a n c fa fn fc ra rn rc oa on oc B _ (HH.out.below b05) (by omega) HR.out).mono ?_;rintro e w6 ⟨rfl,hb6⟩;have hcg:=HCG.out.below hb6;have b06:=zd b05 hb6;have kI6:=ze kI5 hb6;have kR6:=ze kR5 hb6;clear x0 x1 x2 x3 x4 x5 x6 x7 x8 x9 x10 hb6 b05 kA5 kI5 kR5;cases hok:zG B
 ·have HSO:Hid (zaR B x=(B,3)):=hide (by unfold zaR; rw [if_neg (by rw [hok]; decide)]);clear hok;obtain ⟨x0,x1,x2,x3,x4,x5,x6,x7,x8,x9,x10,x11,x12⟩:=zaD hcg.tr.box;(go_wp2_with fail);refine (zce a4 n c4 fa4 fn fc4 ra4 rn rc4 oa4 on oc4 B _).mono ?_;rintro e w7 ⟨rfl,hb7⟩;have HOW:=hide (hcg.tr.own.below hb7);have HB7:=hide (zd b06 hb7);have kR7:=ze kR6 hb7;clear x0 x1 x2 x3 x4 x5 x6 x7 x8 x9 x10 x11 x12 hb7 b06 hcg kI6 kR6;obtain ⟨y0,y1,y2,y3,y4,y5,y6,y7,y8,y9,y10⟩:=zj kR7;have fr:=zm kR7;have fr0:=fr 0;have fr1:=fr 1;have fr2:=fr 2;have fr3:=fr 3;have fr4:=fr 4;have fr5:=fr 5;have fr6:=fr 6;have fr7:=fr 7;have fr8:=fr 8;have fr9:=fr 9;have fr10:=fr 10;have HO:=hide (HOW.out.boxed11 kR7 (.int .i64 B.id) (.string B.name) (.slice a4 n c4) (.slice fa4 fn fc4) (.slice ra4 rn rc4) (.slice oa4 on oc4) (.int .i64 B.ticks) (.int .i64 B.parse) (.int .i64 B.word) (.int .i64 B.drops) (.int .i64 B.vers));have HBF:=hide (za3 HB7.out HS2.out (.int .i64 B.id) (.string B.name) (.slice a4 n c4) (.slice fa4 fn fc4) (.slice ra4 rn rc4) (.slice oa4 on oc4) (.int .i64 B.ticks) (.int .i64 B.parse) (.int .i64 B.word) (.int .i64 B.drops) (.int .i64 B.vers));clear fr kR7;go_wp2;exact bodyPost_ret (v:=.tuple #[.agg #[.int .i64 B.id,.string B.name,.slice a4 n c4,.slice fa4 fn fc4,.slice ra4 rn rc4,.slice oa4 on oc4,.int .i64 B.ticks,.int .i64 B.parse,.int .i64 B.word,.int .i64 B.drops,.int .i64 B.vers],.int .i64 3]) (by simp [results,Tryz.results24,go_sem, *]) rfl ⟨a4,n,c4,fa4,fn,fc4,ra4,rn,rc4,oa4,on,oc4,(by rw [HSO.out]),(by rw [HSO.out]; exact HO.out),HBF.out⟩
 ·have HSO:Hid (zaR B x=zbr B x):=hide (by unfold zaR; rw [if_pos hok]);have HMD:=hide (ziU hok);clear hok;obtain ⟨x0,x1,x2,x3,x4⟩:=zt kI6;(go_wp2_with fail);refine (ziL hcg HMD.out (Nat.zero_le _) x za zn zc ya yn yc (HZ.out.below b06) HNI.out HSS.out).mono ?_;rintro e w7 ⟨rfl,ra7,rn7,rc7,ua7,uc7,cl7,hcg7,-,hb7,hst7⟩;have hs7:=hcg7.tr.own;obtain ⟨cd,hcd⟩:∃cd,cd=(zbr B x).2:=⟨_,rfl⟩;obtain ⟨B7,hB7⟩:∃B7,B7=(zbr B x).1:=⟨_,rfl⟩;rw [← hcd];rw [← hB7] at hcg7;have HSO:Hid (zaR B x=(B7,cd)):=hide (by rw [HSO.out,hcd,hB7]);clear hcd hB7 hs7 x0 x1 x2 x3 x4;obtain ⟨x0,x1,x2,x3,x4,x5,x6,x7,x8,x9,x10,x11,x12⟩:=zaD hcg7.tr.box;have b07:Below w.heap.size w w7:=b06.trans hb7;(go_wp2_with fail);refine (zce a4 n c4 fa4 fn fc4 ra7 rn7 rc7 oa4 on oc4 B7 _).mono ?_;rintro e w8 ⟨rfl,hb8⟩;have HOW:=hide (hcg7.tr.own.below hb8);have HB7:=hide (b07.trans (hb8.mono b07.size));have kR7:=ze (hst7 _ _ _ kR6 (.inl rfl)) hb8;clear x0 x1 x2 x3 x4 x5 x6 x7 x8 x9 x10 x11 x12 hb8 b06 b07 hcg hcg7 kI6 kR6 hb7 hst7;obtain ⟨y0,y1,y2,y3,y4,y5,y6,y7,y8,y9,y10⟩:=zj kR7;have fr:=zm kR7;have fr0:=fr 0;have fr1:=fr 1;have fr2:=fr 2;have fr3:=fr 3;have fr4:=fr 4;have fr5:=fr 5;have fr6:=fr 6;have fr7:=fr 7;have fr8:=fr 8;have fr9:=fr 9;have fr10:=fr 10;have HO:=hide (HOW.out.boxed11 kR7 (.int .i64 B7.id) (.string B7.name) (.slice a4 n c4) (.slice fa4 fn fc4) (.slice ra7 rn7 rc7) (.slice oa4 on oc4) (.int .i64 B7.ticks) (.int .i64 B7.parse) (.int .i64 B7.word) (.int .i64 B7.drops) (.int .i64 B7.vers));have HBF:=hide (za3 HB7.out HS2.out (.int .i64 B7.id) (.string B7.name) (.slice a4 n c4) (.slice fa4 fn fc4) (.slice ra7 rn7 rc7) (.slice oa4 on oc4) (.int .i64 B7.ticks) (.int .i64 B7.parse) (.int .i64 B7.word) (.int .i64 B7.drops) (.int .i64 B7.vers));clear fr kR7;go_wp2;exact bodyPost_ret (v:=.tuple #[.agg #[.int .i64 B7.id,.string B7.name,.slice a4 n c4,.slice fa4 fn fc4,.slice ra7 rn7 rc7,.slice oa4 on oc4,.int .i64 B7.ticks,.int .i64 B7.parse,.int .i64 B7.word,.int .i64 B7.drops,.int .i64 B7.vers],.int .i64 cd]) (by simp [results,Tryz.results24,go_sem, *]) rfl ⟨a4,n,c4,fa4,fn,fc4,ra7,rn7,rc7,oa4,on,oc4,(by rw [HSO.out]),(by rw [HSO.out]; exact HO.out),HBF.out⟩

theorem zdE (a:Option Addr) (n c:Nat) (fa:Option Addr) (fn fc:Nat) (ra:Option Addr) (rn rc:Nat) (oa:Option Addr) (on oc:Nat) (B:BR) (ia:Option Addr) (il ic:Nat) (o:List Int) (w:World) (h:BrRow w a n c fa fn fc ra rn rc oa on oc B) (hfn:fn≤16777216) (hR:∀r∈B.v.rows,r.Rng) (hi:IRow w ia il ic o) :
  Calls Tryz.prog 21 #[.agg #[.int .i64 B.id,.string B.name,.slice a n c,.slice fa fn fc,.slice ra rn rc,.slice oa on oc,.int .i64 B.ticks,.int .i64 B.parse,.int .i64 B.word,.int .i64 B.drops,.int .i64 B.vers],.slice ia il ic] w fun e w'=>e=.returned (.agg #[.int .i64 (zbW (zal B) o).K,.int .i64 (zbW (zal B) o).N,.string (zbW (zal B) o).S,.slice none 0 0])∧Below w.heap.size w w':=by
 generalize hw1:w.alloc (Obj.cells #[.int .i64 B.id,.string B.name,.slice a n c,.slice fa fn fc,.slice ra rn rc,.slice oa on oc,.int .i64 B.ticks,.int .i64 B.parse,.int .i64 B.word,.int .i64 B.drops,.int .i64 B.vers] 31)=w1;have b1:=zb hw1;have k1:=zk hw1;generalize hwr:w1.alloc (Obj.cells #[.int .i64 0,.int .i64 0,.string ⟨#[]⟩,.slice none 0 0] 35)=w1r;have b1r:=zb hwr;have kr0:=zk hwr;have b0r:=zd b1 b1r;have HW1:=hide b1.size;obtain ⟨x0,x1,x2,x3,x4,x5,x6,x7,x8,x9,x10⟩:=zj (ze k1 b1r);go_enter Tryz.func21,Tryz.ntmps21;go_wp2_with fail
 refine (zdH a n c fa fn fc ra rn rc oa on oc B _ (h.below b0r) hfn hR).mono ?_;rintro e w2 ⟨ta,tc,l,rfl,hd,th,h2⟩;have b2:=zd b0r h2;have kr:=ze kr0 h2;have HBW:=hide b0r.size;clear x0 x1 x2 x3 x4 x5 x6 x7 x8 x9 x10 h k1 hw1 hwr h2 kr0 b1 b1r b0r;have HD:=hide hd;have HL:Hid (l.length≤100∧(zal B).length=l.length):=hide (by have h1:=congrArg List.length hd; rw [List.length_map] at h1; rw [h1]; exact ⟨zhh B,rfl⟩);have HAT:Hid (∀(i:Nat) x,l[i]? = some x→(zal B)[i]? = some x.d):=hide (fun i x hx=>by rw [← hd,List.getElem?_map,hx]; rfl);have hi2:=hi.below b2;clear hd;go_wp2_with fail
 go_loopw [6,10] (fun u6 vk wr=>∃(k:Nat),vk=.int .i64 (k:Int)∧k≤l.length∧(∀(i:Nat) y,i < k→(zal B)[i]? = some y→decide (y.o=o)=false)∧Below w2.heap.size w2 wr) (fun _ vk _=>102 - (intOf vk).toNat)
 case atStart=>exact ⟨0,rfl,Nat.zero_le _,(by intro i y hi; omega),Below.refl _ _⟩
 case round =>
  obtain ⟨k,rfl,hk,hno,hb⟩:=hrel;have hl100:=HL.out.1;have HNO:=hide hno;by_cases hkl:k < l.length
  ·have hkl':(k:Int) < (l.length:Int):=by omega
   have hk100:(k:Int)≤100:=by omega
   obtain ⟨x,xb,off,hx,hxa,c0,c1⟩:=th_at (th.row.below hb) k hkl;subst hxa;generalize hwz:wr.alloc (Obj.cells #[.slice none 0 0,.nilFunc] 91)=wz;have bz:=zb hwz;have kz:=zk hwz;obtain ⟨⟨p0,p1⟩,f0,f1⟩:=zU kz;have d0:=(bz.cell (zu c0)).trans c0;have d1:=(bz.cell (zu c1)).trans c1;have HX:=hide (HAT.out k x hx);have HM:=hide (List.mem_of_getElem? hx);have HB:=hide hb;clear hx hno hb;(go_upto_region 4 with fail);clear p0 p1 f0 f1 c0 c1 d0 d1 hwz;refine zhf kz _ _ (fun ws ks gs => ?_);have bs:Below wr.heap.size wr ws:=bz.grown gs bz.size (fun b hb2=>by cases hb2; exact Nat.le_refl _);obtain ⟨⟨p0,p1⟩,-⟩:=zU ks;clear bz kz gs;have HBS:=hide (zd HB.out bs);have hnm:=zV ((th.names.below HBS.out).item x HM.out) (th.names.i64 x HM.out);(go_wp2_with fail);refine (zbn _ _ _ x.d.o ia il ic o _ hnm (hi2.below HBS.out)).mono ?_;rintro e w5 ⟨rfl,nd,rfl⟩;have h5:Below ws.heap.size ws (ws.drewN nd):=zap (Below.refl _ _) nd;have ks5:=ze ks h5;have HB5:=hide (zd HBS.out h5);generalize ws.drewN nd=w5 at *;clear p0 p1 ks h5 bs hnm;obtain ⟨⟨p0,p1⟩,-⟩:=zU ks5;cases hq:decide (x.d.o=o)
   ·have HNO2:=hide (zg6 (p:=fun d:BD=>decide (d.o=o)) HNO.out HX.out hq);clear hq;go_wp2
    go_roundw
    case rel=>exact ⟨k+1,by go_num,by omega,HNO2.out,HB5.out⟩
    case measure=>simp [intOf]; omega
   ·have HG:=hide (zid HNO.out HX.out hq);clear hq;(go_wp2_with fail);refine (th.gives x HM.out _ HB5.out).mono ?_;rintro e w6 ⟨rfl,h6⟩;have hb6:=zd HB5.out h6;obtain ⟨⟨q0,q1,q2,q3⟩,f0,f1,f2,f3⟩:=zah (ze kr hb6);have HB6:=hide (zd b2 hb6);clear p0 p1 ks5 h6 hb6 kr;go_wp2;refine bodyPost_ret (v:=.agg #[.int .i64 x.d.K,.int .i64 x.d.N,.string x.d.S,.slice none 0 0]) (by simp [results,Tryz.results21,go_sem, *]) rfl ⟨(by rw [HG.out]),zam HB6.out HW1.out _ _ _ _⟩
  ·have hkl':¬(k:Int) < (l.length:Int):=by omega
   have hke:k=l.length:=by omega
   have HG:=hide (zf0 (fun i y hi hy=>HNO.out i y (by have:=HL.out.2; omega) hy));obtain ⟨⟨q0,q1,q2,q3⟩,f0,f1,f2,f3⟩:=zah (ze kr hb);have HB6:=hide (zd b2 hb);clear hno hb kr hke;go_wp2;refine bodyPost_ret (v:=.agg #[.int .i64 128,.int .i64 0,.string ⟨#[]⟩,.slice none 0 0]) (by simp [results,Tryz.results21,go_sem, *]) rfl ⟨(by rw [HG.out]),zam HB6.out HW1.out _ _ _ _⟩

end Go.Proofs.YtcpdkcdfnpcemaaGreat
