/-
  Packed: MibThings MibImplG MibImplL MibImplN.
-/
import Derived.Test.YtcpdkcdfnpcemabGreatPGBrOkI
namespace Go.Proofs.YtcpdkcdfnpcemabGreat
set_option maxRecDepth 100000
set_option maxHeartbeats 16000000
open Go.RowKit

theorem zeY (w:World) (base:Nat):Things w base none 0 []:=⟨zeA thF w,zfC w base,(by intro x hx; cases hx),(by intro x hx; cases hx)⟩

theorem zds (a:Option Addr) (n c:Nat) (fa:Option Addr) (fn fc:Nat) (ra:Option Addr) (rn rc:Nat) (oa:Option Addr) (on oc:Nat) (B:BR) (w:World) (h:BrRow w a n c fa fn fc ra rn rc oa on oc B) (hok:MbOk B) (hnm:B.name.size≤maxLen) :
  Calls Tryz.prog 83 #[.agg #[.int .i64 B.id,.string B.name,.slice a n c,.slice fa fn fc,.slice ra rn rc,.slice oa on oc,.int .i64 B.ticks,.int .i64 B.parse,.int .i64 B.word,.int .i64 B.drops,.int .i64 B.vers]] w fun e w'=>∃(ao:Option Addr) (cap:Nat) (l:List TH),e=.returned (.slice ao l.length cap)∧l.map TH.d=zbk B∧Things w' w.heap.size ao cap l∧Below w.heap.size w w':=by
 generalize hw1:w.alloc (Obj.cells #[.int .i64 B.id,.string B.name,.slice a n c,.slice fa fn fc,.slice ra rn rc,.slice oa on oc,.int .i64 B.ticks,.int .i64 B.parse,.int .i64 B.word,.int .i64 B.drops,.int .i64 B.vers] 40)=w2;have b2:=zb hw1;have k2:=zk hw1;have HH:=hide h;have HOK:=hide hok;have HNM:=hide hnm;clear h hok hnm;go_enter Tryz.func83,Tryz.ntmps83;obtain ⟨x0,x1,x2,x3,x4,x5,x6,x7,x8,x9,x10⟩:=zh k2;go_upto_region 1 with fail
 try rw [hw1]
 clear x0 x1 x2 x3 x4 x5 x6 x7 x8 x9 x10 hw1;have vv:Below w2.heap.size w2 w2.drew:=zR (Below.refl _ _);refine wp_region_held_drew (S:=(fun W=>(zcc W w.heap.size 0 (.int .i64 B.id)∧zcc W w.heap.size 1 (.string B.name)∧zcc W w.heap.size 2 (.slice a n c)∧zcc W w.heap.size 3 (.slice fa fn fc)∧zcc W w.heap.size 4 (.slice ra rn rc)∧zcc W w.heap.size 5 (.slice oa on oc)∧zcc W w.heap.size 6 (.int .i64 B.ticks)∧zcc W w.heap.size 7 (.int .i64 B.parse)∧zcc W w.heap.size 8 (.int .i64 B.word)∧zcc W w.heap.size 9 (.int .i64 B.drops)∧zcc W w.heap.size 10 (.int .i64 B.vers)))) (by kernel_rfl) (zh (zd k2 vv)) (fun hHeld => ?_);refine kK 0 ?_;refine kK 2 ?_;refine kK 4 ?_;refine kK 6 ?_;refine kR 1 fun K hK => ?_
 go_simp;clear hHeld;refine (zdu a n c fa fn fc ra rn rc oa on oc B _ (HH.out.below (ze b2 vv)) HNM.out).mono ?_;rintro e z1 ⟨o1,p1,l1,rfl,d1,t1,h1⟩;have q1:=t1.names;have vv:=ze vv h1;have HD1:=hide d1;clear d1;go_wp2_with fail
 refine kO hK (zh (zd k2 vv)) fun hHeld => ?_
 clear hK K;refine kR 3 fun K hK => ?_
 go_simp;clear hHeld;refine (zcG a n c fa fn fc ra rn rc oa on oc B _ (HH.out.below (ze b2 vv)) HOK.out).mono ?_;rintro e z2 ⟨o2,p2,l2,rfl,d2,t2,h2⟩;have q2:=q1.append h2 t2.names (Nat.le_refl _) h1.size;have t1:=t1.below h2;have vv:=ze vv h2;have HD2:=hide d2;clear d2;go_wp2_with fail
 refine kO hK (zh (zd k2 vv)) fun hHeld => ?_
 clear hK K;refine kR 5 fun K hK => ?_
 go_simp;clear hHeld;refine (zc2 a n c fa fn fc ra rn rc oa on oc B _ (HH.out.below (ze b2 vv)) HOK.out).mono ?_;rintro e z3 ⟨o3,p3,l3,rfl,d3,t3,h3⟩;have q3:=q2.append h3 t3.names (Nat.le_refl _) (ze h1 h2).size;have t1:=t1.below h3;have t2:=t2.below h3;have vv:=ze vv h3;have HD3:=hide d3;clear d3;go_wp2_with fail
 refine kO hK (zh (zd k2 vv)) fun hHeld => ?_
 clear hK K;refine kR 7 fun K hK => ?_
 go_simp;clear hHeld;refine (zc0 a n c fa fn fc ra rn rc oa on oc B _ (HH.out.below (ze b2 vv)) HOK.out).mono ?_;rintro e z4 ⟨o4,p4,l4,rfl,d4,t4,h4⟩;have q4:=q3.append h4 t4.names (Nat.le_refl _) (ze (ze h1 h2) h3).size;have t1:=t1.below h4;have t2:=t2.below h4;have t3:=t3.below h4;have vv:=ze vv h4;have HD4:=hide d4;clear d4;go_wp2_with fail
 refine kO hK (zh (zd k2 vv)) fun hHeld => ?_
 clear hK K;refine kR 8 fun K hK => ?_
 go_simp;clear hHeld
 first
 | refine zbo (K:=K _) (fun wx kI hbx => ?_)
 | refine za0 (K:=K _) (fun wx kI hbx => ?_)
 have q4:=q4.below hbx;have t1:=t1.below hbx;have t2:=t2.below hbx;have t3:=t3.below hbx;have t4:=t4.below hbx;have vv:=ze vv hbx;clear hbx;refine kO hK (zh (zd k2 vv)) fun hHeld => ?_
 clear hK K;refine kR 9 fun K hK => ?_
 go_simp;clear hHeld;have HL:Hid ((l1++l2++l3++l4).map TH.d=zbk B):=hide (by
  rw [List.map_append,List.map_append,List.map_append,HD1.out,HD2.out,HD3.out,HD4.out];unfold zbk
  rfl)
 have hlen:l1.length+l2.length+l3.length+l4.length≤100:=by
  have h5:=congrArg List.length HL.out;have h6:=zeB HOK.out;simp only [List.length_map,List.length_append] at h5;omega
 have hl5:l1.length=5:=by
  have h5:=congrArg List.length HD1.out;rw [List.length_map] at h5;exact h5
 have hsum:sumS [⟨o1,l1.length,p1,l1⟩,⟨o2,l2.length,p2,l2⟩,⟨o3,l3.length,p3,l3⟩,⟨o4,l4.length,p4,l4⟩] 4=l1.length+l2.length+l3.length+l4.length:=by
  show 0+l1.length+l2.length+l3.length+l4.length=_
  omega
 have hcat:catS [⟨o1,l1.length,p1,l1⟩,⟨o2,l2.length,p2,l2⟩,⟨o3,l3.length,p3,l3⟩,⟨o4,l4.length,p4,l4⟩] 4=l1++l2++l3++l4:=by
  show []++l1++l2++l3++l4=_
  rw [List.nil_append]
 have hg:=zT (F:=slF) (zab slF (base:=0) (l:=[⟨o1,l1.length,p1,l1⟩,⟨o2,l2.length,p2,l2⟩,⟨o3,l3.length,p3,l3⟩,⟨o4,l4.length,p4,l4⟩]) kI rfl (Nat.zero_le _) (by simp));have HSUM:=hide hsum;have hcc:=zcX _ 4 [⟨o1,l1.length,p1,l1⟩,⟨o2,l2.length,p2,l2⟩,⟨o3,l3.length,p3,l3⟩,⟨o4,l4.length,p4,l4⟩] _ hg (by
  intro x hx;simp only [List.mem_cons,List.not_mem_nil,or_false] at hx;rcases hx with rfl | rfl | rfl | rfl
  ·exact t1.row
  ·exact t2.row
  ·exact t3.row
  ·exact t4.row) (by rw [hsum]; omega) (by rw [hsum]; omega) (by omega)
 rw [hsum,hcat] at hcc;clear hsum hl5;refine hcc.mono ?_;rintro e z5 ⟨o5,p5,rfl,r5,h5⟩;have q5:=q4.below h5;have t1:=t1.below h5;have t2:=t2.below h5;have t3:=t3.below h5;have t4:=t4.below h5;have vv:=ze vv h5;clear hcc h5 hg kI hcat;go_wp2_with fail
 refine kO hK (zh (zd k2 vv)) fun hHeld => ?_
 clear hK K;refine kK 10 ?_;refine wpAnyH_done (by kernel_rfl) ?_ _;have HTH:Hid (Things z5 w.heap.size o5 p5 (l1++l2++l3++l4)):=hide (by
  have hll:(l1++l2++l3++l4).length=l1.length+l2.length+l3.length+l4.length:=by simp only [List.length_append]
  have hm:∀x∈l1++l2++l3++l4,x∈l1∨x∈l2∨x∈l3∨x∈l4:=by
   intro x hx;simp only [List.mem_append] at hx;rcases hx with ((hx | hx) | hx) | hx
   ·exact .inl hx
   ·exact .inr (.inl hx)
   ·exact .inr (.inr (.inl hx))
   ·exact .inr (.inr (.inr hx))
  refine ⟨by rw [hll]; exact r5,q5.lt b2.size, ?_, ?_⟩
  ·intro x hx;rcases hm x hx with hx | hx | hx | hx
   ·exact t1.gives x hx
   ·exact t2.gives x hx
   ·exact t3.gives x hx
   ·exact t4.gives x hx
  ·intro x hx;rcases hm x hx with hx | hx | hx | hx
   ·exact t1.nil x hx
   ·exact t2.nil x hx
   ·exact t3.nil x hx
   ·exact t4.nil x hx)
 have HB:=hide (ze b2 vv);have HLL:Hid ((l1++l2++l3++l4).length=l1.length+l2.length+l3.length+l4.length):=hide (by simp only [List.length_append]);clear hHeld vv k2 b2 q5 q4 t1 t2 t3 t4 r5 hlen;go_wp2;go_ret;exact ⟨o5,p5,l1++l2++l3++l4,(by show Ending.returned (.slice o5 (l1.length+l2.length+l3.length+l4.length) p5)=_; rw [HLL.out]),HL.out,HTH.out,HB.out⟩

theorem zbi (a:Option Addr) (n c:Nat) (fa:Option Addr) (fn fc:Nat) (ra:Option Addr) (rn rc:Nat) (oa:Option Addr) (on oc:Nat) (B:BR) (w:World) (h:BrRow w a n c fa fn fc ra rn rc oa on oc B) (hfn:fn≤16777216) (hR:∀r∈B.v.rows,r.Rng) :
  Calls Tryz.prog 43 #[.agg #[.int .i64 B.id,.string B.name,.slice a n c,.slice fa fn fc,.slice ra rn rc,.slice oa on oc,.int .i64 B.ticks,.int .i64 B.parse,.int .i64 B.word,.int .i64 B.drops,.int .i64 B.vers]] w fun e w'=>∃(ao:Option Addr) (cap:Nat) (l:List TH),e=.returned (.slice ao l.length cap)∧l.map TH.d=zw B∧Things w' w.heap.size ao cap l∧Below w.heap.size w w':=by
 generalize hw1:w.alloc (Obj.cells #[.int .i64 B.id,.string B.name,.slice a n c,.slice fa fn fc,.slice ra rn rc,.slice oa on oc,.int .i64 B.ticks,.int .i64 B.parse,.int .i64 B.word,.int .i64 B.drops,.int .i64 B.vers] 40)=w1;have b1:=zb hw1;have k1:=zk hw1;have HH:=hide h;obtain ⟨x0,x1,x2,x3,x4,x5,x6,x7,x8,x9,x10⟩:=zh k1;go_enter Tryz.func43,Tryz.ntmps43;go_wp2_with fail
 refine (zb6 a n c fa fn fc ra rn rc oa on oc B _ (h.below b1) hfn hR).mono ?_;rintro e w2 ⟨rfl,hb2⟩;have k2:=zd k1 hb2;have b2:=ze b1 hb2;clear hb2 k1 b1 x0 x1 x2 x3 x4 x5 x6 x7 x8 x9 x10 h hw1;cases hok:zx B
 ·have HM:Hid (zw B=[]):=hide (by unfold zw; rw [if_neg (by rw [hok]; decide)]);have HB:=hide b2;clear hok k2 b2;go_wp2;go_ret;exact ⟨none,0,[],rfl,HM.out.symm,zeY _ _,HB.out⟩
 ·have HM:Hid (zw B=zbk B):=hide (by unfold zw; rw [if_pos hok]);have HOK:=hide (mb_ok hok);have HNM:Hid (B.name.size≤maxLen):=hide (by have:=(zay hok).2.2.1; unfold maxLen; omega);have HB:=hide b2;clear hok b2;obtain ⟨x0,x1,x2,x3,x4,x5,x6,x7,x8,x9,x10⟩:=zh k2;(go_wp2_with fail);refine (zds a n c fa fn fc ra rn rc oa on oc B _ (HH.out.below HB.out) HOK.out HNM.out).mono ?_;rintro e w3 ⟨ao,cap,l,rfl,hd,ht,h3⟩;have HD:=hide hd;have HT:=hide ht;have HB3:=hide h3;clear hd ht h3 k2 x0 x1 x2 x3 x4 x5 x6 x7 x8 x9 x10;go_wp2;go_ret;have ht:=HT.out;exact ⟨ao,cap,l,rfl,by rw [HD.out,HM.out],⟨ht.row,ht.names.lt HB.out.size,ht.gives,ht.nil⟩,ze HB.out HB3.out⟩

theorem zbh (a:Option Addr) (n c:Nat) (fa:Option Addr) (fn fc:Nat) (ra:Option Addr) (rn rc:Nat) (oa:Option Addr) (on oc:Nat) (B:BR) (ia:Option Addr) (il ic:Nat) (o:List Int) (w:World) (h:BrRow w a n c fa fn fc ra rn rc oa on oc B) (hfn:fn≤16777216) (hR:∀r∈B.v.rows,r.Rng) (hi:IRow w ia il ic o) :
  Calls Tryz.prog 11 #[.agg #[.int .i64 B.id,.string B.name,.slice a n c,.slice fa fn fc,.slice ra rn rc,.slice oa on oc,.int .i64 B.ticks,.int .i64 B.parse,.int .i64 B.word,.int .i64 B.drops,.int .i64 B.vers],.slice ia il ic] w fun e w'=>e=.returned (.agg #[.int .i64 (zbl (zw B) o).K,.int .i64 (zbl (zw B) o).N,.string (zbl (zw B) o).S,.slice none 0 0])∧Below w.heap.size w w':=by
 generalize hw1:w.alloc (Obj.cells #[.int .i64 B.id,.string B.name,.slice a n c,.slice fa fn fc,.slice ra rn rc,.slice oa on oc,.int .i64 B.ticks,.int .i64 B.parse,.int .i64 B.word,.int .i64 B.drops,.int .i64 B.vers] 40)=w1;have b1:=zb hw1;have k1:=zk hw1;generalize hwr:w1.alloc (Obj.cells #[.int .i64 0,.int .i64 0,.string ⟨#[]⟩,.slice none 0 0] 32)=w1r;have b1r:=zb hwr;have kr0:=zk hwr;have b0r:=ze b1 b1r;have HW1:=hide b1.size;obtain ⟨x0,x1,x2,x3,x4,x5,x6,x7,x8,x9,x10⟩:=zh (zd k1 b1r);go_enter Tryz.func11,Tryz.ntmps11;go_wp2_with fail
 refine (zbi a n c fa fn fc ra rn rc oa on oc B _ (h.below b0r) hfn hR).mono ?_;rintro e w2 ⟨ta,tc,l,rfl,hd,th,h2⟩;have b2:=ze b0r h2;have kr:=zd kr0 h2;have HBW:=hide b0r.size;clear x0 x1 x2 x3 x4 x5 x6 x7 x8 x9 x10 h k1 hw1 hwr h2 kr0 b1 b1r b0r;have HD:=hide hd;have HL:Hid (l.length≤100∧(zw B).length=l.length):=hide (by have h1:=congrArg List.length hd; rw [List.length_map] at h1; rw [h1]; exact ⟨zdb B,rfl⟩);have HAT:Hid (∀(i:Nat) x,l[i]? = some x→(zw B)[i]? = some x.d):=hide (fun i x hx=>by rw [← hd,List.getElem?_map,hx]; rfl);have hi2:=hi.below b2;clear hd;go_wp2_with fail
 go_loopw [6,10] (fun u6 vk wr=>∃(k:Nat),vk=.int .i64 (k:Int)∧k≤l.length∧(∀(i:Nat) y,i < k→(zw B)[i]? = some y→decide (y.o=o)=false)∧Below w2.heap.size w2 wr) (fun _ vk _=>102 - (intOf vk).toNat)
 case atStart=>exact ⟨0,rfl,Nat.zero_le _,(by intro i y hi; omega),Below.refl _ _⟩
 case round =>
  obtain ⟨k,rfl,hk,hno,hb⟩:=hrel;have hl100:=HL.out.1;have HNO:=hide hno;by_cases hkl:k < l.length
  ·have hkl':(k:Int) < (l.length:Int):=by omega
   have hk100:(k:Int)≤100:=by omega
   obtain ⟨x,xb,off,hx,hxa,c0,c1⟩:=th_at (th.row.below hb) k hkl;subst hxa;generalize hwz:wr.alloc (Obj.cells #[.slice none 0 0,.nilFunc] 83)=wz;have bz:=zb hwz;have kz:=zk hwz;obtain ⟨⟨p0,p1⟩,f0,f1⟩:=zau kz;have d0:=(bz.cell (zj c0)).trans c0;have d1:=(bz.cell (zj c1)).trans c1;have HX:=hide (HAT.out k x hx);have HM:=hide (List.mem_of_getElem? hx);have HB:=hide hb;clear hx hno hb;(go_upto_region 4 with fail);clear p0 p1 f0 f1 c0 c1 d0 d1 hwz;refine zdy kz _ _ (fun ws ks gs => ?_);have bs:Below wr.heap.size wr ws:=bz.grown gs bz.size (fun b hb2=>by cases hb2; exact Nat.le_refl _);obtain ⟨⟨p0,p1⟩,-⟩:=zau ks;clear bz kz gs;have HBS:=hide (ze HB.out bs);have hnm:=zO ((th.names.below HBS.out).item x HM.out) (th.names.i64 x HM.out);(go_wp2_with fail);refine (zdx _ _ _ x.d.o ia il ic o _ hnm (hi2.below HBS.out)).mono ?_;rintro e w5 ⟨rfl,nd,rfl⟩;have h5:Below ws.heap.size ws (ws.drewN nd):=zU (Below.refl _ _) nd;have ks5:=zd ks h5;have HB5:=hide (ze HBS.out h5);generalize ws.drewN nd=w5 at *;clear p0 p1 ks h5 bs hnm;obtain ⟨⟨p0,p1⟩,-⟩:=zau ks5;cases hq:decide (x.d.o=o)
   ·have HNO2:=hide (zbF (p:=fun d:BD=>decide (d.o=o)) HNO.out HX.out hq);clear hq;go_wp2
    go_roundw
    case rel=>exact ⟨k+1,by go_num,by omega,HNO2.out,HB5.out⟩
    case measure=>simp [intOf]; omega
   ·have HG:=hide (zex HNO.out HX.out hq);clear hq;(go_wp2_with fail);refine (th.gives x HM.out _ HB5.out).mono ?_;rintro e w6 ⟨rfl,h6⟩;have hb6:=ze HB5.out h6;obtain ⟨⟨q0,q1,q2,q3⟩,f0,f1,f2,f3⟩:=zK (zd kr hb6);have HB6:=hide (ze b2 hb6);clear p0 p1 ks5 h6 hb6 kr;go_wp2;refine bodyPost_ret (v:=.agg #[.int .i64 x.d.K,.int .i64 x.d.N,.string x.d.S,.slice none 0 0]) (by simp [results,Tryz.results11,go_sem, *]) rfl ⟨(by rw [HG.out]),zJ HB6.out HW1.out _ _ _ _⟩
  ·have hkl':¬(k:Int) < (l.length:Int):=by omega
   have hke:k=l.length:=by omega
   have HG:=hide (zey (fun i y hi hy=>HNO.out i y (by have:=HL.out.2; omega) hy));obtain ⟨⟨q0,q1,q2,q3⟩,f0,f1,f2,f3⟩:=zK (zd kr hb);have HB6:=hide (ze b2 hb);clear hno hb kr hke;go_wp2;refine bodyPost_ret (v:=.agg #[.int .i64 128,.int .i64 0,.string ⟨#[]⟩,.slice none 0 0]) (by simp [results,Tryz.results11,go_sem, *]) rfl ⟨(by rw [HG.out]),zJ HB6.out HW1.out _ _ _ _⟩

def TH.bi (x:TH):BI:=⟨x.oa,x.on,x.oc,x.d.o,x.d.K,x.d.N,x.d.S,none,0,0,[]⟩

theorem TH.bi_d {x:TH} (h:x.d.z=[]):x.bi.d=x.d:=by
 show (⟨x.d.o,x.d.K,x.d.N,x.d.S,[]⟩:BD)=x.d
 rw [← h]

theorem Things.own {w:World} {base:Nat} {ao:Option Addr} {cap:Nat} {l:List TH} (h:Things w base ao cap l) {x:TH} (hx:x∈l):BOwn w base x.bi :=
 ⟨h.names.item x hx,World.ownsRow_nil _ _ _ _,h.names.i64 x hx,(by intro z hz; cases hz),(h.nil x hx).2.1⟩

theorem zbb (a:Option Addr) (n c:Nat) (fa:Option Addr) (fn fc:Nat) (ra:Option Addr) (rn rc:Nat) (oa:Option Addr) (on oc:Nat) (B:BR) (ia:Option Addr) (il ic:Nat) (o:List Int) (w:World) (h:BrRow w a n c fa fn fc ra rn rc oa on oc B) (hfn:fn≤16777216) (hR:∀r∈B.v.rows,r.Rng) (hi:IRow w ia il ic o) (hil:il≤16777216) :
  Calls Tryz.prog 20 #[.agg #[.int .i64 B.id,.string B.name,.slice a n c,.slice fa fn fc,.slice ra rn rc,.slice oa on oc,.int .i64 B.ticks,.int .i64 B.parse,.int .i64 B.word,.int .i64 B.drops,.int .i64 B.vers],.slice ia il ic] w fun e w'=>∃(na:Option Addr) (nl nc:Nat) (no:List Int) (nK nN:Int) (nS:ByteArray),e=.returned (.agg #[.slice na nl nc,.int .i64 nK,.int .i64 nN,.string nS,.slice none 0 0])∧(⟨no,nK,nN,nS,[]⟩:BD)=za7 (zw B) o∧BOwn w' w.heap.size ⟨na,nl,nc,no,nK,nN,nS,none,0,0,[]⟩∧Below w.heap.size w w':=by
 generalize hw1:w.alloc (Obj.cells #[.int .i64 B.id,.string B.name,.slice a n c,.slice fa fn fc,.slice ra rn rc,.slice oa on oc,.int .i64 B.ticks,.int .i64 B.parse,.int .i64 B.word,.int .i64 B.drops,.int .i64 B.vers] 40)=w1;have b1:=zb hw1;have k1:=zk hw1;generalize hwr:w1.alloc (Obj.cells #[.slice none 0 0,.int .i64 0,.int .i64 0,.string ⟨#[]⟩,.slice none 0 0] 51)=w1r;have b1r:=zb hwr;have kr0:=zk hwr;have b0r:=ze b1 b1r;have HW1:=hide b1.size;obtain ⟨x0,x1,x2,x3,x4,x5,x6,x7,x8,x9,x10⟩:=zh (zd k1 b1r);go_enter Tryz.func20,Tryz.ntmps20;go_wp2_with fail
 refine (zbi a n c fa fn fc ra rn rc oa on oc B _ (h.below b0r) hfn hR).mono ?_;rintro e w2 ⟨ta,tc,l,rfl,hd,th,h2⟩;have b2:=ze b0r h2;have kr:=zd kr0 h2;have HBW:=hide b0r.size;clear x0 x1 x2 x3 x4 x5 x6 x7 x8 x9 x10 h k1 hw1 hwr h2 kr0 b1 b1r b0r;have HD:=hide hd;have HL:Hid (l.length≤100∧(zw B).length=l.length):=hide (by have h1:=congrArg List.length hd; rw [List.length_map] at h1; rw [h1]; exact ⟨zdb B,rfl⟩);have HAT:Hid (∀(i:Nat) x,l[i]? = some x→(zw B)[i]? = some x.d):=hide (fun i x hx=>by rw [← hd,List.getElem?_map,hx]; rfl);have hi2:=hi.below b2;clear hd;go_wp2_with fail
 go_loopw [6,10] (fun u6 vk wr=>∃(k:Nat),vk=.int .i64 (k:Int)∧k≤l.length∧(∀(i:Nat) y,i < k→(zw B)[i]? = some y→lessL o y.o=false)∧Below w2.heap.size w2 wr) (fun _ vk _=>102 - (intOf vk).toNat)
 case atStart=>exact ⟨0,rfl,Nat.zero_le _,(by intro i y hi; omega),Below.refl _ _⟩
 case round =>
  obtain ⟨k,rfl,hk,hno,hb⟩:=hrel;have hl100:=HL.out.1;have HNO:=hide hno;by_cases hkl:k < l.length
  ·have hkl':(k:Int) < (l.length:Int):=by omega
   have hk100:(k:Int)≤100:=by omega
   obtain ⟨x,xb,off,hx,hxa,c0,c1⟩:=th_at (th.row.below hb) k hkl;subst hxa;generalize hwz:wr.alloc (Obj.cells #[.slice none 0 0,.nilFunc] 83)=wz;have bz:=zb hwz;have kz:=zk hwz;obtain ⟨⟨p0,p1⟩,f0,f1⟩:=zau kz;have d0:=(bz.cell (zj c0)).trans c0;have d1:=(bz.cell (zj c1)).trans c1;have HX:=hide (HAT.out k x hx);have HM:=hide (List.mem_of_getElem? hx);have HB:=hide hb;clear hx hno hb;(go_upto_region 4 with fail);clear p0 p1 f0 f1 c0 c1 d0 d1 hwz;refine zdy kz _ _ (fun ws ks gs => ?_);have bs:Below wr.heap.size wr ws:=bz.grown gs bz.size (fun b hb2=>by cases hb2; exact Nat.le_refl _);obtain ⟨⟨p0,p1⟩,-⟩:=zau ks;clear bz kz gs;have HBS:=hide (ze HB.out bs);have hnm:=zO ((th.names.below HBS.out).item x HM.out) (th.names.i64 x HM.out);(go_wp2_with fail);refine (zdt ia il ic o _ _ _ x.d.o _ (hi2.below HBS.out) hnm).mono ?_;rintro e w5 ⟨rfl,ew⟩;obtain rfl:=ew.symm;clear hnm;cases hq:lessL o x.d.o
   ·have HNO2:=hide (zbF (p:=fun d:BD=>lessL o d.o) HNO.out HX.out hq);clear hq p0 p1 ks bs;go_wp2
    go_roundw
    case rel=>exact ⟨k+1,by go_num,by omega,HNO2.out,HBS.out⟩
    case measure=>simp [intOf]; omega
   ·have HG:=hide (zdD HNO.out HX.out hq);clear hq;(go_wp2_with fail);refine (zfP x _ ((th.gives x HM.out).below HBS.out)).mono ?_;rintro e w6 ⟨rfl,h6⟩;have hb6:=ze HBS.out h6;have kr6:=zd kr hb6;obtain ⟨⟨q0,q1,q2,q3,q4⟩,f0,f1,f2,f3,f4⟩:=zm kr6;have HT6:=hide (th.below hb6);have HKR:=hide kr6;have HB6:=hide (ze b2 hb6);clear p0 p1 ks bs h6 hb6 kr kr6;go_wp2;refine bodyPost_ret (v:=.agg #[.slice x.oa x.on x.oc,.int .i64 x.d.K,.int .i64 x.d.N,.string x.d.S,.slice none 0 0]) (by simp [results,Tryz.results20,go_sem, *]) rfl ?_;have gs:=za2 w6 w1.heap.size (.slice x.oa x.on x.oc) (.int .i64 x.d.K) (.int .i64 x.d.N) (.string x.d.S) (.slice none 0 0);have ho:=(HT6.out.own HM.out).lt HBW.out;exact ⟨x.oa,x.on,x.oc,x.d.o,x.d.K,x.d.N,x.d.S,rfl,(TH.bi_d (HT6.out.nil x HM.out).1).trans HG.out.symm,zcd ho HKR.out gs,HB6.out.grown gs HB6.out.size (fun b hb2=>by cases hb2; exact HW1.out)⟩
  ·have hkl':¬(k:Int) < (l.length:Int):=by omega
   have hke:k=l.length:=by omega
   have HG:=hide (zdE (fun i y hi hy=>HNO.out i y (by have:=HL.out.2; omega) hy));have HIB:=hide hi.byte;have hi3:=(hi2.below hb).flat;clear hke hno;(go_wp2_with fail);refine (zeP ia il ic o _ hi3 hil).mono ?_;rintro e w6 ⟨na,nc,rfl,ho,h6⟩;have hb6:=ze hb h6;have kr6:=zd kr hb6;obtain ⟨⟨q0,q1,q2,q3,q4⟩,f0,f1,f2,f3,f4⟩:=zm kr6;have HKR:=hide kr6;have HB6:=hide (ze b2 hb6);have HO:=hide ho;have HWR:=hide (Nat.le_trans b2.size hb.size);clear h6 hb6 kr kr6 hb ho;go_wp2;refine bodyPost_ret (v:=.agg #[.slice na il nc,.int .i64 130,.int .i64 0,.string ⟨#[]⟩,.slice none 0 0]) (by simp [results,Tryz.results20,go_sem, *]) rfl ?_;have gs:=za2 w6 w1.heap.size (.slice na il nc) (.int .i64 130) (.int .i64 0) (.string ⟨#[]⟩) (.slice none 0 0);have ho2:BOwn w6 w.heap.size ⟨na,il,nc,o,130,0,⟨#[]⟩,none,0,0,[]⟩:=⟨zbN (by rw [← z7]; exact HO.out) HWR.out,World.ownsRow_nil _ _ _ _,HIB.out,(by intro z hz; cases hz),by show 0≤maxLen; omega⟩;exact ⟨na,il,nc,o,130,0,⟨#[]⟩,rfl,HG.out.symm,zcd ho2 HKR.out gs,HB6.out.grown gs HB6.out.size (fun b hb2=>by cases hb2; exact HW1.out)⟩

end Go.Proofs.YtcpdkcdfnpcemabGreat
