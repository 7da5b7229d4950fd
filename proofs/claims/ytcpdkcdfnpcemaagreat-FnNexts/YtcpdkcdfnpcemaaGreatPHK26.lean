/-
  Packed: MibThings MibImplL MibImplN MibOid MibNamed BrDin.
-/
import Derived.Test.YtcpdkcdfnpcemaaGreatPHBrOkI
import Derived.Test.YtcpdkcdfnpcemaaGreatPHDrawBr
namespace Go.Proofs.YtcpdkcdfnpcemaaGreat
set_option maxRecDepth 100000
set_option maxHeartbeats 16000000
open Go.RowKit

theorem zgG (w:World) (base:Nat):Things w base none 0 []:=⟨zf2 thF w,zhx w base,(by intro x hx; cases hx),(by intro x hx; cases hx)⟩

theorem zeK (a:Option Addr) (n c:Nat) (fa:Option Addr) (fn fc:Nat) (ra:Option Addr) (rn rc:Nat) (oa:Option Addr) (on oc:Nat) (B:BR) (w:World) (h:BrRow w a n c fa fn fc ra rn rc oa on oc B) (hok:MbOk B) (hnm:B.name.size≤maxLen) :
  Calls Tryz.prog 114 #[.agg #[.int .i64 B.id,.string B.name,.slice a n c,.slice fa fn fc,.slice ra rn rc,.slice oa on oc,.int .i64 B.ticks,.int .i64 B.parse,.int .i64 B.word,.int .i64 B.drops,.int .i64 B.vers]] w fun e w'=>∃(ao:Option Addr) (cap:Nat) (l:List TH),e=.returned (.slice ao l.length cap)∧l.map TH.d=zbS B∧Things w' w.heap.size ao cap l∧Below w.heap.size w w':=by
 generalize hw1:w.alloc (Obj.cells #[.int .i64 B.id,.string B.name,.slice a n c,.slice fa fn fc,.slice ra rn rc,.slice oa on oc,.int .i64 B.ticks,.int .i64 B.parse,.int .i64 B.word,.int .i64 B.drops,.int .i64 B.vers] 31)=w2;have b2:=zb hw1;have k2:=zk hw1;have HH:=hide h;have HOK:=hide hok;have HNM:=hide hnm;clear h hok hnm;go_enter Tryz.func114,Tryz.ntmps114;obtain ⟨x0,x1,x2,x3,x4,x5,x6,x7,x8,x9,x10⟩:=zj k2;go_upto_region 1 with fail
 try rw [hw1]
 clear x0 x1 x2 x3 x4 x5 x6 x7 x8 x9 x10 hw1;have vv:Below w2.heap.size w2 w2.drew:=zv (Below.refl _ _);refine wp_region_held_drew (S:=(fun W=>(zcc W w.heap.size 0 (.int .i64 B.id)∧zcc W w.heap.size 1 (.string B.name)∧zcc W w.heap.size 2 (.slice a n c)∧zcc W w.heap.size 3 (.slice fa fn fc)∧zcc W w.heap.size 4 (.slice ra rn rc)∧zcc W w.heap.size 5 (.slice oa on oc)∧zcc W w.heap.size 6 (.int .i64 B.ticks)∧zcc W w.heap.size 7 (.int .i64 B.parse)∧zcc W w.heap.size 8 (.int .i64 B.word)∧zcc W w.heap.size 9 (.int .i64 B.drops)∧zcc W w.heap.size 10 (.int .i64 B.vers)))) (by kernel_rfl) (zj (ze k2 vv)) (fun hHeld => ?_);refine kK 0 ?_;refine kK 2 ?_;refine kK 4 ?_;refine kK 6 ?_;refine kR 1 fun K hK => ?_
 go_simp;clear hHeld;refine (zeL a n c fa fn fc ra rn rc oa on oc B _ (HH.out.below (zd b2 vv)) HNM.out).mono ?_;rintro e z1 ⟨o1,p1,l1,rfl,d1,t1,h1⟩;have q1:=t1.names;have vv:=zd vv h1;have HD1:=hide d1;clear d1;go_wp2_with fail
 refine kO hK (zj (ze k2 vv)) fun hHeld => ?_
 clear hK K;refine kR 3 fun K hK => ?_
 go_simp;clear hHeld;refine (zdK a n c fa fn fc ra rn rc oa on oc B _ (HH.out.below (zd b2 vv)) HOK.out).mono ?_;rintro e z2 ⟨o2,p2,l2,rfl,d2,t2,h2⟩;have q2:=q1.append h2 t2.names (Nat.le_refl _) h1.size;have t1:=t1.below h2;have vv:=zd vv h2;have HD2:=hide d2;clear d2;go_wp2_with fail
 refine kO hK (zj (ze k2 vv)) fun hHeld => ?_
 clear hK K;refine kR 5 fun K hK => ?_
 go_simp;clear hHeld;refine (zee a n c fa fn fc ra rn rc oa on oc B _ (HH.out.below (zd b2 vv)) HOK.out).mono ?_;rintro e z3 ⟨o3,p3,l3,rfl,d3,t3,h3⟩;have q3:=q2.append h3 t3.names (Nat.le_refl _) (zd h1 h2).size;have t1:=t1.below h3;have t2:=t2.below h3;have vv:=zd vv h3;have HD3:=hide d3;clear d3;go_wp2_with fail
 refine kO hK (zj (ze k2 vv)) fun hHeld => ?_
 clear hK K;refine kR 7 fun K hK => ?_
 go_simp;clear hHeld;refine (zec a n c fa fn fc ra rn rc oa on oc B _ (HH.out.below (zd b2 vv)) HOK.out).mono ?_;rintro e z4 ⟨o4,p4,l4,rfl,d4,t4,h4⟩;have q4:=q3.append h4 t4.names (Nat.le_refl _) (zd (zd h1 h2) h3).size;have t1:=t1.below h4;have t2:=t2.below h4;have t3:=t3.below h4;have vv:=zd vv h4;have HD4:=hide d4;clear d4;go_wp2_with fail
 refine kO hK (zj (ze k2 vv)) fun hHeld => ?_
 clear hK K;refine kR 8 fun K hK => ?_
 go_simp;clear hHeld
 first
 | refine zaO (K:=K _) (fun wx kI hbx => ?_)
 | refine zaB (K:=K _) (fun wx kI hbx => ?_)
 have q4:=q4.below hbx;have t1:=t1.below hbx;have t2:=t2.below hbx;have t3:=t3.below hbx;have t4:=t4.below hbx;have vv:=zd vv hbx;clear hbx;refine kO hK (zj (ze k2 vv)) fun hHeld => ?_
 clear hK K;refine kR 9 fun K hK => ?_
 go_simp;clear hHeld;have HL:Hid ((l1++l2++l3++l4).map TH.d=zbS B):=hide (by
  rw [List.map_append,List.map_append,List.map_append,HD1.out,HD2.out,HD3.out,HD4.out];unfold zbS
  rfl)
 have hlen:l1.length+l2.length+l3.length+l4.length≤100:=by
  have h5:=congrArg List.length HL.out;have h6:=zf6 HOK.out;simp only [List.length_map,List.length_append] at h5;omega
 have hl5:l1.length=5:=by
  have h5:=congrArg List.length HD1.out;rw [List.length_map] at h5;exact h5
 have hsum:sumS [⟨o1,l1.length,p1,l1⟩,⟨o2,l2.length,p2,l2⟩,⟨o3,l3.length,p3,l3⟩,⟨o4,l4.length,p4,l4⟩] 4=l1.length+l2.length+l3.length+l4.length:=by
  show 0+l1.length+l2.length+l3.length+l4.length=_
  omega
 have hcat:catS [⟨o1,l1.length,p1,l1⟩,⟨o2,l2.length,p2,l2⟩,⟨o3,l3.length,p3,l3⟩,⟨o4,l4.length,p4,l4⟩] 4=l1++l2++l3++l4:=by
  show []++l1++l2++l3++l4=_
  rw [List.nil_append]
 have hg:=zab (F:=slF) (zS slF (base:=0) (l:=[⟨o1,l1.length,p1,l1⟩,⟨o2,l2.length,p2,l2⟩,⟨o3,l3.length,p3,l3⟩,⟨o4,l4.length,p4,l4⟩]) kI rfl (Nat.zero_le _) (by simp));have HSUM:=hide hsum;have hcc:=zd9 _ 4 [⟨o1,l1.length,p1,l1⟩,⟨o2,l2.length,p2,l2⟩,⟨o3,l3.length,p3,l3⟩,⟨o4,l4.length,p4,l4⟩] _ hg (by
  intro x hx;simp only [List.mem_cons,List.not_mem_nil,or_false] at hx;rcases hx with rfl | rfl | rfl | rfl
  ·exact t1.row
  ·exact t2.row
  ·exact t3.row
  ·exact t4.row) (by rw [hsum]; omega) (by rw [hsum]; omega) (by omega)
 rw [hsum,hcat] at hcc;clear hsum hl5;refine hcc.mono ?_;rintro e z5 ⟨o5,p5,rfl,r5,h5⟩;have q5:=q4.below h5;have t1:=t1.below h5;have t2:=t2.below h5;have t3:=t3.below h5;have t4:=t4.below h5;have vv:=zd vv h5;clear hcc h5 hg kI hcat;go_wp2_with fail
 refine kO hK (zj (ze k2 vv)) fun hHeld => ?_
 clear hK K;refine kK 10 ?_;refine wpAnyH_done (by kernel_rfl) ?_ _;have HTH:Hid (Things z5 w.heap.size o5 p5 (l1++l2++l3++l4)):=hide (by
  have hll:(l1++l2++l3++l4).length=l1.length+l2.length+l3.length+l4.length:=by simp only [List.length_append]
  have hm:∀x∈l1++l2++l3++l4,x∈l1∨x∈l2∨x∈l3∨x∈l4:=by
   intro x hx;simp only [List.mem_append] at hx;rcases hx with ((hx | hx) | hx) | hx
   ·exact .inl hx
   ·exact .inr (.inl hx)
   ·exact .inr (.inr (.inl hx))
   ·exact .inr (.inr (.inr hx))
  refine ⟨by rw [hll]; exact r5,q5.lt b2.size, ?_, ?_⟩
  ·intro x hx;rcases hm x hx with hx | hx | hx | hx
   ·exact t1.gives x hx
   ·exact t2.gives x hx
   ·exact t3.gives x hx
   ·exact t4.gives x hx
  ·intro x hx;rcases hm x hx with hx | hx | hx | hx
   ·exact t1.nil x hx
   ·exact t2.nil x hx
   ·exact t3.nil x hx
   ·exact t4.nil x hx)
 have HB:=hide (zd b2 vv);have HLL:Hid ((l1++l2++l3++l4).length=l1.length+l2.length+l3.length+l4.length):=hide (by simp only [List.length_append]);clear hHeld vv k2 b2 q5 q4 t1 t2 t3 t4 r5 hlen;go_wp2;go_ret;exact ⟨o5,p5,l1++l2++l3++l4,(by show Ending.returned (.slice o5 (l1.length+l2.length+l3.length+l4.length) p5)=_; rw [HLL.out]),HL.out,HTH.out,HB.out⟩

theorem zbZ (a:Option Addr) (n c:Nat) (fa:Option Addr) (fn fc:Nat) (ra:Option Addr) (rn rc:Nat) (oa:Option Addr) (on oc:Nat) (B:BR) (w:World) (h:BrRow w a n c fa fn fc ra rn rc oa on oc B) (hfn:fn≤16777216) (hR:∀r∈B.v.rows,r.Rng) :
  Calls Tryz.prog 43 #[.agg #[.int .i64 B.id,.string B.name,.slice a n c,.slice fa fn fc,.slice ra rn rc,.slice oa on oc,.int .i64 B.ticks,.int .i64 B.parse,.int .i64 B.word,.int .i64 B.drops,.int .i64 B.vers]] w fun e w'=>∃(ao:Option Addr) (cap:Nat) (l:List TH),e=.returned (.slice ao l.length cap)∧l.map TH.d=zaf B∧Things w' w.heap.size ao cap l∧Below w.heap.size w w':=by
 generalize hw1:w.alloc (Obj.cells #[.int .i64 B.id,.string B.name,.slice a n c,.slice fa fn fc,.slice ra rn rc,.slice oa on oc,.int .i64 B.ticks,.int .i64 B.parse,.int .i64 B.word,.int .i64 B.drops,.int .i64 B.vers] 31)=w1;have b1:=zb hw1;have k1:=zk hw1;have HH:=hide h;obtain ⟨x0,x1,x2,x3,x4,x5,x6,x7,x8,x9,x10⟩:=zj k1;go_enter Tryz.func43,Tryz.ntmps43;go_wp2_with fail
 refine (zcR a n c fa fn fc ra rn rc oa on oc B _ (h.below b1) hfn hR).mono ?_;rintro e w2 ⟨rfl,hb2⟩;have k2:=ze k1 hb2;have b2:=zd b1 hb2;clear hb2 k1 b1 x0 x1 x2 x3 x4 x5 x6 x7 x8 x9 x10 h hw1;cases hok:zH B
 ·have HM:Hid (zaf B=[]):=hide (by unfold zaf; rw [if_neg (by rw [hok]; decide)]);have HB:=hide b2;clear hok k2 b2;go_wp2;go_ret;exact ⟨none,0,[],rfl,HM.out.symm,zgG _ _,HB.out⟩
 ·have HM:Hid (zaf B=zbS B):=hide (by unfold zaf; rw [if_pos hok]);have HOK:=hide (mb_ok hok);have HNM:Hid (B.name.size≤maxLen):=hide (by have:=(za6 hok).2.2.1; unfold maxLen; omega);have HB:=hide b2;clear hok b2;obtain ⟨x0,x1,x2,x3,x4,x5,x6,x7,x8,x9,x10⟩:=zj k2;(go_wp2_with fail);refine (zeK a n c fa fn fc ra rn rc oa on oc B _ (HH.out.below HB.out) HOK.out HNM.out).mono ?_;rintro e w3 ⟨ao,cap,l,rfl,hd,ht,h3⟩;have HD:=hide hd;have HT:=hide ht;have HB3:=hide h3;clear hd ht h3 k2 x0 x1 x2 x3 x4 x5 x6 x7 x8 x9 x10;go_wp2;go_ret;have ht:=HT.out;exact ⟨ao,cap,l,rfl,by rw [HD.out,HM.out],⟨ht.row,ht.names.lt HB.out.size,ht.gives,ht.nil⟩,zd HB.out HB3.out⟩

def TH.bi (x:TH):BI:=⟨x.oa,x.on,x.oc,x.d.o,x.d.K,x.d.N,x.d.S,none,0,0,[]⟩

theorem TH.bi_d {x:TH} (h:x.d.z=[]):x.bi.d=x.d:=by
 show (⟨x.d.o,x.d.K,x.d.N,x.d.S,[]⟩:BD)=x.d
 rw [← h]

theorem ziw:∀{l:List TH},(∀x∈l,x.d.z=[])→(l.map TH.bi).map BI.d=l.map TH.d
 | [],_=>rfl
 | x::l,h=>by
  rw [List.map_cons,List.map_cons,List.map_cons,TH.bi_d (h x (List.mem_cons_self ..)),ziw (fun y hy=>h y (List.mem_cons_of_mem _ hy))]

theorem zgP:∀(l:List TH),(l.map TH.bi).flatMap BI.blks=l.flatMap (fun x=>blkL x.oa)
 | []=>rfl
 | x::l=>by
  rw [List.map_cons,List.flatMap_cons,List.flatMap_cons,zgP l]
  show (blkL x.oa++[])++_=_
  rw [List.append_nil]

theorem Things.own {w:World} {base:Nat} {ao:Option Addr} {cap:Nat} {l:List TH} (h:Things w base ao cap l) {x:TH} (hx:x∈l):BOwn w base x.bi :=
 ⟨h.names.item x hx,World.ownsRow_nil _ _ _ _,h.names.i64 x hx,(by intro z hz; cases hz),(h.nil x hx).2.1⟩

theorem zba (a:Option Addr) (n c:Nat) (fa:Option Addr) (fn fc:Nat) (ra:Option Addr) (rn rc:Nat) (oa:Option Addr) (on oc:Nat) (B:BR) (w:World) (h:BrRow w a n c fa fn fc ra rn rc oa on oc B) (hfn:fn≤16777216) (hR:∀r∈B.v.rows,r.Rng) :
  Calls Tryz.prog 12 #[.agg #[.int .i64 B.id,.string B.name,.slice a n c,.slice fa fn fc,.slice ra rn rc,.slice oa on oc,.int .i64 B.ticks,.int .i64 B.parse,.int .i64 B.word,.int .i64 B.drops,.int .i64 B.vers]] w fun e w'=>∃(ao:Option Addr) (cap:Nat) (l:List BI),e=.returned (.slice ao l.length cap)∧l.map BI.d=zaf B∧BOwns w' w.heap.size ao l.length cap l∧Below w.heap.size w w':=by
 obtain ⟨i0,hi,hz0,hz1,hz2⟩:=info_parts Tryz.infoBind';generalize hw1:w.alloc (Obj.cells #[.int .i64 B.id,.string B.name,.slice a n c,.slice fa fn fc,.slice ra rn rc,.slice oa on oc,.int .i64 B.ticks,.int .i64 B.parse,.int .i64 B.word,.int .i64 B.drops,.int .i64 B.vers] 31)=w1;have b1:=zb hw1;have k1:=zk hw1;obtain ⟨x0,x1,x2,x3,x4,x5,x6,x7,x8,x9,x10⟩:=zj k1;go_enter Tryz.func12,Tryz.ntmps12;go_wp2_with fail
 refine (zbZ a n c fa fn fc ra rn rc oa on oc B _ (h.below b1) hfn hR).mono ?_;rintro e w2 ⟨ta,tc,l,rfl,hd,th,h2⟩;have b2:=zd b1 h2;have HBW:=hide b1.size;clear x0 x1 x2 x3 x4 x5 x6 x7 x8 x9 x10 h k1 hw1 h2;have HD:=hide hd;have HL:Hid (l.length≤100):=hide (by have h1:=congrArg List.length hd; rw [List.length_map] at h1; rw [h1]; exact zdv B);clear hd;go_wp2_with fail
 go_loopw [3,5,9] (fun v3 u5 vk wr=>∃(k:Nat) (ao:Option Addr) (cap:Nat),v3=.slice ao k cap∧vk=.int .i64 (k:Int)∧k≤l.length∧wr.ownsRow w2.heap.size 37 5 (.slice ao k cap) k (cBs ((l.take k).map TH.bi))∧Below w2.heap.size w2 wr) (fun _ _ vk _=>102 - (intOf vk).toNat)
 case atStart=>exact ⟨0,none,0,rfl,rfl,Nat.zero_le _,World.ownsRow_nil _ _ _ _,Below.refl _ _⟩
 case round =>
  obtain ⟨k,ao,cap,rfl,rfl,hk,row,hb⟩:=hrel;have hl100:=HL.out;by_cases hkl:k < l.length
  ·have hkl':(k:Int) < (l.length:Int):=by omega
   have hk100:(k:Int)≤100:=by omega
   obtain ⟨x,xb,off,hx,hxa,c0,c1⟩:=th_at (th.row.below hb) k hkl;subst hxa;generalize hwz:wr.alloc (Obj.cells #[.slice none 0 0,.nilFunc] 91)=wz;have bz:=zb hwz;have kz:=zk hwz;obtain ⟨⟨p0,p1⟩,f0,f1⟩:=zB kz;have d0:=(bz.cell (zp c0)).trans c0;have d1:=(bz.cell (zp c1)).trans c1;have HX:=hide hx;have HB:=hide hb;have HROW:=hide row;have HT:=hide (th.below hb);clear hx row hb;(go_upto_region 5 with fail);clear p0 p1 f0 f1 c0 c1 d0 d1 hwz;refine zeP kz _ _ (fun ws ks gs => ?_);have bs:Below wr.heap.size wr ws:=bz.grown gs bz.size (fun b hb2=>by cases hb2; exact Nat.le_refl _);obtain ⟨⟨p0,p1⟩,-⟩:=zB ks;clear bz kz gs;(go_wp2_with fail);refine (zfT x _ (((th.gives x (List.mem_of_getElem? HX.out)).below HB.out).below bs)).mono ?_;rintro e w5 ⟨rfl,h5⟩;clear p0 p1 ks;have bs5:=zd bs h5;generalize hwb:w5.alloc (Obj.cells #[.slice x.oa x.on x.oc,.int .i64 x.d.K,.int .i64 x.d.N,.string x.d.S,.slice none 0 0] 37)=wb;have bb:=zb hwb;have hnew:∀(j:Nat) (u:Value),x.bi.cs[j]? = some u→wb.cell? ((⟨w5.heap.size,0,none⟩:Addr).add j)=some u:=by rw [← hwb]; exact zex w5 x.bi
   have hone:=zdQ x.bi;have bsb:=zd bs5 bb;have HBB:=hide (zd HB.out bsb);have hrow:=zdZ HROW.out bsb;have hsz:w2.heap.size≤wb.heap.size:=HBB.out.size;clear bs h5 bs5 bb bsb;go_wp2_with (at_builtin; refine wpList_append_own _ rfl _ _ 39 rfl w2.heap.size 37 i0 (.agg #[.slice none 0 0,.int .i64 0,.int .i64 0,.string ⟨#[]⟩,.slice none 0 0]) 5 80 Tryz.underlying39 hi hz0 hz1 hz2 rfl (by decide) _ k (cBs ((l.take k).map TH.bi)) rfl hrow ⟨w5.heap.size,0,none⟩ 1 1 x.bi.cs rfl rfl hnew hone ?c1 ?c2 ?c3 ?_)
   case c1=>unfold maxLen; omega
   case c2=>omega
   case c3=>exact hsz
   intro v' w6 how hgr _;obtain ⟨lo',cap',rfl⟩:=ze1 how;have HR2:Hid (w6.ownsRow w2.heap.size 37 5 (.slice lo' (k+1) cap') (k+1) (cBs ((l.take (k+1)).map TH.bi))):=hide (by
    rw [zcA HX.out,List.map_append,zbE,List.map_singleton];have e1:cBs [x.bi]=x.bi.cs:=by simp [cBs]
    rw [e1,List.map_take];exact how)
   have HB6:=hide (HBB.out.grown hgr hsz (fun b hb2=>(hrow.lt b hb2).1));clear how hgr hrow hnew hone hsz hwb;go_wp2
   go_roundw
   case rel=>exact ⟨k+1,lo',cap',rfl,by go_num,by omega,HR2.out,HB6.out⟩
   case measure=>simp [intOf]; omega
  ·have hkl':¬(k:Int) < (l.length:Int):=by omega
   have hke:k=l.length:=by omega
   have HT:=hide (th.below hb);have HB:=hide (zd b2 hb);have HLB:Hid (l.length=(l.map TH.bi).length):=hide (by rw [List.length_map]);have HROW:Hid (wr.ownsRow w2.heap.size 37 5 (.slice ao l.length cap) l.length (cBs (l.map TH.bi))):=hide (by
    rw [hke,List.take_of_length_le (Nat.le_refl _)] at row;exact row)
   have HKE:=hide hke;have HB2:=hide b2.size;clear row hb b2;go_wp2;go_ret;have hkk:=HKE.out;subst hkk;refine ⟨ao,cap,l.map TH.bi,(by rw [← HLB.out]; rfl),(by rw [ziw (fun x hx=>(HT.out.nil x hx).1)]; exact HD.out),⟨(by rw [← HLB.out]; exact zhi HROW.out HB2.out), ?_,(by rw [zgP]; exact HT.out.names.apart)⟩,HB.out⟩;intro y hy;obtain ⟨x,hx,rfl⟩:=List.mem_map.1 hy;exact (HT.out.own hx).lt HBW.out

theorem zcT (a:Option Addr) (n c:Nat) (fa:Option Addr) (fn fc:Nat) (ra:Option Addr) (rn rc:Nat) (oa:Option Addr) (on oc:Nat) (B:BR) (ia:Option Addr) (il ic:Nat) (o:List Int) (w:World) (h:BrRow w a n c fa fn fc ra rn rc oa on oc B) (hfn:fn≤16777216) (hR:∀r∈B.v.rows,r.Rng) (hi:IRow w ia il ic o) (hil:il≤16777216) :
  Calls Tryz.prog 11 #[.agg #[.int .i64 B.id,.string B.name,.slice a n c,.slice fa fn fc,.slice ra rn rc,.slice oa on oc,.int .i64 B.ticks,.int .i64 B.parse,.int .i64 B.word,.int .i64 B.drops,.int .i64 B.vers],.slice ia il ic] w fun e w'=>∃(na:Option Addr) (nl nc:Nat) (no:List Int) (nK nN:Int) (nS:ByteArray),e=.returned (.agg #[.slice na nl nc,.int .i64 nK,.int .i64 nN,.string nS,.slice none 0 0])∧(⟨no,nK,nN,nS,[]⟩:BD)=zdu (zaf B) o∧BOwn w' w.heap.size ⟨na,nl,nc,no,nK,nN,nS,none,0,0,[]⟩∧Below w.heap.size w w':=by
 generalize hw1:w.alloc (Obj.cells #[.int .i64 B.id,.string B.name,.slice a n c,.slice fa fn fc,.slice ra rn rc,.slice oa on oc,.int .i64 B.ticks,.int .i64 B.parse,.int .i64 B.word,.int .i64 B.drops,.int .i64 B.vers] 31)=w1;have b1:=zb hw1;have k1:=zk hw1;generalize hwr:w1.alloc (Obj.cells #[.slice none 0 0,.int .i64 0,.int .i64 0,.string ⟨#[]⟩,.slice none 0 0] 37)=w1r;have b1r:=zb hwr;have kr0:=zk hwr;have b0r:=zd b1 b1r;have HW1:=hide b1.size;obtain ⟨x0,x1,x2,x3,x4,x5,x6,x7,x8,x9,x10⟩:=zj (ze k1 b1r);go_enter Tryz.func11,Tryz.ntmps11;go_wp2_with fail
 refine (zbZ a n c fa fn fc ra rn rc oa on oc B _ (h.below b0r) hfn hR).mono ?_;rintro e w2 ⟨ta,tc,l,rfl,hd,th,h2⟩;have b2:=zd b0r h2;have kr:=ze kr0 h2;have HBW:=hide b0r.size;clear x0 x1 x2 x3 x4 x5 x6 x7 x8 x9 x10 h k1 hw1 hwr h2 kr0 b1 b1r b0r;have HD:=hide hd;have HL:Hid (l.length≤100∧(zaf B).length=l.length):=hide (by have h1:=congrArg List.length hd; rw [List.length_map] at h1; rw [h1]; exact ⟨zdv B,rfl⟩);have HAT:Hid (∀(i:Nat) x,l[i]? = some x→(zaf B)[i]? = some x.d):=hide (fun i x hx=>by rw [← hd,List.getElem?_map,hx]; rfl);have hi2:=hi.below b2;clear hd;go_wp2_with fail
 go_loopw [6,10] (fun u6 vk wr=>∃(k:Nat),vk=.int .i64 (k:Int)∧k≤l.length∧(∀(i:Nat) y,i < k→(zaf B)[i]? = some y→lessL o y.o=false)∧Below w2.heap.size w2 wr) (fun _ vk _=>102 - (intOf vk).toNat)
 case atStart=>exact ⟨0,rfl,Nat.zero_le _,(by intro i y hi; omega),Below.refl _ _⟩
 case round =>
  obtain ⟨k,rfl,hk,hno,hb⟩:=hrel;have hl100:=HL.out.1;have HNO:=hide hno;by_cases hkl:k < l.length
  ·have hkl':(k:Int) < (l.length:Int):=by omega
   have hk100:(k:Int)≤100:=by omega
   obtain ⟨x,xb,off,hx,hxa,c0,c1⟩:=th_at (th.row.below hb) k hkl;subst hxa;generalize hwz:wr.alloc (Obj.cells #[.slice none 0 0,.nilFunc] 91)=wz;have bz:=zb hwz;have kz:=zk hwz;obtain ⟨⟨p0,p1⟩,f0,f1⟩:=zB kz;have d0:=(bz.cell (zp c0)).trans c0;have d1:=(bz.cell (zp c1)).trans c1;have HX:=hide (HAT.out k x hx);have HM:=hide (List.mem_of_getElem? hx);have HB:=hide hb;clear hx hno hb;(go_upto_region 4 with fail);clear p0 p1 f0 f1 c0 c1 d0 d1 hwz;refine zeP kz _ _ (fun ws ks gs => ?_);have bs:Below wr.heap.size wr ws:=bz.grown gs bz.size (fun b hb2=>by cases hb2; exact Nat.le_refl _);obtain ⟨⟨p0,p1⟩,-⟩:=zB ks;clear bz kz gs;have HBS:=hide (zd HB.out bs);have hnm:=zQ ((th.names.below HBS.out).item x HM.out) (th.names.i64 x HM.out);(go_wp2_with fail);refine (zcK ia il ic o _ _ _ x.d.o _ (hi2.below HBS.out) hnm).mono ?_;rintro e w5 ⟨rfl,ew⟩;obtain rfl:=ew.symm;clear hnm;cases hq:lessL o x.d.o
   ·have HNO2:=hide (zeG (p:=fun d:BD=>lessL o d.o) HNO.out HX.out hq);clear hq p0 p1 ks bs;go_wp2
    go_roundw
    case rel=>exact ⟨k+1,by go_num,by omega,HNO2.out,HBS.out⟩
    case measure=>simp [intOf]; omega
   ·have HG:=hide (zeU HNO.out HX.out hq);clear hq;(go_wp2_with fail);refine (zfT x _ ((th.gives x HM.out).below HBS.out)).mono ?_;rintro e w6 ⟨rfl,h6⟩;have hb6:=zd HBS.out h6;have kr6:=ze kr hb6;obtain ⟨⟨q0,q1,q2,q3,q4⟩,f0,f1,f2,f3,f4⟩:=zo kr6;have HT6:=hide (th.below hb6);have HKR:=hide kr6;have HB6:=hide (zd b2 hb6);clear p0 p1 ks bs h6 hb6 kr kr6;go_wp2;refine bodyPost_ret (v:=.agg #[.slice x.oa x.on x.oc,.int .i64 x.d.K,.int .i64 x.d.N,.string x.d.S,.slice none 0 0]) (by simp [results,Tryz.results11,go_sem, *]) rfl ?_;have gs:=zdi w6 w1.heap.size (.slice x.oa x.on x.oc) (.int .i64 x.d.K) (.int .i64 x.d.N) (.string x.d.S) (.slice none 0 0);have ho:=(HT6.out.own HM.out).lt HBW.out;exact ⟨x.oa,x.on,x.oc,x.d.o,x.d.K,x.d.N,x.d.S,rfl,(TH.bi_d (HT6.out.nil x HM.out).1).trans HG.out.symm,zfV ho HKR.out gs,HB6.out.grown gs HB6.out.size (fun b hb2=>by cases hb2; exact HW1.out)⟩
  ·have hkl':¬(k:Int) < (l.length:Int):=by omega
   have hke:k=l.length:=by omega
   have HG:=hide (zeV (fun i y hi hy=>HNO.out i y (by have:=HL.out.2; omega) hy));have HIB:=hide hi.byte;have hi3:=(hi2.below hb).flat;clear hke hno;(go_wp2_with fail);refine (zgm ia il ic o _ hi3 hil).mono ?_;rintro e w6 ⟨na,nc,rfl,ho,h6⟩;have hb6:=zd hb h6;have kr6:=ze kr hb6;obtain ⟨⟨q0,q1,q2,q3,q4⟩,f0,f1,f2,f3,f4⟩:=zo kr6;have HKR:=hide kr6;have HB6:=hide (zd b2 hb6);have HO:=hide ho;have HWR:=hide (Nat.le_trans b2.size hb.size);clear h6 hb6 kr kr6 hb ho;go_wp2;refine bodyPost_ret (v:=.agg #[.slice na il nc,.int .i64 130,.int .i64 0,.string ⟨#[]⟩,.slice none 0 0]) (by simp [results,Tryz.results11,go_sem, *]) rfl ?_;have gs:=zdi w6 w1.heap.size (.slice na il nc) (.int .i64 130) (.int .i64 0) (.string ⟨#[]⟩) (.slice none 0 0);have ho2:BOwn w6 w.heap.size ⟨na,il,nc,o,130,0,⟨#[]⟩,none,0,0,[]⟩:=⟨zaS (by rw [← zE]; exact HO.out) HWR.out,World.ownsRow_nil _ _ _ _,HIB.out,(by intro z hz; cases hz),by show 0≤maxLen; omega⟩;exact ⟨na,il,nc,o,130,0,⟨#[]⟩,rfl,HG.out.symm,zfV ho2 HKR.out gs,HB6.out.grown gs HB6.out.size (fun b hb2=>by cases hb2; exact HW1.out)⟩

theorem BOwns.goes {w w':World} {base:Nat} {ao:Option Addr} {k cap:Nat} {l:List BI} (h:BOwns w base ao k cap l) {C:Nat} (hg:w.grownBy w' (some C)) (hC:C < base):BOwns w' base ao k cap l:=by
 have ho:Only [C] w w':=⟨hg.os,hg.tape,hg.output,hg.size,fun k hk hn=>hg.block k hk (fun e=>hn (by cases e; simp))⟩;exact h.only ho (fun b hb hc=>by have:=(h.blk b hb).1; simp at hc; omega)

theorem zgt (C:Nat) (a0:Option Addr) (l0 c0:Nat) (z0:List Int) (a:Option Addr) (n c:Nat) (fa:Option Addr) (fn fc:Nat) (ra:Option Addr) (rn rc:Nat) (oa:Option Addr) (on oc:Nat) (B:BR) (w:World) (hc:Cur w C a0 l0 c0 z0) (h:BrRow w a n c fa fn fc ra rn rc oa on oc B) :
  Calls Tryz.prog 42 #[.pointer (some ⟨C,0,none⟩),.agg #[.int .i64 B.id,.string B.name,.slice a n c,.slice fa fn fc,.slice ra rn rc,.slice oa on oc,.int .i64 B.ticks,.int .i64 B.parse,.int .i64 B.word,.int .i64 B.drops,.int .i64 B.vers]] w fun e w'=>∃(ao:Option Addr) (q cap:Nat) (zs:List Int),e=.returned (.slice ao q cap)∧q≤13∧zs.length=q∧I64s zs∧w'.ownsRow w.heap.size 3 1 (.slice ao q cap) q (cI zs)∧Went w w' C a0 l0 c0 z0:=by
 have hlt:=hc.lt;generalize hw1:w.alloc (Obj.cells #[.int .i64 B.id,.string B.name,.slice a n c,.slice fa fn fc,.slice ra rn rc,.slice oa on oc,.int .i64 B.ticks,.int .i64 B.parse,.int .i64 B.word,.int .i64 B.drops,.int .i64 B.vers] 31)=w1;have b1:=zb hw1;have k1:=zk hw1;have HZ:Hid (w1.heap.size=w.heap.size+1):=hide (by rw [← hw1]; simp);have wn:=Went.start hc b1;obtain ⟨x0,x1,x2,x3,x4,x5,x6,x7,x8,x9,x10⟩:=zj k1;go_enter Tryz.func42,Tryz.ntmps42;go_wp2_with fail
 clear hw1;refine (zbU a n c fa fn fc ra rn rc oa on oc B _ (h.below b1)).mono ?_;rintro e w2 ⟨la,lc,l,rfl,hd,oL,hb2⟩;have oL:=oL.lt (show w.heap.size≤w1.heap.size by have:=HZ.out; omega);have wn:=wn.made hb2;have HD:=hide hd;have HLN:Hid (l.length≤100):=hide (by rw [d_len hd]; exact zdv B);have HW2:Hid (w.heap.size≤w2.heap.size):=hide (by have:=hb2.size; have:=HZ.out; omega);clear hd hb2 k1 b1 x0 x1 x2 x3 x4 x5 x6 x7 x8 x9 x10 h;have hl100:(l.length:Int)≤100:=by have:=HLN.out; omega
 by_cases hl0:0 < l.length
 ·have hl0':(0:Int) < (l.length:Int):=by omega
  have HL0:=hide hl0;clear hl0;(go_wp2_with fail);refine (zc2 C a0 l0 c0 z0 4 _ wn.cur (by omega)).mono ?_;rintro e wc ⟨q,rfl,wt⟩;have oL:=oL.goes wt.grown hlt;have HWC:Hid (w.heap.size≤wc.heap.size):=hide (Nat.le_trans HW2.out wt.grown.size);have wn:=wn.trans wt;clear wt;cases q
  ·(go_wp2_with fail);generalize hwe:wc.alloc (Obj.cells #[] 3)=we;have be:=zb hwe;have ke:=zk hwe;have oE:we.ownsRow w.heap.size 3 1 (.slice (some ⟨wc.heap.size,0,none⟩) 0 0) 0 (intF.all []):=za7 intF w we 3 wc.heap.size ke HWC.out;have oL:=oL.below be;have wn:=wn.made be;have HWE:Hid (w.heap.size≤we.heap.size):=hide (Nat.le_trans HWC.out be.size);clear be ke;(go_wp2_with fail);clear hwe;refine (zI C a0 l0 c0 z0 (l.length:Int) _ wn.cur (by omega)).mono ?_;rintro e wf ⟨kx,rfl,kx0,kx1,-,wt⟩;have kx1:=kx1 (by have:=HL0.out; omega);obtain ⟨kk,rfl⟩:∃kk:Nat,kx=(kk:Int):=⟨kx.toNat,by omega⟩;have hkk:kk < l.length:=by omega
   have oL:=oL.goes wt.grown hlt;have oE:=wt.ownI oE hlt;have HWF:Hid (w.heap.size≤wf.heap.size):=hide (Nat.le_trans HWE.out wt.grown.size);have wn:=wn.trans wt;clear wt;obtain ⟨x,b,off,hx,hla,⟨y0,y1,y2,y3,y4⟩,hin⟩:=oL.brow.at kk hkk;have lit:=zc7 HD.out (List.mem_of_getElem? hx);have h7:x.on≤7:=by have h1:=lit.o; have h2:=hin.o.size; have:x.d.o.length=x.o.length:=rfl; omega
   subst hla;have hg:=hin.o.flat;have HX:=hide hin.o;have HWN:=hide wn;have HIB:=hide hin.o.byte;have HSZ:=hide hin.o.size;clear hin oL lit hx wn;go_wp2_with (at_builtin; refine zx (F:=intF) _ rfl _ _ 27 3 rfl w.heap.size Tryz.underlying27 Tryz.infoI64 rfl (by decide) _ 0 [] rfl oE x.oa x.on x.oc x.o rfl hg (by omega) HWF.out ?_)
   intro na nc wg how _ hgr hb;have HB:=hide hb;(try rw [Nat.zero_add] at how);(try rw [Nat.zero_add]);have HO:Hid (wg.ownsRow w.heap.size 3 1 (.slice na x.on nc) x.on (cI x.o)):=hide (by rw [← zE]; exact how);have HW:=hide (HWN.out.madeAt HB.out hlt (Nat.le_refl _));clear how hgr hb hg oE y0 y1 y2 y3 y4;go_wp2;go_ret;exact ⟨na,x.on,nc,x.o,rfl,by omega,HSZ.out,HIB.out,HO.out,HW.out⟩
  ·(go_wp2_with fail);refine (zI C a0 l0 c0 z0 8 _ wn.cur (by omega)).mono ?_;rintro e wz ⟨sx,rfl,-,-,-,wt⟩;have HWC:Hid (w.heap.size≤wz.heap.size):=hide (Nat.le_trans HWC.out wt.grown.size);have wn:=wn.trans wt;clear wt;generalize wz=wc at *;by_cases e0:sx=0
   ·subst e0;generalize hwa:wc.alloc (Obj.cells #[.int .i64 0] 3)=wa;have ba:=zb hwa;have ka:=zk hwa;have HO:Hid (wa.ownsRow w.heap.size 3 1 (.slice (some ⟨wc.heap.size,0,none⟩) 1 1) 1 (cI [0])):=hide (by rw [← zE]; exact zS intF (l:=[0]) ka rfl HWC.out (by simp));have HW:=hide (wn.made ba);clear ba ka;go_wp2;go_ret;exact ⟨_,1,1,[0],rfl,by omega,rfl,by intro z hz; simp at hz; omega,HO.out,HW.out⟩
   by_cases e1:sx=1
   ·subst e1;generalize hwa:wc.alloc (Obj.cells #[.int .i64 1,.int .i64 3,.int .i64 1] 3)=wa;have ba:=zb hwa;have ka:=zk hwa;have HO:Hid (wa.ownsRow w.heap.size 3 1 (.slice (some ⟨wc.heap.size,0,none⟩) 3 3) 3 (cI [1,3,1])):=hide (by rw [← zE]; exact zS intF (l:=[1,3,1]) ka rfl HWC.out (by simp));have HW:=hide (wn.made ba);clear ba ka;go_wp2;go_ret;exact ⟨_,3,3,[1,3,1],rfl,by omega,rfl,by intro z hz; simp at hz; omega,HO.out,HW.out⟩
   by_cases e2:sx=2
   ·subst e2;generalize hwa:wc.alloc (Obj.cells #[.int .i64 2,.int .i64 2,.int .i64 9] 3)=wa;have ba:=zb hwa;have ka:=zk hwa;have hir:=zQ (base:=0) (by rw [← zE]; exact zS intF (base:=0) (l:=[2,2,9]) ka rfl (Nat.zero_le _) (by simp)) (by intro z hz; simp at hz; omega);(go_wp2_with fail);refine (zW _ 3 3 [2,2,9] _ hir (by omega)).mono ?_;rintro e wd ⟨na,nc,rfl,oN,hb⟩;have HI:Hid (I64s (nmI [2,2,9])):=hide (zaV hir.byte);have HO:=hide (zaS oN (Nat.le_trans HWC.out ba.size));have HW:=hide ((wn.made ba).made hb);clear ba ka hb oN hir hwa;go_wp2;go_ret;exact ⟨na,6,nc,nmI [2,2,9],rfl,by omega,rfl,HI.out,HO.out,HW.out⟩
   by_cases e3:sx=3
   ·subst e3;(go_wp2_with fail);refine (zI C a0 l0 c0 z0 9 _ wn.cur (by omega)).mono ?_;rintro e wz ⟨yx,rfl,yx0,yx1,-,wt⟩;have yx1:=yx1 (by omega);have HWC:Hid (w.heap.size≤wz.heap.size):=hide (Nat.le_trans HWC.out wt.grown.size);have wn:=wn.trans wt;clear wt;generalize wz=wc at *;generalize hwa:wc.alloc (Obj.cells #[.int .i64 3,.int .i64 1,.int .i64 (1+yx)] 3)=wa;have ba:=zb hwa;have ka:=zk hwa;have hir:=zQ (base:=0) (by rw [← zE]; exact zS intF (base:=0) (l:=[3,1,(1+yx)]) ka rfl (Nat.zero_le _) (by simp)) (by intro z hz; simp at hz; omega);(go_wp2_with fail);refine (zW _ 3 3 [3,1,(1+yx)] _ hir (by omega)).mono ?_;rintro e wd ⟨na,nc,rfl,oN,hb⟩;have HI:Hid (I64s (nmI [3,1,(1+yx)])):=hide (zaV hir.byte);have HO:=hide (zaS oN (Nat.le_trans HWC.out ba.size));have HW:=hide ((wn.made ba).made hb);clear ba ka hb oN hir hwa;go_wp2;go_ret;exact ⟨na,6,nc,nmI [3,1,(1+yx)],rfl,by omega,rfl,HI.out,HO.out,HW.out⟩
   by_cases e4:sx=4
   ·subst e4;generalize hwa:wc.alloc (Obj.cells #[.int .i64 2,.int .i64 2] 3)=wa;have ba:=zb hwa;have ka:=zk hwa;have hir:=zQ (base:=0) (by rw [← zE]; exact zS intF (base:=0) (l:=[2,2]) ka rfl (Nat.zero_le _) (by simp)) (by intro z hz; simp at hz; omega);(go_wp2_with fail);refine (zW _ 2 2 [2,2] _ hir (by omega)).mono ?_;rintro e wd ⟨na,nc,rfl,oN,hb⟩;have HI:Hid (I64s (nmI [2,2])):=hide (zaV hir.byte);have HO:=hide (zaS oN (Nat.le_trans HWC.out ba.size));have HW:=hide ((wn.made ba).made hb);clear ba ka hb oN hir hwa;go_wp2;go_ret;exact ⟨na,5,nc,nmI [2,2],rfl,by omega,rfl,HI.out,HO.out,HW.out⟩
   by_cases e5:sx=5
   ·subst e5;generalize hwa:wc.alloc (Obj.cells #[.int .i64 9] 3)=wa;have ba:=zb hwa;have ka:=zk hwa;have hir:=zQ (base:=0) (by rw [← zE]; exact zS intF (base:=0) (l:=[9]) ka rfl (Nat.zero_le _) (by simp)) (by intro z hz; simp at hz; omega);(go_wp2_with fail);refine (zW _ 1 1 [9] _ hir (by omega)).mono ?_;rintro e wd ⟨na,nc,rfl,oN,hb⟩;have HI:Hid (I64s (nmI [9])):=hide (zaV hir.byte);have HO:=hide (zaS oN (Nat.le_trans HWC.out ba.size));have HW:=hide ((wn.made ba).made hb);clear ba ka hb oN hir hwa;go_wp2;go_ret;exact ⟨na,4,nc,nmI [9],rfl,by omega,rfl,HI.out,HO.out,HW.out⟩
   by_cases e6:sx=6
   ·subst e6;generalize hwa:wc.alloc (Obj.cells #[.int .i64 4,.int .i64 1,.int .i64 2,.int .i64 11] 3)=wa;have ba:=zb hwa;have ka:=zk hwa;have hir:=zQ (base:=0) (by rw [← zE]; exact zS intF (base:=0) (l:=[4,1,2,11]) ka rfl (Nat.zero_le _) (by simp)) (by intro z hz; simp at hz; omega);(go_wp2_with fail);refine (zW _ 4 4 [4,1,2,11] _ hir (by omega)).mono ?_;rintro e wd ⟨na,nc,rfl,oN,hb⟩;have HI:Hid (I64s (nmI [4,1,2,11])):=hide (zaV hir.byte);have HO:=hide (zaS oN (Nat.le_trans HWC.out ba.size));have HW:=hide ((wn.made ba).made hb);clear ba ka hb oN hir hwa;go_wp2;go_ret;exact ⟨na,7,nc,nmI [4,1,2,11],rfl,by omega,rfl,HI.out,HO.out,HW.out⟩
   have n0:(sx == 0)=false:=by simp [e0]
   have n1:(sx == 1)=false:=by simp [e1]
   have n2:(sx == 2)=false:=by simp [e2]
   have n3:(sx == 3)=false:=by simp [e3]
   have n4:(sx == 4)=false:=by simp [e4]
   have n5:(sx == 5)=false:=by simp [e5]
   have n6:(sx == 6)=false:=by simp [e6]
   (go_wp2_with fail);refine (zdw C a0 l0 c0 z0 _ wn.cur).mono ?_;rintro e wd ⟨na,q,nc,zs,rfl,-,h2,hz,hP,oN,wt⟩;have HO:=hide (zaS oN HWC.out);have HW:=hide (wn.trans wt);clear oN wt wn;go_wp2;go_ret;exact ⟨na,q,nc,zs,rfl,by omega,hz,(fun z hzz=>by have:=hP z hzz; omega),HO.out,HW.out⟩
 ·have hl0':¬(0:Int) < (l.length:Int):=by omega
  have HWC:=HW2;generalize w2=wc at *;clear oL hl0;(go_wp2_with fail);refine (zI C a0 l0 c0 z0 8 _ wn.cur (by omega)).mono ?_;rintro e wz ⟨sx,rfl,-,-,-,wt⟩;have HWC:Hid (w.heap.size≤wz.heap.size):=hide (Nat.le_trans HWC.out wt.grown.size);have wn:=wn.trans wt;clear wt;generalize wz=wc at *;by_cases e0:sx=0
  ·subst e0;generalize hwa:wc.alloc (Obj.cells #[.int .i64 0] 3)=wa;have ba:=zb hwa;have ka:=zk hwa;have HO:Hid (wa.ownsRow w.heap.size 3 1 (.slice (some ⟨wc.heap.size,0,none⟩) 1 1) 1 (cI [0])):=hide (by rw [← zE]; exact zS intF (l:=[0]) ka rfl HWC.out (by simp));have HW:=hide (wn.made ba);clear ba ka;go_wp2;go_ret;exact ⟨_,1,1,[0],rfl,by omega,rfl,by intro z hz; simp at hz; omega,HO.out,HW.out⟩
  by_cases e1:sx=1
  ·subst e1;generalize hwa:wc.alloc (Obj.cells #[.int .i64 1,.int .i64 3,.int .i64 1] 3)=wa;have ba:=zb hwa;have ka:=zk hwa;have HO:Hid (wa.ownsRow w.heap.size 3 1 (.slice (some ⟨wc.heap.size,0,none⟩) 3 3) 3 (cI [1,3,1])):=hide (by rw [← zE]; exact zS intF (l:=[1,3,1]) ka rfl HWC.out (by simp));have HW:=hide (wn.made ba);clear ba ka;go_wp2;go_ret;exact ⟨_,3,3,[1,3,1],rfl,by omega,rfl,by intro z hz; simp at hz; omega,HO.out,HW.out⟩
  by_cases e2:sx=2
  ·subst e2;generalize hwa:wc.alloc (Obj.cells #[.int .i64 2,.int .i64 2,.int .i64 9] 3)=wa;have ba:=zb hwa;have ka:=zk hwa;have hir:=zQ (base:=0) (by rw [← zE]; exact zS intF (base:=0) (l:=[2,2,9]) ka rfl (Nat.zero_le _) (by simp)) (by intro z hz; simp at hz; omega);(go_wp2_with fail);refine (zW _ 3 3 [2,2,9] _ hir (by omega)).mono ?_;rintro e wd ⟨na,nc,rfl,oN,hb⟩;have HI:Hid (I64s (nmI [2,2,9])):=hide (zaV hir.byte);have HO:=hide (zaS oN (Nat.le_trans HWC.out ba.size));have HW:=hide ((wn.made ba).made hb);clear ba ka hb oN hir hwa;go_wp2;go_ret;exact ⟨na,6,nc,nmI [2,2,9],rfl,by omega,rfl,HI.out,HO.out,HW.out⟩
  by_cases e3:sx=3
  ·subst e3;(go_wp2_with fail);refine (zI C a0 l0 c0 z0 9 _ wn.cur (by omega)).mono ?_;rintro e wz ⟨yx,rfl,yx0,yx1,-,wt⟩;have yx1:=yx1 (by omega);have HWC:Hid (w.heap.size≤wz.heap.size):=hide (Nat.le_trans HWC.out wt.grown.size);have wn:=wn.trans wt;clear wt;generalize wz=wc at *;generalize hwa:wc.alloc (Obj.cells #[.int .i64 3,.int .i64 1,.int .i64 (1+yx)] 3)=wa;have ba:=zb hwa;have ka:=zk hwa;have hir:=zQ (base:=0) (by rw [← zE]; exact zS intF (base:=0) (l:=[3,1,(1+yx)]) ka rfl (Nat.zero_le _) (by simp)) (by intro z hz; simp at hz; omega);(go_wp2_with fail);refine (zW _ 3 3 [3,1,(1+yx)] _ hir (by omega)).mono ?_;rintro e wd ⟨na,nc,rfl,oN,hb⟩;have HI:Hid (I64s (nmI [3,1,(1+yx)])):=hide (zaV hir.byte);have HO:=hide (zaS oN (Nat.le_trans HWC.out ba.size));have HW:=hide ((wn.made ba).made hb);clear ba ka hb oN hir hwa;go_wp2;go_ret;exact ⟨na,6,nc,nmI [3,1,(1+yx)],rfl,by omega,rfl,HI.out,HO.out,HW.out⟩
  by_cases e4:sx=4
  ·subst e4;generalize hwa:wc.alloc (Obj.cells #[.int .i64 2,.int .i64 2] 3)=wa;have ba:=zb hwa;have ka:=zk hwa;have hir:=zQ (base:=0) (by rw [← zE]; exact zS intF (base:=0) (l:=[2,2]) ka rfl (Nat.zero_le _) (by simp)) (by intro z hz; simp at hz; omega);(go_wp2_with fail);refine (zW _ 2 2 [2,2] _ hir (by omega)).mono ?_;rintro e wd ⟨na,nc,rfl,oN,hb⟩;have HI:Hid (I64s (nmI [2,2])):=hide (zaV hir.byte);have HO:=hide (zaS oN (Nat.le_trans HWC.out ba.size));have HW:=hide ((wn.made ba).made hb);clear ba ka hb oN hir hwa;go_wp2;go_ret;exact ⟨na,5,nc,nmI [2,2],rfl,by omega,rfl,HI.out,HO.out,HW.out⟩
  by_cases e5:sx=5
  ·subst e5;generalize hwa:wc.alloc (Obj.cells #[.int .i64 9] 3)=wa;have ba:=zb hwa;have ka:=zk hwa;have hir:=zQ (base:=0) (by rw [← zE]; exact zS intF (base:=0) (l:=[9]) ka rfl (Nat.zero_le _) (by simp)) (by intro z hz; simp at hz; omega);(go_wp2_with fail);refine (zW _ 1 1 [9] _ hir (by omega)).mono ?_;rintro e wd ⟨na,nc,rfl,oN,hb⟩;have HI:Hid (I64s (nmI [9])):=hide (zaV hir.byte);have HO:=hide (zaS oN (Nat.le_trans HWC.out ba.size));have HW:=hide ((wn.made ba).made hb);clear ba ka hb oN hir hwa;go_wp2;go_ret;exact ⟨na,4,nc,nmI [9],rfl,by omega,rfl,HI.out,HO.out,HW.out⟩
  by_cases e6:sx=6
  ·subst e6;generalize hwa:wc.alloc (Obj.cells #[.int .i64 4,.int .i64 1,.int .i64 2,.int .i64 11] 3)=wa;have ba:=zb hwa;have ka:=zk hwa;have hir:=zQ (base:=0) (by rw [← zE]; exact zS intF (base:=0) (l:=[4,1,2,11]) ka rfl (Nat.zero_le _) (by simp)) (by intro z hz; simp at hz; omega);(go_wp2_with fail);refine (zW _ 4 4 [4,1,2,11] _ hir (by omega)).mono ?_;rintro e wd ⟨na,nc,rfl,oN,hb⟩;have HI:Hid (I64s (nmI [4,1,2,11])):=hide (zaV hir.byte);have HO:=hide (zaS oN (Nat.le_trans HWC.out ba.size));have HW:=hide ((wn.made ba).made hb);clear ba ka hb oN hir hwa;go_wp2;go_ret;exact ⟨na,7,nc,nmI [4,1,2,11],rfl,by omega,rfl,HI.out,HO.out,HW.out⟩
  have n0:(sx == 0)=false:=by simp [e0]
  have n1:(sx == 1)=false:=by simp [e1]
  have n2:(sx == 2)=false:=by simp [e2]
  have n3:(sx == 3)=false:=by simp [e3]
  have n4:(sx == 4)=false:=by simp [e4]
  have n5:(sx == 5)=false:=by simp [e5]
  have n6:(sx == 6)=false:=by simp [e6]
  (go_wp2_with fail);refine (zdw C a0 l0 c0 z0 _ wn.cur).mono ?_;rintro e wd ⟨na,q,nc,zs,rfl,-,h2,hz,hP,oN,wt⟩;have HO:=hide (zaS oN HWC.out);have HW:=hide (wn.trans wt);clear oN wt wn;go_wp2;go_ret;exact ⟨na,q,nc,zs,rfl,by omega,hz,(fun z hzz=>by have:=hP z hzz; omega),HO.out,HW.out⟩

theorem zea (a0:Option Addr) (l0 c0:Nat) (z0:List Int) (w:World) (h0:Row w a0 l0 c0 z0) (hs:l0≤1048576) :
  Calls Tryz.prog 10 #[.slice a0 l0 c0] w fun e w'=>∃(m:Nat) (a:Option Addr) (c:Nat) (fa:Option Addr) (fn fc:Nat) (ra:Option Addr) (rn rc:Nat) (oa:Option Addr) (on oc:Nat) (B:BR) (no:Option Addr) (nq ncp:Nat) (zs:List Int),e=.returned (.tuple #[.agg #[.int .i64 B.id,.string B.name,.slice a m c,.slice fa fn fc,.slice ra rn rc,.slice oa on oc,.int .i64 B.ticks,.int .i64 B.parse,.int .i64 B.word,.int .i64 B.drops,.int .i64 B.vers],.slice no nq ncp])∧BrOwn w' w.heap.size a m c fa fn fc ra rn rc oa on oc B∧(DIn B m∧1≤m∧m≤4)∧nq≤13∧zs.length=nq∧I64s zs∧w'.ownsRow w.heap.size 3 1 (.slice no nq ncp) nq (cI zs)∧Below w.heap.size w w':=by
 generalize hwJ:w.alloc (Obj.cells #[.int .i64 0,.string ⟨#[]⟩,.slice none 0 0,.slice none 0 0,.slice none 0 0,.slice none 0 0,.int .i64 0,.int .i64 0,.int .i64 0,.int .i64 0,.int .i64 0] 31)=wJ;have bb:=zb hwJ;have zJ:w.heap.size < wJ.heap.size:=by rw [← hwJ]; simp
 have kJ:=zk hwJ;go_enter Tryz.func10,Tryz.ntmps10;go_wp2_with fail
 refine (ziI a0 l0 c0 z0 _ (h0.below bb) hs).mono ?_;rintro e w2 ⟨rfl,hc,hb2⟩;have hlt:=hc.lt;have kJ:=ze kJ hb2;have bb:=zd bb hb2;clear hb2 hwJ;generalize hC0:wJ.heap.size=C0 at *;go_wp2_with fail
 refine (zfs C0 a0 l0 c0 z0 _ hc).mono ?_;rintro e w3 ⟨m,a,c,fa,fn,fc,ra,rn,rc,oa,on,oc,B,rfl,own,hdi,hm1,hm4,wt⟩;have HDI:=hide (And.intro hdi (And.intro hm1 hm4));have hsz:=wt.grown.size;have hbb:=bb.size;have hc:=wt.cur;have hbx:w.heap.size≤w2.heap.size:=hbb;have kJ:=zr kJ wt.grown (fun i e=>by cases e; omega);have bb:=bb.trans (za5 wt.grown (by omega) (by omega));clear wt hdi hm1 hm4;generalize hwX:w3.alloc (Obj.cells #[.int .i64 B.id,.string B.name,.slice a m c,.slice fa fn fc,.slice ra rn rc,.slice oa on oc,.int .i64 B.ticks,.int .i64 B.parse,.int .i64 B.word,.int .i64 B.drops,.int .i64 B.vers] 31)=w4;have bX:=zb hwX;have kX:=zk hwX;have zX:w4.heap.size=w3.heap.size+1:=by rw [← hwX]; simp
 have own:=own.below bX;have kJ:=ze kJ bX;have hc:=hc.below bX;have bb:=zd bb bX;have hszX:w2.heap.size≤w4.heap.size:=by omega
 generalize hXB:w3.heap.size=XB at *;obtain ⟨x0,x1,x2,x3,x4,x5,x6,x7,x8,x9,x10⟩:=zj kX;have vv:Below w4.heap.size w4 w4.drew:=zv (Below.refl _ _);go_upto_region 3 with fail
 clear hwX x0 x1 x2 x3 x4 x5 x6 x7 x8 x9 x10;have hsz:w.heap.size≤w4.heap.size:=by omega
 refine wp_region_held_drew (S:=(fun W=>(zcc W XB 0 (.int .i64 B.id)∧zcc W XB 1 (.string B.name)∧zcc W XB 2 (.slice a m c)∧zcc W XB 3 (.slice fa fn fc)∧zcc W XB 4 (.slice ra rn rc)∧zcc W XB 5 (.slice oa on oc)∧zcc W XB 6 (.int .i64 B.ticks)∧zcc W XB 7 (.int .i64 B.parse)∧zcc W XB 8 (.int .i64 B.word)∧zcc W XB 9 (.int .i64 B.drops)∧zcc W XB 10 (.int .i64 B.vers)))) (by kernel_rfl) ((zj (by first | exact kX | exact ze kX vv))) (fun hHeld => ?_);refine kK 0 ?_;refine kK 1 ?_;refine kK 2 ?_;refine kR 3 fun K hK => ?_
 go_simp;clear hHeld;refine (zgt C0 a0 l0 c0 z0 a m c fa fn fc ra rn rc oa on oc B _ (hc.below vv) (own.row.below vv)).mono ?_;rintro e wz ⟨no,nq,ncp,zs,rfl,hq13,hzs,hzi,oZ,wt⟩;have oZ:=zaS oZ (Nat.le_trans hsz vv.size);have own:=(own.below vv).apart wt.grown (fun i e=>by cases e; exact hlt);have kX:=zr (ze kX vv) wt.grown (fun i e=>by cases e; omega);have kJ:=zr (ze kJ vv) wt.grown (fun i e=>by cases e; omega);have hsz2:=wt.grown.size;have hsz3:=vv.size;have bb:=(bb.trans (vv.mono hsz)).trans (za5 wt.grown (by omega) (by omega));have HQ:=hide (And.intro hq13 (And.intro hzs hzi));clear wt vv hq13 hzs hzi;go_wp2_with fail
 refine kO hK ((zj (by first | exact kX | exact ze kX vv))) fun hHeld => ?_
 clear hK K;refine kR 4 fun K hK => ?_
 clear hHeld;obtain ⟨u0,u1,u2,u3,u4,u5,u6,u7,u8,u9,u10⟩:=zj kJ;have fr:=zad kJ;have fr0:=fr 0;have fr1:=fr 1;have fr2:=fr 2;have fr3:=fr 3;have fr4:=fr 4;have fr5:=fr 5;have fr6:=fr 6;have fr7:=fr 7;have fr8:=fr 8;have fr9:=fr 9;have fr10:=fr 10;go_simp;refine zgu (K:=K _) kJ _ _ _ _ _ _ _ _ _ _ _ (fun wq kQ gQ => ?_);have HO:=hide (BrOwn.lt (own.grownBox kJ gQ) hbx);have HZ:=hide (zC oZ gQ (zaq oZ kJ (by decide)));have HB:=hide (bb.grown gQ bb.size (fun k e=>by cases e; exact Nat.le_refl _));have kX:=zr kX gQ (fun i e=>by cases e; omega);clear fr fr0 fr1 fr2 fr3 fr4 fr5 fr6 fr7 fr8 fr9 fr10 u0 u1 u2 u3 u4 u5 u6 u7 u8 u9 u10;refine kO hK ((zj (by first | exact kX | exact ze kX vv))) fun hHeld => ?_
 clear hK K;refine kK 5 ?_;refine wpAnyH_done (by kernel_rfl) ?_ _;clear hHeld kX oZ own bb kJ gQ;obtain ⟨u0,u1,u2,u3,u4,u5,u6,u7,u8,u9,u10⟩:=zj kQ;clear kQ;go_wp2;exact bodyPost_ret (v:=.tuple #[.agg #[.int .i64 B.id,.string B.name,.slice a m c,.slice fa fn fc,.slice ra rn rc,.slice oa on oc,.int .i64 B.ticks,.int .i64 B.parse,.int .i64 B.word,.int .i64 B.drops,.int .i64 B.vers],.slice no nq ncp]) (by simp [results,Tryz.results10,go_sem, *]) rfl ⟨m,a,c,fa,fn,fc,ra,rn,rc,oa,on,oc,B,no,nq,ncp,zs,rfl,HO.out,HDI.out,HQ.out.1,HQ.out.2.1,HQ.out.2.2,HZ.out,HB.out⟩

theorem zi1 {B:BR} {m:Nat} (h:DIn B m) (h1:1≤m) (h4:m≤4):zH B=true:=by
 have hn:=h.name;have hid:=h.id;have hz:=h.z;have ht:=h.t;have hv:=h.n;refine zfh ⟨by rw [List.all_eq_true]; exact h.ports, ?_,by omega, ?_,h.f,by rw [h.len]; exact h.v.ok, ?_, ?_, ?_, ?_, ?_⟩
 ·unfold in3; simp; omega
 ·rw [h.len]; unfold in3; simp; omega
 all_goals (rw [zhU]; omega)

theorem zgW {w:World} {a:Option Addr} {m c:Nat} {fa:Option Addr} {fn fc:Nat} {ra:Option Addr} {rn rc:Nat} {oa:Option Addr} {on oc:Nat} {B:BR} (h:DIn B m) (h4:m≤4) (r:BrRow w a m c fa fn fc ra rn rc oa on oc B):m≤1048576∧fn≤1048576∧rn≤1048576∧on≤1048576:=by
 have e2:=r.f.size;have e3:=r.v.rows.size;have e4:=r.v.own.size;have d2:=zhg h.f;have d3:=h.v.len;have d4:=h.v.own;omega

end Go.Proofs.YtcpdkcdfnpcemaaGreat
