/-
  Packed: ChgRow ChgSem ChgSt.
-/
import Derived.Test.YtcpdkcdfnpcemaaGreatPRBrWithin
namespace Go.Proofs.YtcpdkcdfnpcemaaGreat
set_option maxRecDepth 100000
set_option maxHeartbeats 16000000
open Go.RowKit

section
open Go.RowKit

theorem zbV {W0 W:World} {X:Nat} {c0:Value} {T:TypeId} {K:World→Prop} (hk:W.heap[X]? = some (.cells #[c0] T)) (hv:Below W0.heap.size W0 W) (hX:W0.heap.size≤X) (u:Value) (h:∀wq,wq.heap[X]? = some (.cells #[u] T)→Below W0.heap.size W0 wq→K wq):K (W.setCell ⟨X,0,none⟩ u):=by
 refine h _ ?_ (hv.setCell (p:=⟨X,0,none⟩) hX u)
 have:=zp (j:=0) hk u
 simpa using this

theorem zdR {l:List VR} {id:Int}:0≤rowAt l id↔(zI l id).isSome=true:=by
 unfold rowAt;cases zI l id with
 | none=>simp
 | some k=>simp

section
variable {w:World} {base X:Nat} {a:Option Addr} {n c:Nat} {fa:Option Addr} {fn fc:Nat} {ra:Option Addr} {rn rc:Nat} {oa:Option Addr} {on oc:Nat} {B:BR} {ua:Option Addr} {un uc:Nat}

theorem zf7 {α:Type} {F:Flat α} {T:TypeId} {l:List α} (h:w.ownsRow base T F.k (.slice ra rn rc) rn (F.all l)):ra=none∨∃b off,ra=some ⟨b,off,none⟩:=by
 obtain ⟨-,⟨e,-⟩ | ⟨g,cap',cur,e,-⟩⟩:=h
 ·cases e;exact .inl rfl
 ·cases e;exact .inr ⟨g,0,rfl⟩

theorem zfW (h:Tr w base X a n c fa fn fc ra rn rc oa on oc B ua un uc) (id:Int) :
  Calls Tryz.prog 264 #[.pointer (some ⟨X,0,none⟩),.int .i64 id] w fun e w'=>∃tb ib eb mb:Nat,e=.returned (.agg #[.int .i64 2,.func (.func 281) #[] #[.pointer (some ⟨eb,0,none⟩),.pointer (some ⟨mb,0,none⟩)],.func (.func 282) #[] #[.pointer (some ⟨tb,0,none⟩),.pointer (some ⟨ib,0,none⟩)]]) ∧
   w'.heap[eb]? = some (.cells #[.bool (zI B.v.rows id).isSome] 4)∧w'.heap[mb]? = some (.cells #[.bool (decide ((rn:Int) < 6))] 4)∧Cap w' tb X∧w'.heap[ib]? = some (.cells #[.int .i64 id] 3)∧Below w.heap.size w w':=by
 have hge:=zdR (l:=B.v.rows) (id:=id);have HR:=hide (zE (F:=vrowF) h.own.v.rows);generalize hw1:w.alloc (Obj.cells #[.pointer (some ⟨X,0,none⟩)] 96)=w1;have b1:=zb hw1;have k1:Cap w1 w.heap.size X:=by rw [← hw1]; exact zv _ _
 generalize hw2:w1.alloc (Obj.cells #[.int .i64 id] 3)=w2;have b2:=zb hw2;have k2:=zk hw2;generalize hw3:w2.alloc (Obj.cells #[.int .i64 0,.nilFunc,.nilFunc] 199)=w3;have b3:=zb hw3;have k3:=zk hw3;have b03:=zd (zd b1 b2) b3;have HS:Hid (∀W,Below w3.heap.size w3 W→(zcc W w.heap.size 0 (.pointer (some ⟨X,0,none⟩))∧zcc W w1.heap.size 0 (.int .i64 id)∧zcc W X 5 (.slice ra rn rc)∧zcc W X 6 (.slice oa on oc))):=hide (fun W hW=>by
  obtain ⟨-,-,-,-,-,x5,x6,-⟩:=zaD (ze h.box (zd b03 hW));exact ⟨cell1 ((k1.below (zd b2 b3)).below hW),cell1 (ze (ze k2 b3) hW),x5,x6⟩)
 have l1:=(Array.getElem?_eq_some_iff.1 (show w1.heap[w.heap.size]? = _ from k1)).1;have l2:=(Array.getElem?_eq_some_iff.1 k2).1;have s2:=b2.size;have HM:Hid (w.heap.size≠w2.heap.size∧w1.heap.size≠w2.heap.size∧w.heap.size≤w2.heap.size):=hide ⟨by omega,by omega,by omega⟩;have HZ3:Hid (w2.heap.size < w3.heap.size):=hide (Array.getElem?_eq_some_iff.1 k3).1;have HB3:=hide b03;have HK3:=hide k3;have HCT:=hide (k1.below (zd b2 b3));have HKI:=hide (ze k2 b3);have vv:Below w3.heap.size w3 w3.drew:=zr (Below.refl _ _);clear l1 l2 s2 b1 b2 b3 b03 k1 k2 k3 h;go_enter Tryz.func264,Tryz.ntmps264;go_upto_region 1 with fail
 try rw [hw3]
 clear hw1 hw2 hw3;refine wp_region_held_drew (S:=(fun W=>zcc W w.heap.size 0 (.pointer (some ⟨X,0,none⟩))∧zcc W w1.heap.size 0 (.int .i64 id)∧zcc W X 5 (.slice ra rn rc)∧zcc W X 6 (.slice oa on oc))) (by kernel_rfl) (HS.out _ vv) (fun hHeld => ?_)
 repeat' first
 |
  with_reducible refine kLa ?_
  first
  |
   refine kLf 0 ?_;refine kK 0 ?_
  |
   refine kLf 1 ?_;refine kK 1 ?_
  |
   refine kLf 2 ?_;refine kK 2 ?_
  |
   refine kLf 3 ?_;refine kK 3 ?_
  |
   refine kLf 4 ?_;refine kK 4 ?_
  |
   refine kLf 5 ?_;refine kK 5 ?_
  |
   refine kLf 6 ?_;refine kK 6 ?_
  |
   refine kLf 8 ?_;refine kK 8 ?_
  |
   refine kLp [7,9] ?_
  |
   refine kLp [9] ?_
  |
   refine kLp [10] ?_
  |
   refine kLp [7] ?_
  |
   refine wpAnyH_done (by kernel_rfl) ?_ _;have HT:=hide kX;have HV:=hide vv;obtain ⟨s0,s1,s2,s3⟩:=HS.out _ vv;clear hHeld vv kX;generalize hwm:wq.alloc (Obj.cells #[.bool false] 4)=wm;have bm:=zb hwm;have km:=zk hwm;have q0:=cell1 km;have fq:=zm km 0;(go_upto_region 3 with fail);(try rw [hwm]);clear s0 s1 s2 s3 q0 fq hwm;have HTQ:Hid (TB < wq.heap.size):=hide (Array.getElem?_eq_some_iff.1 HT.out).1;refine zbV (K:=fun W=>Code.wp _ _ _ _ W) km bm (Nat.le_refl _) _ (fun wn km bn => ?_);have b3n:=zd HV.out bn;have ks:=ze HK3.out b3n;obtain ⟨y0,y1,y2⟩:=zag ks;have f0:=zm ks 0;have f1:=zm ks 1;have f2:=zm ks 2;have HQ:=hide (And.intro (ze HT.out bn) (And.intro km (And.intro (HCT.out.below b3n) (ze HKI.out b3n))));have HBN:=hide (zd HB3.out b3n);have HVS:=hide HV.out.size;clear bm bn b3n km ks;go_wp2;obtain ⟨q1,q2,q3,q4⟩:=HQ.out;obtain ⟨m1,m2,m3⟩:=HM.out;have m4:TB≠w2.heap.size:=by have:=HTL.out; have:=HZ3.out; omega
   have m5:wq.heap.size≠w2.heap.size:=by have:=HVS.out; have:=HZ3.out; omega
   exact bodyPost_ret (v:=.agg #[.int .i64 2,.func (.func 281) #[] #[.pointer (some ⟨TB,0,none⟩),.pointer (some ⟨wq.heap.size,0,none⟩)],.func (.func 282) #[] #[.pointer (some ⟨w.heap.size,0,none⟩),.pointer (some ⟨w1.heap.size,0,none⟩)]]) (by simp [results,Tryz.results264,go_sem, *]) rfl ⟨w.heap.size,w1.heap.size,TB,wq.heap.size,rfl,zx (zx (zx q1 m4) m4) m4,zx (zx (zx q2 m5) m5) m5,zx (zx (zx q3 m1) m1) m1,zx (zx (zx q4 m2) m2) m2,zg (zg (zg HBN.out m3 0 _) m3 1 _) m3 2 _⟩
 |
  exact AllReadyH.nil
 |
  refine kLc 7 (fun K hK => ?_) ?_;go_simp;clear hHeld;refine (zaE ra rn rc B.v.rows oa on oc id _ (HR.out.below (zd HB3.out vv))).mono ?_;rintro e z1 ⟨rfl,hz1⟩;have vv:=zd vv hz1;(try have kX:=ze kX hz1);clear hz1;(go_wp2_with fail);refine kO hK (HS.out _ vv) fun hHeld => ?_
  clear hK K
 |
  refine kLc 9 (fun K hK => ?_) ?_;go_simp
  first
  | refine zac (K:=K _) (fun wx kX hbx => ?_)
  | refine zR (K:=K _) (fun wx kX hbx => ?_)
  obtain ⟨TB,hXe,hXl⟩:=zc2 vv;have HTL:=hide hXl;have kX:wx.heap[TB]? = some (Obj.cells #[.bool false] 4):=by rw [hXe]; exact kX
  first
  | rw [← hXe]
  | rw [← (show TB=w3.heap.size from hXe)]
  clear hXe hXl;have vv:=zd vv hbx;clear hbx;refine kO hK (HS.out _ vv) fun hHeld => ?_
  clear hK K
 |
  refine kLc 10 (fun K hK => ?_) ?_;have q0:=cell1 kX;have fq:=zm kX 0;go_simp;clear q0 fq;refine zbV (K:=K _) kX vv HTL.out _ (fun wq kX vv => ?_);refine kO hK (HS.out _ vv) fun hHeld => ?_
  clear hK K

theorem zfU (eb mb:Nat) (et mt:Bool) (K N:Int) (S:ByteArray) (za:Option Addr) (zn zc:Nat) (w:World) (k1:w.heap[eb]? = some (.cells #[.bool et] 4)) (k2:w.heap[mb]? = some (.cells #[.bool mt] 4)) :
  Calls Tryz.prog 281 #[.agg #[.int .i64 K,.int .i64 N,.string S,.slice za zn zc],.pointer (some ⟨eb,0,none⟩),.pointer (some ⟨mb,0,none⟩)] w fun e w'=>e=.returned (.bool ((decide (N=4) && (!et && mt)) || (decide (N=6) && et)))∧Below w.heap.size w w':=by
 generalize hw1:w.alloc (Obj.cells #[.int .i64 K,.int .i64 N,.string S,.slice za zn zc] 35)=w1;have b1:=zb hw1;have kv:=zk hw1;obtain ⟨⟨p0,p1,p2,p3⟩,-⟩:=zah kv;have c1:=cell1 (ze k1 b1);have c2:=cell1 (ze k2 b1);have HB:=hide b1;clear b1 kv k1 k2;by_cases h4:N=4
 ·subst h4;cases et <;> cases mt
  all_goals
   go_enter Tryz.func281,Tryz.ntmps281;go_wp2;go_ret;exact ⟨rfl,HB.out⟩
 ·by_cases h6:N=6
  ·subst h6;cases et
   all_goals
    go_enter Tryz.func281,Tryz.ntmps281;go_wp2;go_ret;exact ⟨rfl,HB.out⟩
  ·have HR:Hid (((decide (N=4) && (!et && mt)) || (decide (N=6) && et))=false):=hide (by rw [decide_eq_false h4,decide_eq_false h6]; rfl);go_enter Tryz.func281,Tryz.ntmps281;go_wp2;go_ret;exact ⟨by rw [HR.out]; rfl,HB.out⟩

theorem zhN (h:Tr w base X a n c fa fn fc ra rn rc oa on oc B ua un uc) (hm:B.v.rows.length≤6):rn≤16777216:=by
 have:=(zE (F:=vrowF) h.own.v.rows).size
 omega

theorem zfV (h:Tr w base X a n c fa fn fc ra rn rc oa on oc B ua un uc) (hm:B.v.rows.length≤6) (tb ib:Nat) (id:Int) (K N:Int) (S:ByteArray) (za:Option Addr) (zn zc:Nat) (ht:Cap w tb X) (hi:w.heap[ib]? = some (.cells #[.int .i64 id] 3)) (hrs:vrises B.v.rows=true) (h4:N=4) :
  Calls Tryz.prog 282 #[.agg #[.int .i64 K,.int .i64 N,.string S,.slice za zn zc],.pointer (some ⟨tb,0,none⟩),.pointer (some ⟨ib,0,none⟩)] w fun e w'=>∃(x:CL) (wm:World) (ra':Option Addr) (rn' rc':Nat),e=.returned x.fn∧Exch w w' X 5 (.slice ra rn rc) (.slice ra' rn' rc') x wm∧wm.ownsRow w.heap.size 119 3 (.slice ra' rn' rc') rn' (vrowF.all (zy B.v.rows ⟨id,0,0⟩ false)):=by
 subst h4;have HRS:=hide hrs;clear hrs;have hn:=zhN h hm;have HH:=hide h;have HR:=hide (zE (F:=vrowF) h.own.v.rows);have HNR:=hide hn;have HA:=hide (zf7 h.own.v.rows);generalize hw1:w.alloc (Obj.cells #[.int .i64 K,.int .i64 4,.string S,.slice za zn zc] 35)=w1;have b1:=zb hw1;have k1:=zk hw1;have HS:Hid (∀W,Below w1.heap.size w1 W→(zcc W tb 0 (.pointer (some ⟨X,0,none⟩))∧zcc W ib 0 (.int .i64 id)∧zcc W X 5 (.slice ra rn rc)∧zcc W X 6 (.slice oa on oc))):=hide (fun W hW=>by
  have q:=zd b1 hW;obtain ⟨-,-,-,-,-,x5,x6,-⟩:=zaD (ze h.box q);exact ⟨cell1 (ht.below q),cell1 (ze hi q),x5,x6⟩)
 obtain ⟨⟨p0,p1,p2,p3⟩,-⟩:=zah k1;clear h hn ht hi;go_enter Tryz.func282,Tryz.ntmps282;go_upto_region 3 with fail
 try rw [hw1]
 clear p0 p1 p2 p3 hw1 k1;have vv:Below w1.heap.size w1 w1.drew:=zr (Below.refl _ _);refine wp_region_held_drew (S:=(fun W=>zcc W tb 0 (.pointer (some ⟨X,0,none⟩))∧zcc W ib 0 (.int .i64 id)∧zcc W X 5 (.slice ra rn rc)∧zcc W X 6 (.slice oa on oc))) (by kernel_rfl) (HS.out _ vv) (fun hHeld => ?_);refine kK 0 ?_;refine kK 1 ?_;refine kK 2 ?_;refine kK 3 ?_;refine kK 4 ?_;refine kK 5 ?_;refine kK 7 ?_;refine kK 8 ?_;refine kR 6 fun K hK => ?_
 go_simp;clear hHeld;refine (zaX ra rn rc oa on oc _).mono ?_;rintro e z1 ⟨rfl,hz1⟩;have vv:=zd vv hz1;clear hz1;go_wp2_with fail
 refine kO hK (HS.out _ vv) fun hHeld => ?_
 clear hK K;refine kR 9 fun K hK => ?_
 go_simp;clear hHeld;refine (zet ra rn rc B.v.rows ⟨id,0,0⟩ _ (HR.out.below (zd b1 vv)) HA.out HNR.out).mono ?_;rintro e z2 ⟨a',n',c',L,rfl,-,how,hL,-,hz2⟩;have hL:=hL HRS.out;rw [hL] at how;have vv0:=vv;have how:=zdL how (base':=w.heap.size) (zd b1 vv).size;have vv:=zd vv hz2;clear hz2 vv0 hL;go_wp2_with fail
 refine kO hK (HS.out _ vv) fun hHeld => ?_
 clear hK K;refine kK 10 ?_;refine wpAnyH_done (by kernel_rfl) ?_ _;have HO:=hide how;have HBV:=hide (zd b1 vv);obtain ⟨s0,s1,s2,s3⟩:=HS.out _ vv;have fX:=(HH.out.below HBV.out).fr 5;clear hHeld how vv;go_wp2_with fail
 refine (zc4 X 5 ra a' rn rc n' c' _ s2 fX).mono ?_;rintro e z3 ⟨x,wm,rfl,ex⟩;have HX:=hide (ex.later HBV.out);have HOW:=hide (zaJ HO.out ex.below);clear ex s0 s1 s2 s3 fX;go_wp2;go_ret;exact ⟨x,wm,a',n',c',rfl,HX.out,HOW.out⟩

theorem zfu (h:Tr w base X a n c fa fn fc ra rn rc oa on oc B ua un uc) (hm:B.v.rows.length≤6) (tb ib:Nat) (id:Int) (K N:Int) (S:ByteArray) (za:Option Addr) (zn zc:Nat) (ht:Cap w tb X) (hi:w.heap[ib]? = some (.cells #[.int .i64 id] 3)) (h4:N≠4) (k:Nat) (hk:zI B.v.rows id=some k) :
  Calls Tryz.prog 282 #[.agg #[.int .i64 K,.int .i64 N,.string S,.slice za zn zc],.pointer (some ⟨tb,0,none⟩),.pointer (some ⟨ib,0,none⟩)] w fun e w'=>∃(x:CL) (wm:World) (ra':Option Addr) (rn' rc':Nat),e=.returned x.fn∧Exch w w' X 5 (.slice ra rn rc) (.slice ra' rn' rc') x wm∧wm.ownsRow w.heap.size 119 3 (.slice ra' rn' rc') rn' (vrowF.all (B.v.rows.filter (fun r=>r.i != id))):=by
 have HKI:=hide hk;clear hk;have hn:=zhN h hm;have HH:=hide h;have HR:=hide (zE (F:=vrowF) h.own.v.rows);have HNR:=hide hn;have HA:=hide (zf7 h.own.v.rows);generalize hw1:w.alloc (Obj.cells #[.int .i64 K,.int .i64 N,.string S,.slice za zn zc] 35)=w1;have b1:=zb hw1;have k1:=zk hw1;have HS:Hid (∀W,Below w1.heap.size w1 W→(zcc W tb 0 (.pointer (some ⟨X,0,none⟩))∧zcc W ib 0 (.int .i64 id)∧zcc W X 5 (.slice ra rn rc)∧zcc W X 6 (.slice oa on oc))):=hide (fun W hW=>by
  have q:=zd b1 hW;obtain ⟨-,-,-,-,-,x5,x6,-⟩:=zaD (ze h.box q);exact ⟨cell1 (ht.below q),cell1 (ze hi q),x5,x6⟩)
 obtain ⟨⟨p0,p1,p2,p3⟩,-⟩:=zah k1;clear h hn ht hi;go_enter Tryz.func282,Tryz.ntmps282;go_upto_region 4 with fail
 try rw [hw1]
 clear p0 p1 p2 p3 hw1 k1;have vv:Below w1.heap.size w1 w1.drew:=zr (Below.refl _ _);refine wp_region_held_drew (S:=(fun W=>zcc W tb 0 (.pointer (some ⟨X,0,none⟩))∧zcc W ib 0 (.int .i64 id)∧zcc W X 5 (.slice ra rn rc)∧zcc W X 6 (.slice oa on oc))) (by kernel_rfl) (HS.out _ vv) (fun hHeld => ?_);refine kK 0 ?_;refine kK 1 ?_;refine kK 2 ?_;refine kK 3 ?_;refine kK 4 ?_;refine kK 5 ?_;refine kK 7 ?_;refine kR 6 fun K hK => ?_
 go_simp;clear hHeld;refine (zaX ra rn rc oa on oc _).mono ?_;rintro e z1 ⟨rfl,hz1⟩;have vv:=zd vv hz1;clear hz1;go_wp2_with fail
 refine kO hK (HS.out _ vv) fun hHeld => ?_
 clear hK K;refine kR 8 fun K hK => ?_
 go_simp;clear hHeld;refine (zda ra rn rc B.v.rows id k _ (HR.out.below (zd b1 vv)) HNR.out HKI.out).mono ?_;rintro e z2 ⟨a',n',c',-,rfl,how,hz2⟩;have how:=zdL how (base':=w.heap.size) (zd b1 vv).size;have vv:=zd vv hz2;clear hz2;go_wp2_with fail
 refine kO hK (HS.out _ vv) fun hHeld => ?_
 clear hK K;refine kK 9 ?_;refine wpAnyH_done (by kernel_rfl) ?_ _;have HO:=hide how;have HBV:=hide (zd b1 vv);obtain ⟨s0,s1,s2,s3⟩:=HS.out _ vv;have fX:=(HH.out.below HBV.out).fr 5;clear hHeld how vv;go_wp2_with fail
 refine (zc4 X 5 ra a' rn rc n' c' _ s2 fX).mono ?_;rintro e z3 ⟨x,wm,rfl,ex⟩;have HX:=hide (ex.later HBV.out);have HOW:=hide (zaJ HO.out ex.below);clear ex s0 s1 s2 s3 fX;go_wp2;go_ret;exact ⟨x,wm,a',n',c',rfl,HX.out,HOW.out⟩
end

end

section
open Go.RowKit

def zeJ (w:World) (f:Nat) (caps:Array Value) (p:Int→ByteArray→Bool):Prop :=
 (∀args w,(callFunc f args).run Tryz.prog w=.ok (.enter f args) w)∧∀w',Below w.heap.size w w'→∀(K N:Int) (S:ByteArray) (za:Option Addr) (zn zc:Nat),I64 N→S.size≤16777216→Calls Tryz.prog f (#[.agg #[.int .i64 K,.int .i64 N,.string S,.slice za zn zc]]++caps) w' fun e w''=>e=.returned (.bool (p N S))∧Below w'.heap.size w' w''

def BlkC (X:Nat) (a oa:Option Addr) (b:Nat) (T:TypeId):Prop:=(T=103∧b=X)∨(T=113∧a=some ⟨b,0,none⟩)∨(T=3∧oa=some ⟨b,0,none⟩)∨T=119

def PutsC (w:World) (base X:Nat) (a:Option Addr) (n c:Nat) (fa:Option Addr) (fn fc:Nat) (oa:Option Addr) (on oc:Nat) (B:BR) (ua:Option Addr) (un uc:Nat) (f:Nat) (caps:Array Value) (kd:KD):Prop :=
 (∀args w,(callFunc f args).run Tryz.prog w=.ok (.enter f args) w)∧∀w',Below w.heap.size w w'→∀(K N:Int) (S:ByteArray) (za:Option Addr) (zn zc:Nat),I64 N→S.size≤16777216→zbK B N S kd=true→Calls Tryz.prog f (#[.agg #[.int .i64 K,.int .i64 N,.string S,.slice za zn zc]]++caps) w' fun e w'' =>
  ∃(x:CL) (wm:World) (u:Value) (ra':Option Addr) (rn' rc':Nat),e=.returned x.fn∧Exch w' w'' x.b x.j x.v u x wm∧Tr w'' base X a n c fa fn fc ra' rn' rc' oa on oc (putK B N S kd) ua un uc∧(∃(cs:Array Value) (T:TypeId),wm.heap[x.b]? = some (.cells cs T)∧cs[x.j]? = some x.v∧BlkC X a oa x.b T)∧¬(x.b=X∧x.j=12)∧base≤x.b∧x.b < w'.heap.size

structure NumAt (w:World) (wb lb hb F:Nat) (caps:Array Value) (lo hi:Int):Prop where
 f:w.heap[wb]? = some (.cells #[.func (.func F) #[] caps] 291)
 l:w.heap[lb]? = some (.cells #[.int .i64 lo] 3)
 h:w.heap[hb]? = some (.cells #[.int .i64 hi] 3)

theorem zD {w:World} {i j:Nat} {c d:Array Value} {S T:TypeId} (h:w.heap[i]? = some (.cells c S)) (k:w.heap[j]? = some (.cells d T)) (hne:S≠T):i≠j:=by
 rintro rfl;rw [h] at k;cases k;exact hne rfl

theorem zbj {W0 W:World} {X:Nat} {c0 c1 c2:Value} {T:TypeId} {K:World→Prop} (hk:W.heap[X]? = some (.cells #[c0,c1,c2] T)) (hv:Below W0.heap.size W0 W) (hX:W0.heap.size≤X) (u0 u1 u2:Value) (h:∀wq,wq.heap[X]? = some (.cells #[u0,u1,u2] T)→Below W0.heap.size W0 wq→wq=(((W.setCell ⟨X,0,none⟩ u0).setCell ⟨X,1,none⟩ u1).setCell ⟨X,2,none⟩ u2)→K wq):K (((W.setCell ⟨X,0,none⟩ u0).setCell ⟨X,1,none⟩ u1).setCell ⟨X,2,none⟩ u2):=by
 refine h _ ?_ (zg (zg (zg hv hX 0 u0) hX 1 u1) hX 2 u2) rfl;have h2:=zp (j:=2) (zp (j:=1) (zp (j:=0) hk u0) u1) u2
 simpa using h2

theorem NumAt.below {w w':World} {wb lb hb F:Nat} {caps:Array Value} {lo hi:Int} (h:NumAt w wb lb hb F caps lo hi) (q:Below w.heap.size w w'):NumAt w' wb lb hb F caps lo hi:=⟨ze h.f q,ze h.l q,ze h.h q⟩

theorem kept3 {W:World} {s i:Nat} {o:Obj} (h:W.heap[i]? = some o) (hne:i≠s) (u0 u1 u2:Value):(((W.setCell ⟨s,0,none⟩ u0).setCell ⟨s,1,none⟩ u1).setCell ⟨s,2,none⟩ u2).heap[i]? = some o:=zx (zx (zx h hne) hne) hne

section
variable {w W:World} {base X:Nat} {a:Option Addr} {n c:Nat} {fa:Option Addr} {fn fc:Nat} {ra:Option Addr} {rn rc:Nat} {oa:Option Addr} {on oc:Nat} {B:BR} {ua:Option Addr} {un uc:Nat}

theorem Tr.stored3 (h:Tr w base X a n c fa fn fc ra rn rc oa on oc B ua un uc) {s:Nat} {cs:Array Value} (hs:w.heap[s]? = some (.cells cs 199)) (u0 u1 u2:Value):Tr (((w.setCell ⟨s,0,none⟩ u0).setCell ⟨s,1,none⟩ u1).setCell ⟨s,2,none⟩ u2) base X a n c fa fn fc ra rn rc oa on oc B ua un uc:=by
 have hne:=zD h.box hs (by decide);refine ⟨kept3 h.box hne _ _ _, ?_,h.hX⟩;exact ((h.own.other hs (by decide) (by decide) (by decide) (by decide) 0 u0).other (zp hs u0) (by decide) (by decide) (by decide) (by decide) 1 u1).other (zp (zp hs u0) u1) (by decide) (by decide) (by decide) (by decide) 2 u2

theorem Tr.base_le (h:Tr w base X a n c fa fn fc ra rn rc oa on oc B ua un uc) (hm:Mid B):base≤w.heap.size:=by
 have hl:=(zE (F:=ptF) h.own.ports).size
 have:=hm.pn
 obtain ⟨g,-,h1,h2⟩:=zbC (F:=ptF) h.own.ports (by omega);omega

theorem zck {wb lb hb F:Nat} {caps:Array Value} {lo hi:Int} (h:NumAt w wb lb hb F caps lo hi):zeJ w 278 #[.pointer (some ⟨lb,0,none⟩),.pointer (some ⟨hb,0,none⟩)] (fun N _=>in3 N lo hi) :=
 ⟨enters_of Tryz.func278 (by kernel_rfl) rfl,fun w' hb' K N S za zn zc _ _=>zhl lb hb lo hi K N S za zn zc w' (ze h.l hb') (ze h.h hb')⟩

theorem zhH (h:Tr w base X a n c fa fn fc ra rn rc oa on oc B ua un uc)  {tb pb wb lb hb p:Nat} {lo hi:Int} (ht:Cap w tb X) (hp:w.heap[pb]? = some (.cells #[.int .i64 (p:Int)] 3)) (hn:p < n) (hN:NumAt w wb lb hb 262 #[.pointer (some ⟨tb,0,none⟩),.pointer (some ⟨pb,0,none⟩)] lo hi) :
  PutsC w base X a n c fa fn fc oa on oc B ua un uc 279 #[.pointer (some ⟨wb,0,none⟩)] (.cost p):=by
 refine ⟨enters_of Tryz.func279 (by kernel_rfl) rfl,fun w' hw K N S za zn zc hNI _ _ => ?_⟩;have h':=h.below hw;obtain ⟨g,hga,hgb,hgl⟩:=zbC (F:=ptF) h'.own.ports (show 0 < _ by omega);subst hga;have hpl:=(zE (F:=ptF) h'.own.ports).size;obtain ⟨x0,hx⟩:∃x0,B.ports[p]? = some x0:=⟨_,List.getElem?_eq_getElem (by omega)⟩;have hc:=zaB (F:=ptF) h'.own.ports hx (j:=1) (v:=.int .i64 x0.k) rfl;have hblk:=zcf (F:=ptF) h'.own.ports hx (j:=1) rfl;obtain ⟨cs,hcs,-⟩:=hblk;refine (zcp 262 #[.pointer (some ⟨tb,0,none⟩),.pointer (some ⟨pb,0,none⟩)] wb g (p*8+1) _ K N S za zn zc w' (ze hN.f hw) (enters_of Tryz.func262 (by kernel_rfl) rfl) (fun w1 hw1=>zeH (h'.below hw1) tb pb p ((ht.below hw).below hw1) (ze (ze hp hw) hw1) hn) hc.1 hc.2 (zD (ze hN.f hw) hcs (by decide))).mono ?_;rintro e w'' ⟨x,wm,rfl,ex⟩;have hm:=h'.below ex.below;obtain ⟨cs2,hcs2,hv2⟩:=zcf (F:=ptF) hm.own.ports hx (j:=1) rfl;have e1:=ex.eb;have e2:=ex.ej;have e3:=ex.ev;have e4:=ex.set;refine ⟨x,wm,.int .i64 N,ra,rn,rc,rfl,by rw [e1,e2,e3]; exact ex, ?_,⟨cs2,_,by rw [e1]; exact hcs2,by rw [e2,e3]; first | exact hv2 | simpa [intF] using hv2,.inr (.inl ⟨rfl,by rw [e1]⟩)⟩, ?_,by rw [e1]; exact hgb,by rw [e1]; exact hgl⟩
 ·rw [e4]
  have:=hm.cost hx N
  simp only [putK,hx];exact this
 ·rintro ⟨e5,-⟩;rw [e1] at e5;exact absurd e5 (zD hcs h'.box (by decide))

theorem ziy (h:Tr w base X a n c fa fn fc ra rn rc oa on oc B ua un uc)  {tb pb wb lb hb p:Nat} {lo hi:Int} (ht:Cap w tb X) (hp:w.heap[pb]? = some (.cells #[.int .i64 (p:Int)] 3)) (hn:p < rn) (hN:NumAt w wb lb hb 265 #[.pointer (some ⟨tb,0,none⟩),.pointer (some ⟨pb,0,none⟩)] lo hi) :
  PutsC w base X a n c fa fn fc oa on oc B ua un uc 279 #[.pointer (some ⟨wb,0,none⟩)] (.mem p):=by
 refine ⟨enters_of Tryz.func279 (by kernel_rfl) rfl,fun w' hw K N S za zn zc hNI _ _ => ?_⟩;have h':=h.below hw;obtain ⟨g,hga,hgb,hgl⟩:=zbC (F:=vrowF) h'.own.v.rows (show 0 < _ by omega);subst hga;have hpl:=(zE (F:=vrowF) h'.own.v.rows).size;obtain ⟨x0,hx⟩:∃x0,B.v.rows[p]? = some x0:=⟨_,List.getElem?_eq_getElem (by omega)⟩;have hc:=zaB (F:=vrowF) h'.own.v.rows hx (j:=1) (v:=.int .i64 x0.m) rfl;have hblk:=zcf (F:=vrowF) h'.own.v.rows hx (j:=1) rfl;obtain ⟨cs,hcs,-⟩:=hblk;refine (zcp 265 #[.pointer (some ⟨tb,0,none⟩),.pointer (some ⟨pb,0,none⟩)] wb g (p*3+1) _ K N S za zn zc w' (ze hN.f hw) (enters_of Tryz.func265 (by kernel_rfl) rfl) (fun w1 hw1=>zft (h'.below hw1) tb pb p ((ht.below hw).below hw1) (ze (ze hp hw) hw1) hn) hc.1 hc.2 (zD (ze hN.f hw) hcs (by decide))).mono ?_;rintro e w'' ⟨x,wm,rfl,ex⟩;have hm:=h'.below ex.below;obtain ⟨cs2,hcs2,hv2⟩:=zcf (F:=vrowF) hm.own.v.rows hx (j:=1) rfl;have e1:=ex.eb;have e2:=ex.ej;have e3:=ex.ev;have e4:=ex.set;refine ⟨x,wm,.int .i64 N,some ⟨g,0,none⟩,rn,rc,rfl,by rw [e1,e2,e3]; exact ex, ?_,⟨cs2,_,by rw [e1]; exact hcs2,by rw [e2,e3]; first | exact hv2 | simpa [intF] using hv2,.inr (.inr (.inr rfl))⟩, ?_,by rw [e1]; exact hgb,by rw [e1]; exact hgl⟩
 ·rw [e4]
  have:=hm.row hx (x':=⟨x0.i,N,x0.b⟩) 1 (.int .i64 N) (by decide) rfl
  simp only [putK,hx];exact this
 ·rintro ⟨e5,-⟩;rw [e1] at e5;exact absurd e5 (zD hcs h'.box (by decide))

theorem zhG (h:Tr w base X a n c fa fn fc ra rn rc oa on oc B ua un uc)  {tb pb wb lb hb p:Nat} {lo hi:Int} (ht:Cap w tb X) (hp:w.heap[pb]? = some (.cells #[.int .i64 (p:Int)] 3)) (hn:p < rn) (hN:NumAt w wb lb hb 266 #[.pointer (some ⟨tb,0,none⟩),.pointer (some ⟨pb,0,none⟩)] lo hi) :
  PutsC w base X a n c fa fn fc oa on oc B ua un uc 279 #[.pointer (some ⟨wb,0,none⟩)] (.bare p):=by
 refine ⟨enters_of Tryz.func279 (by kernel_rfl) rfl,fun w' hw K N S za zn zc hNI _ _ => ?_⟩;have h':=h.below hw;obtain ⟨g,hga,hgb,hgl⟩:=zbC (F:=vrowF) h'.own.v.rows (show 0 < _ by omega);subst hga;have hpl:=(zE (F:=vrowF) h'.own.v.rows).size;obtain ⟨x0,hx⟩:∃x0,B.v.rows[p]? = some x0:=⟨_,List.getElem?_eq_getElem (by omega)⟩;have hc:=zaB (F:=vrowF) h'.own.v.rows hx (j:=2) (v:=.int .i64 x0.b) rfl;have hblk:=zcf (F:=vrowF) h'.own.v.rows hx (j:=2) rfl;obtain ⟨cs,hcs,-⟩:=hblk;refine (zcp 266 #[.pointer (some ⟨tb,0,none⟩),.pointer (some ⟨pb,0,none⟩)] wb g (p*3+2) _ K N S za zn zc w' (ze hN.f hw) (enters_of Tryz.func266 (by kernel_rfl) rfl) (fun w1 hw1=>zeG (h'.below hw1) tb pb p ((ht.below hw).below hw1) (ze (ze hp hw) hw1) hn) hc.1 hc.2 (zD (ze hN.f hw) hcs (by decide))).mono ?_;rintro e w'' ⟨x,wm,rfl,ex⟩;have hm:=h'.below ex.below;obtain ⟨cs2,hcs2,hv2⟩:=zcf (F:=vrowF) hm.own.v.rows hx (j:=2) rfl;have e1:=ex.eb;have e2:=ex.ej;have e3:=ex.ev;have e4:=ex.set;refine ⟨x,wm,.int .i64 N,some ⟨g,0,none⟩,rn,rc,rfl,by rw [e1,e2,e3]; exact ex, ?_,⟨cs2,_,by rw [e1]; exact hcs2,by rw [e2,e3]; first | exact hv2 | simpa [intF] using hv2,.inr (.inr (.inr rfl))⟩, ?_,by rw [e1]; exact hgb,by rw [e1]; exact hgl⟩
 ·rw [e4]
  have:=hm.row hx (x':=⟨x0.i,x0.m,N⟩) 2 (.int .i64 N) (by decide) rfl
  simp only [putK,hx];exact this
 ·rintro ⟨e5,-⟩;rw [e1] at e5;exact absurd e5 (zD hcs h'.box (by decide))

theorem zb2 {base2:Nat} {v:Value} {m:Nat} {l:List Int} (h:w.ownsRow base2 3 1 v m (cI l)):w.ownsRow base2 3 intF.k v m (intF.all l):=by
 rw [zF];exact h
theorem zi3 {g p:Nat} {v:Value} (h:w.cell? ⟨g,p*intF.k+0,none⟩=some v∧w.frozen? ⟨g,p*intF.k+0,none⟩=false):w.cell? ⟨g,p,none⟩=some v∧w.frozen? ⟨g,p,none⟩=false:=by
 rw [show p*intF.k+0=p from by show p*1+0=p; omega] at h;exact h

theorem zhJ (h:Tr w base X a n c fa fn fc ra rn rc oa on oc B ua un uc)  {tb pb wb lb hb p:Nat} {lo hi:Int} (ht:Cap w tb X) (hp:w.heap[pb]? = some (.cells #[.int .i64 (p:Int)] 3)) (hn:p < on) (hN:NumAt w wb lb hb 263 #[.pointer (some ⟨tb,0,none⟩),.pointer (some ⟨pb,0,none⟩)] lo hi) :
  PutsC w base X a n c fa fn fc oa on oc B ua un uc 279 #[.pointer (some ⟨wb,0,none⟩)] (.pvid p):=by
 refine ⟨enters_of Tryz.func279 (by kernel_rfl) rfl,fun w' hw K N S za zn zc hNI _ _ => ?_⟩;have h':=h.below hw;obtain ⟨g,hga,hgb,hgl⟩:=zbC (F:=intF) (zb2 h'.own.v.own) (show 0 < _ by omega);subst hga;have hpl:=(zE (F:=intF) (zb2 h'.own.v.own)).size;obtain ⟨x0,hx⟩:∃x0,B.v.own[p]? = some x0:=⟨_,List.getElem?_eq_getElem (by omega)⟩;have hc:=zi3 (zaB (F:=intF) (zb2 h'.own.v.own) hx (j:=0) (v:=.int .i64 x0) rfl);have hblk:=zcf (F:=intF) (zb2 h'.own.v.own) hx (j:=0) rfl;obtain ⟨cs,hcs,-⟩:=hblk;refine (zcp 263 #[.pointer (some ⟨tb,0,none⟩),.pointer (some ⟨pb,0,none⟩)] wb g (p) _ K N S za zn zc w' (ze hN.f hw) (enters_of Tryz.func263 (by kernel_rfl) rfl) (fun w1 hw1=>zeI (h'.below hw1) tb pb p ((ht.below hw).below hw1) (ze (ze hp hw) hw1) hn) hc.1 hc.2 (zD (ze hN.f hw) hcs (by decide))).mono ?_;rintro e w'' ⟨x,wm,rfl,ex⟩;have hm:=h'.below ex.below;obtain ⟨cs2,hcs2,hv2⟩:=zcf (F:=intF) (zb2 hm.own.v.own) hx (j:=0) rfl;have e1:=ex.eb;have e2:=ex.ej;have e3:=ex.ev;have e4:=ex.set;refine ⟨x,wm,.int .i64 N,ra,rn,rc,rfl,by rw [e1,e2,e3]; exact ex, ?_,⟨cs2,_,by rw [e1]; exact hcs2,by rw [e2,e3]; first | exact hv2 | simpa [intF] using hv2,.inr (.inr (.inl ⟨rfl,by rw [e1]⟩))⟩, ?_,by rw [e1]; exact hgb,by rw [e1]; exact hgl⟩
 ·rw [e4];exact hm.pvid (by have:=(List.getElem?_eq_some_iff.1 hx).1; exact this) N hNI
 ·rintro ⟨e5,-⟩;rw [e1] at e5;exact absurd e5 (zD hcs h'.box (by decide))

theorem zgK:zeJ w 258 #[] (fun _ S=>decide (S.size≤10)) :=
 ⟨enters_of Tryz.func258 (by kernel_rfl) rfl,fun w' _ K N S za zn zc _ hS=>(zgz K N S za zn zc w' hS).mono (by
  rintro e w2 ⟨rfl,hb⟩;exact ⟨by rw [decide_eq_decide.2 (show ((S.size:Int)≤10)↔S.size≤10 by omega)],hb⟩)⟩

theorem zhI (h:Tr w base X a n c fa fn fc ra rn rc oa on oc B ua un uc) {tb:Nat} (ht:Cap w tb X):PutsC w base X a n c fa fn fc oa on oc B ua un uc 259 #[.pointer (some ⟨tb,0,none⟩)] .name:=by
 refine ⟨enters_of Tryz.func259 (by kernel_rfl) rfl,fun w' hw K N S za zn zc _ _ _ => ?_⟩;have h':=h.below hw;obtain ⟨-,-,x2,-⟩:=zaD h'.box;refine (zfG tb X B.name K N S za zn zc w' (ht.below hw) x2 (h'.fr 2) (zD (show w'.heap[tb]? = _ from ht.below hw) h'.box (by decide))).mono ?_;rintro e w'' ⟨x,wm,rfl,ex⟩;have hm:=h'.below ex.below;have e1:=ex.eb;have e2:=ex.ej;have e3:=ex.ev;have e4:=ex.set;refine ⟨x,wm,.string S,ra,rn,rc,rfl,by rw [e1,e2,e3]; exact ex,by rw [e4]; exact hm.name S,⟨_,_,by rw [e1]; exact hm.box,by rw [e2,e3]; rfl,.inl ⟨rfl,e1⟩⟩,(by rw [e2]; rintro ⟨-,e5⟩; cases e5),by rw [e1]; exact h'.hX,by rw [e1]; exact (Array.getElem?_eq_some_iff.1 h'.box).1⟩

theorem zfR {eb mb:Nat} {id:Int} (h:Tr w base X a n c fa fn fc ra rn rc oa on oc B ua un uc) (h1:w.heap[eb]? = some (.cells #[.bool (zI B.v.rows id).isSome] 4)) (h2:w.heap[mb]? = some (.cells #[.bool (decide ((rn:Int) < 6))] 4)):zeJ w 281 #[.pointer (some ⟨eb,0,none⟩),.pointer (some ⟨mb,0,none⟩)] (fun N S=>zbK B N S (.row id)) :=
 ⟨enters_of Tryz.func281 (by kernel_rfl) rfl,fun w' hw K N S za zn zc _ _=>(zfU eb mb _ _ K N S za zn zc w' (ze h1 hw) (ze h2 hw)).mono (by
  rintro e w2 ⟨rfl,hb⟩;have hl:=(zE (F:=vrowF) h.own.v.rows).size;refine ⟨?_,hb⟩;rw [decide_eq_decide.2 (show ((rn:Int) < 6)↔B.v.rows.length < 6 by omega)]
  rfl)⟩

theorem zgE (h:Tr w base X a n c fa fn fc ra rn rc oa on oc B ua un uc) (hm:Mid B) {tb ib:Nat} {id:Int} (ht:Cap w tb X) (hi:w.heap[ib]? = some (.cells #[.int .i64 id] 3)):PutsC w base X a n c fa fn fc oa on oc B ua un uc 282 #[.pointer (some ⟨tb,0,none⟩),.pointer (some ⟨ib,0,none⟩)] (.row id):=by
 refine ⟨enters_of Tryz.func282 (by kernel_rfl) rfl,fun w' hw K N S za zn zc _ _ htk => ?_⟩;have h':=h.below hw;have htk:((decide (N=4) && (!(zI B.v.rows id).isSome && decide (B.v.rows.length < 6))) || (decide (N=6) && (zI B.v.rows id).isSome))=true:=htk;by_cases h4:N=4
 ·refine (zfV h' hm.rn tb ib id K N S za zn zc (ht.below hw) (ze hi hw) hm.rises h4).mono ?_;rintro e w'' ⟨x,wm,ra',rn',rc',rfl,ex,how⟩;have hmm:=h'.below ex.below;have hbs:base≤w'.heap.size:=h'.base_le hm;have e1:=ex.eb;have e2:=ex.ej;have e3:=ex.ev;have e4:=ex.set;refine ⟨x,wm,_,ra',rn',rc',rfl,by rw [e1,e2,e3]; exact ex, ?_,⟨_,_,by rw [e1]; exact hmm.box,by rw [e2,e3]; rfl,.inl ⟨rfl,e1⟩⟩,(by rw [e2]; rintro ⟨-,e5⟩; cases e5),by rw [e1]; exact h'.hX,by rw [e1]; exact (Array.getElem?_eq_some_iff.1 h'.box).1⟩;rw [e4]
  have:=hmm.rows (zdL how hbs)
  simp only [putK,if_pos h4];exact this
 ·have h6:(zI B.v.rows id).isSome=true:=by
   rw [decide_eq_false h4,Bool.false_and,Bool.false_or,Bool.and_eq_true] at htk;exact htk.2
  obtain ⟨k,hk⟩:=Option.isSome_iff_exists.1 h6;refine (zfu h' hm.rn tb ib id K N S za zn zc (ht.below hw) (ze hi hw) h4 k hk).mono ?_;rintro e w'' ⟨x,wm,ra',rn',rc',rfl,ex,how⟩;have hmm:=h'.below ex.below;have hbs:base≤w'.heap.size:=h'.base_le hm;have e1:=ex.eb;have e2:=ex.ej;have e3:=ex.ev;have e4:=ex.set;refine ⟨x,wm,_,ra',rn',rc',rfl,by rw [e1,e2,e3]; exact ex, ?_,⟨_,_,by rw [e1]; exact hmm.box,by rw [e2,e3]; rfl,.inl ⟨rfl,e1⟩⟩,(by rw [e2]; rintro ⟨-,e5⟩; cases e5),by rw [e1]; exact h'.hX,by rw [e1]; exact (Array.getElem?_eq_some_iff.1 h'.box).1⟩;rw [e4]
  have:=hmm.rows (zdL how hbs)
  simp only [putK,if_neg h4];exact this
end

def SetAt (w:World) (X n rn on:Nat) (B:BR) (kd:KD) (f1:Nat) (c1:Array Value) (f2:Nat) (c2:Array Value):Prop:=match kd with
 | .name=>∃tb:Nat,f1=258∧c1=#[]∧f2=259∧c2=#[.pointer (some ⟨tb,0,none⟩)]∧Cap w tb X
 | .cost p=>∃tb pb wb lb hb:Nat,f1=278∧c1=#[.pointer (some ⟨lb,0,none⟩),.pointer (some ⟨hb,0,none⟩)]∧f2=279∧c2=#[.pointer (some ⟨wb,0,none⟩)]∧Cap w tb X∧w.heap[pb]? = some (.cells #[.int .i64 (p:Int)] 3)∧p < n∧NumAt w wb lb hb 262 #[.pointer (some ⟨tb,0,none⟩),.pointer (some ⟨pb,0,none⟩)] 1 1000
 | .pvid p=>∃tb pb wb lb hb:Nat,f1=278∧c1=#[.pointer (some ⟨lb,0,none⟩),.pointer (some ⟨hb,0,none⟩)]∧f2=279∧c2=#[.pointer (some ⟨wb,0,none⟩)]∧Cap w tb X∧w.heap[pb]? = some (.cells #[.int .i64 (p:Int)] 3)∧p < on∧NumAt w wb lb hb 263 #[.pointer (some ⟨tb,0,none⟩),.pointer (some ⟨pb,0,none⟩)] (-9223372036854775808) 9223372036854775807
 | .mem p=>∃tb pb wb lb hb:Nat,f1=278∧c1=#[.pointer (some ⟨lb,0,none⟩),.pointer (some ⟨hb,0,none⟩)]∧f2=279∧c2=#[.pointer (some ⟨wb,0,none⟩)]∧Cap w tb X∧w.heap[pb]? = some (.cells #[.int .i64 (p:Int)] 3)∧p < rn∧NumAt w wb lb hb 265 #[.pointer (some ⟨tb,0,none⟩),.pointer (some ⟨pb,0,none⟩)] 0 (allOf n)
 | .bare p=>∃tb pb wb lb hb:Nat,f1=278∧c1=#[.pointer (some ⟨lb,0,none⟩),.pointer (some ⟨hb,0,none⟩)]∧f2=279∧c2=#[.pointer (some ⟨wb,0,none⟩)]∧Cap w tb X∧w.heap[pb]? = some (.cells #[.int .i64 (p:Int)] 3)∧p < rn∧NumAt w wb lb hb 266 #[.pointer (some ⟨tb,0,none⟩),.pointer (some ⟨pb,0,none⟩)] 0 (allOf n)
 | .row id=>∃tb ib eb mb:Nat,f1=281∧c1=#[.pointer (some ⟨eb,0,none⟩),.pointer (some ⟨mb,0,none⟩)]∧f2=282∧c2=#[.pointer (some ⟨tb,0,none⟩),.pointer (some ⟨ib,0,none⟩)]∧Cap w tb X∧w.heap[ib]? = some (.cells #[.int .i64 id] 3)∧w.heap[eb]? = some (.cells #[.bool (zI B.v.rows id).isSome] 4)∧w.heap[mb]? = some (.cells #[.bool (decide ((rn:Int) < 6))] 4)

theorem SetAt.kept {w w':World} {X n rn on:Nat} {B:BR} {kd:KD} {f1:Nat} {c1:Array Value} {f2:Nat} {c2:Array Value} (h:SetAt w X n rn on B kd f1 c1 f2 c2) (hk:∀(k:Nat) (cs:Array Value) (T:TypeId),w.heap[k]? = some (.cells cs T)→T≠199→w'.heap[k]? = some (.cells cs T)):SetAt w' X n rn on B kd f1 c1 f2 c2:=by
 have hN:∀(wb lb hb F:Nat) (caps:Array Value) (lo hi:Int),NumAt w wb lb hb F caps lo hi→NumAt w' wb lb hb F caps lo hi:=fun _ _ _ _ _ _ _ q=>⟨hk _ _ _ q.f (by decide),hk _ _ _ q.l (by decide),hk _ _ _ q.h (by decide)⟩
 cases kd with
 | name=>obtain ⟨tb,h1,h2,h3,h4,h5⟩:=h; exact ⟨tb,h1,h2,h3,h4,hk _ _ _ h5 (by decide)⟩
 | cost p=>obtain ⟨tb,pb,wb,lb,hb,h1,h2,h3,h4,h5,h6,h7,h8⟩:=h; exact ⟨tb,pb,wb,lb,hb,h1,h2,h3,h4,hk _ _ _ h5 (by decide),hk _ _ _ h6 (by decide),h7,hN _ _ _ _ _ _ _ h8⟩
 | pvid p=>obtain ⟨tb,pb,wb,lb,hb,h1,h2,h3,h4,h5,h6,h7,h8⟩:=h; exact ⟨tb,pb,wb,lb,hb,h1,h2,h3,h4,hk _ _ _ h5 (by decide),hk _ _ _ h6 (by decide),h7,hN _ _ _ _ _ _ _ h8⟩
 | mem p=>obtain ⟨tb,pb,wb,lb,hb,h1,h2,h3,h4,h5,h6,h7,h8⟩:=h; exact ⟨tb,pb,wb,lb,hb,h1,h2,h3,h4,hk _ _ _ h5 (by decide),hk _ _ _ h6 (by decide),h7,hN _ _ _ _ _ _ _ h8⟩
 | bare p=>obtain ⟨tb,pb,wb,lb,hb,h1,h2,h3,h4,h5,h6,h7,h8⟩:=h; exact ⟨tb,pb,wb,lb,hb,h1,h2,h3,h4,hk _ _ _ h5 (by decide),hk _ _ _ h6 (by decide),h7,hN _ _ _ _ _ _ _ h8⟩
 | row id=>obtain ⟨tb,ib,eb,mb,h1,h2,h3,h4,h5,h6,h7,h8⟩:=h; exact ⟨tb,ib,eb,mb,h1,h2,h3,h4,hk _ _ _ h5 (by decide),hk _ _ _ h6 (by decide),hk _ _ _ h7 (by decide),hk _ _ _ h8 (by decide)⟩

theorem SetAt.below {w w':World} {X n rn on:Nat} {B:BR} {kd:KD} {f1:Nat} {c1:Array Value} {f2:Nat} {c2:Array Value} (h:SetAt w X n rn on B kd f1 c1 f2 c2) (hb:Below w.heap.size w w'):SetAt w' X n rn on B kd f1 c1 f2 c2:=h.kept (fun _ _ _ q _=>ze q hb)
theorem SetAt.stored3 {w:World} {X n rn on:Nat} {B:BR} {kd:KD} {f1:Nat} {c1:Array Value} {f2:Nat} {c2:Array Value} (h:SetAt w X n rn on B kd f1 c1 f2 c2) {s:Nat} {cs:Array Value} (hs:w.heap[s]? = some (.cells cs 199)) (u0 u1 u2:Value):SetAt (((w.setCell ⟨s,0,none⟩ u0).setCell ⟨s,1,none⟩ u1).setCell ⟨s,2,none⟩ u2) X n rn on B kd f1 c1 f2 c2 :=
 h.kept (fun _ _ _ q hT=>kept3 q (zD q hs hT) _ _ _)

section
variable {w:World} {base X:Nat} {a:Option Addr} {n c:Nat} {fa:Option Addr} {fn fc:Nat} {ra:Option Addr} {rn rc:Nat} {oa:Option Addr} {on oc:Nat} {B:BR} {ua:Option Addr} {un uc:Nat}

theorem zgL {wb lb hb F:Nat} {caps:Array Value} {p:Nat} (h:NumAt w wb lb hb F caps (-9223372036854775808) 9223372036854775807):zeJ w 278 #[.pointer (some ⟨lb,0,none⟩),.pointer (some ⟨hb,0,none⟩)] (fun N S=>zbK B N S (.pvid p)) :=
 ⟨(zck h).1,fun w' hb' K N S za zn zc hNI hS=>((zck h).2 w' hb' K N S za zn zc hNI hS).mono (by
  rintro e w2 ⟨rfl,hb⟩;refine ⟨?_,hb⟩;have e1:in3 N (-9223372036854775808) 9223372036854775807=true:=by
   unfold in3;rw [decide_eq_true hNI.1,decide_eq_true hNI.2]
   rfl
  show Ending.returned (.bool (in3 N (-9223372036854775808) 9223372036854775807))=_
  rw [e1]
  rfl)⟩

theorem SetAt.takes {kd:KD} {f1:Nat} {c1:Array Value} {f2:Nat} {c2:Array Value} (h:SetAt w X n rn on B kd f1 c1 f2 c2) (ht:Tr w base X a n c fa fn fc ra rn rc oa on oc B ua un uc):zeJ w f1 c1 (fun N S=>zbK B N S kd):=by
 have hl:=(zE (F:=ptF) ht.own.ports).size;cases kd with
 | name=>obtain ⟨tb,rfl,rfl,rfl,rfl,h5⟩:=h; exact zgK
 | cost p=>obtain ⟨tb,pb,wb,lb,hb,rfl,rfl,rfl,rfl,h5,h6,h7,h8⟩:=h; exact zck h8
 | pvid p=>obtain ⟨tb,pb,wb,lb,hb,rfl,rfl,rfl,rfl,h5,h6,h7,h8⟩:=h; exact zgL h8
 | mem p=>obtain ⟨tb,pb,wb,lb,hb,rfl,rfl,rfl,rfl,h5,h6,h7,h8⟩:=h; rw [← hl] at h8; exact zck h8
 | bare p=>obtain ⟨tb,pb,wb,lb,hb,rfl,rfl,rfl,rfl,h5,h6,h7,h8⟩:=h; rw [← hl] at h8; exact zck h8
 | row id=>obtain ⟨tb,ib,eb,mb,rfl,rfl,rfl,rfl,h5,h6,h7,h8⟩:=h; exact zfR ht h7 h8

theorem SetAt.puts {kd:KD} {f1:Nat} {c1:Array Value} {f2:Nat} {c2:Array Value} (h:SetAt w X n rn on B kd f1 c1 f2 c2) (ht:Tr w base X a n c fa fn fc ra rn rc oa on oc B ua un uc) (hm:Mid B):PutsC w base X a n c fa fn fc oa on oc B ua un uc f2 c2 kd:=by
 cases kd with
 | name=>obtain ⟨tb,rfl,rfl,rfl,rfl,h5⟩:=h; exact zhI ht h5
 | cost p=>obtain ⟨tb,pb,wb,lb,hb,rfl,rfl,rfl,rfl,h5,h6,h7,h8⟩:=h; exact zhH ht h5 h6 h7 h8
 | pvid p=>obtain ⟨tb,pb,wb,lb,hb,rfl,rfl,rfl,rfl,h5,h6,h7,h8⟩:=h; exact zhJ ht h5 h6 h7 h8
 | mem p=>obtain ⟨tb,pb,wb,lb,hb,rfl,rfl,rfl,rfl,h5,h6,h7,h8⟩:=h; exact ziy ht h5 h6 h7 h8
 | bare p=>obtain ⟨tb,pb,wb,lb,hb,rfl,rfl,rfl,rfl,h5,h6,h7,h8⟩:=h; exact zhG ht h5 h6 h7 h8
 | row id=>obtain ⟨tb,ib,eb,mb,rfl,rfl,rfl,rfl,h5,h6,h7,h8⟩:=h; exact zgE ht hm h5 h6
end

end

section
open Go.RowKit

def unF:Flat CL where
 k:=1
 cs:=fun x=>[x.fn]
 len:=fun _=>rfl
 pos:=by decide
 one:=fun x v hv=>by
  simp only [List.mem_cons,List.not_mem_nil,or_false] at hv;subst hv
  rfl

structure Chg (w0 w:World) (base X:Nat) (a:Option Addr) (n c:Nat) (fa:Option Addr) (fn fc:Nat) (ra:Option Addr) (rn rc:Nat) (oa:Option Addr) (on oc:Nat) (B:BR) (ua:Option Addr) (uc:Nat) (cl:List CL):Prop where
 tr:Tr w base X a n c fa fn fc ra rn rc oa on oc B ua cl.length uc
 un:w.ownsRow w0.heap.size 1 1 (.slice ua cl.length uc) cl.length (unF.all cl)
 ok:∀x∈cl,x.Ok w∧w0.heap.size≤x.wb∧w0.heap.size≤x.rb
 und:Und 1 w0.heap.size X w0 w (cl.map CL.was).reverse
 lo:X < w0.heap.size∧(∀b,a=some ⟨b,0,none⟩→b < w0.heap.size)∧(∀b,oa=some ⟨b,0,none⟩→b < w0.heap.size)

def Stays (w w':World):Prop:=∀(k:Nat) (cs:Array Value) (T:TypeId),w.heap[k]? = some (.cells cs T)→(T=31∨T=37)→w'.heap[k]? = some (.cells cs T)
theorem Stays.of_below {w w':World} (h:Below w.heap.size w w'):Stays w w':=fun _ _ _ hk _=>ze hk h
theorem Stays.trans {w1 w2 w3:World} (h:Stays w1 w2) (k:Stays w2 w3):Stays w1 w3:=fun i cs T hk hT=>k i cs T (h i cs T hk hT) hT

theorem CL.Ok.ne {w:World} {x:CL} (h:x.Ok w) {b:Nat} {cs:Array Value} {T:TypeId} (hb:w.heap[b]? = some (.cells cs T)) (hT:T=119∨T=1):x.wb≠b∧x.rb≠b:=by
 rcases hT with rfl | rfl
 ·rcases h with ⟨-,-,k3,k4⟩ | ⟨-,-,k3,k4⟩ | ⟨-,-,k3,k4⟩
  all_goals exact ⟨zD k3 hb (by decide),zD k4 hb (by decide)⟩
 ·rcases h with ⟨-,-,k3,k4⟩ | ⟨-,-,k3,k4⟩ | ⟨-,-,k3,k4⟩
  all_goals exact ⟨zD k3 hb (by decide),zD k4 hb (by decide)⟩

theorem BlkC.no {X:Nat} {a oa:Option Addr} {b:Nat} {T:TypeId} (h:BlkC X a oa b T):T≠1∧T≠199∧T≠37∧T≠31:=by
 rcases h with ⟨rfl,-⟩ | ⟨rfl,-⟩ | ⟨rfl,-⟩ | rfl
 all_goals exact ⟨by decide,by decide,by decide,by decide⟩

section
variable {w0 w w':World} {base X:Nat} {a:Option Addr} {n c:Nat} {fa:Option Addr} {fn fc:Nat} {ra:Option Addr} {rn rc:Nat} {oa:Option Addr} {on oc:Nat} {B B':BR} {ua:Option Addr} {uc:Nat} {cl:List CL}

theorem Chg.below (h:Chg w0 w base X a n c fa fn fc ra rn rc oa on oc B ua uc cl) (hb:Below w.heap.size w w'):Chg w0 w' base X a n c fa fn fc ra rn rc oa on oc B ua uc cl :=
 ⟨h.tr.below hb,zaJ h.un hb,fun x hx=>⟨(h.ok x hx).1.below hb,(h.ok x hx).2⟩,h.und.below hb,h.lo⟩

theorem Tr.unGrown {un:Nat} (h:Tr w base X a n c fa fn fc ra rn rc oa on oc B ua un uc) {base2 k2:Nat} {v2:Value} {n2:Nat} {xs2:List Value} (h2:w.ownsRow base2 1 k2 v2 n2 xs2) (hg:w.grownBy w' v2.ownBlock):Tr w' base X a n c fa fn fc ra rn rc oa on oc B ua un uc :=
 ⟨h.off h2 (by decide) hg,⟨zY h.own.ports h2 (by decide) hg,zY h.own.f h2 (by decide) hg,⟨zY h.own.v.rows h2 (by decide) hg,zY h.own.v.own h2 (by decide) hg,h.own.v.i64⟩⟩,h.hX⟩

theorem Chg.unAt (h:Chg w0 w base X a n c fa fn fc ra rn rc oa on oc B ua uc cl) {wA wB wm wC:World} {x:CL} {u:Value}
  (hA:Below w.heap.size w wA) (ex:Exch wA wB x.b x.j x.v u x wm) (hblk:∃(cs:Array Value) (T:TypeId),wm.heap[x.b]? = some (.cells cs T)∧cs[x.j]? = some x.v∧BlkC X a oa x.b T) (hC:Below wB.heap.size wB wC) :
  wC.ownsRow w0.heap.size 1 1 (.slice ua cl.length uc) cl.length (unF.all cl):=by
 obtain ⟨cs,T,hcs,hv,hk⟩:=hblk;have u1:=zaJ (zaJ h.un hA) ex.below;refine zaJ ?_ hC;rw [ex.set];exact zC u1 (zl (rb:=x.b) x.j u) (zaf u1 hcs (fun e=>hk.no.1 e.symm))

theorem Chg.push (h:Chg w0 w base X a n c fa fn fc ra rn rc oa on oc B ua uc cl) {wA wB wm wC wD:World} {x:CL} {u:Value} {ra':Option Addr} {rn' rc':Nat}
  (hA:Below w.heap.size w wA) (ex:Exch wA wB x.b x.j x.v u x wm) (hT:Tr wB base X a n c fa fn fc ra' rn' rc' oa on oc B' ua cl.length uc)
  (hblk:∃(cs:Array Value) (T:TypeId),wm.heap[x.b]? = some (.cells cs T)∧cs[x.j]? = some x.v∧BlkC X a oa x.b T) (hn:¬(x.b=X∧x.j=12)) (hlt:x.b < wA.heap.size)
  (hC:Below wB.heap.size wB wC) {ua':Option Addr} {uc':Nat} (how:wD.ownsRow w0.heap.size 1 1 (.slice ua' (cl++[x]).length uc') (cl++[x]).length (unF.all (cl++[x]))) (hg:wC.grownBy wD (Value.slice ua cl.length uc).ownBlock) :
  Chg w0 (wD.setCell ⟨X,12,none⟩ (.slice ua' (cl++[x]).length uc')) base X a n c fa fn fc ra' rn' rc' oa on oc B' ua' uc' (cl++[x]):=by
 obtain ⟨cs,T,hcs,hv,hk⟩:=hblk;have hno:=hk.no;have hN:w0.heap.size≤w.heap.size:=h.und.size;have hNA:w0.heap.size≤wA.heap.size:=Nat.le_trans hN hA.size;have hm:=zd hA ex.below;have hset:=ex.set
 -- the list of closures
 have u1:=zaJ (zaJ h.un hA) ex.below;have u2:wB.ownsRow w0.heap.size 1 1 (.slice ua cl.length uc) cl.length (unF.all cl):=by rw [hset]; exact zC u1 (zl (rb:=x.b) x.j u) (zaf u1 hcs (fun e=>hno.1 e.symm))
 have u3:=zaJ u2 hC;have t3:=hT.below hC;have t4:=t3.unGrown u3 hg;have hXD:=t4.box;have t5:=t4.undone ua' (cl++[x]).length uc';have u5:(wD.setCell ⟨X,12,none⟩ (.slice ua' (cl++[x]).length uc')).ownsRow w0.heap.size 1 1 (.slice ua' (cl++[x]).length uc') (cl++[x]).length (unF.all (cl++[x])):=zC how (zl (rb:=X) 12 _) (zaf how hXD (by decide))
 -- what brings back
 have d1:=(h.und.below hA).below ex.below;have d2:Und 1 w0.heap.size X w0 wB (x.was::(cl.map CL.was).reverse):=by rw [hset]; exact d1.put hcs hv hno.1 hn u
 have d3:=(d2.below hC).grown u3 (fun b hb=>(u3.lt b hb).1) hg;have d4:=d3.set12 (.slice ua' (cl++[x]).length uc');have hst:((cl++[x]).map CL.was).reverse=x.was::(cl.map CL.was).reverse:=by simp
 -- their boxes
 have hfun:∀y:CL,y.Ok wC→y.Ok wD:=by
  intro y hy;refine hy.only (Only.of_grown hg) ?_ ?_
  ·intro hb;have hb2:(Value.slice ua cl.length uc).ownBlock=some y.wb:=zao.2 hb;obtain ⟨-,⟨e,-⟩ | ⟨g,cap',cur,e,hg2,hh,r⟩⟩:=u3
   ·rw [e] at hb2; cases hb2
   ·rw [e] at hb2;have e1:g=y.wb:=by simpa [Value.ownBlock] using hb2
    exact (hy.ne hh (.inr rfl)).1 e1.symm
  ·intro hb;have hb2:(Value.slice ua cl.length uc).ownBlock=some y.rb:=zao.2 hb;obtain ⟨-,⟨e,-⟩ | ⟨g,cap',cur,e,hg2,hh,r⟩⟩:=u3
   ·rw [e] at hb2; cases hb2
   ·rw [e] at hb2;have e1:g=y.rb:=by simpa [Value.ownBlock] using hb2
    exact (hy.ne hh (.inr rfl)).2 e1.symm
 have hlast:∀y:CL,y.Ok wD→w0.heap.size≤y.wb→w0.heap.size≤y.rb→y.Ok (wD.setCell ⟨X,12,none⟩ (.slice ua' (cl++[x]).length uc')):=by
  intro y hy h1 h2
  have:=h.lo.1
  exact hy.only (Only.set _ _ _ _) (by simp; omega) (by simp; omega)
 refine ⟨t5,u5, ?_,by rw [hst]; exact d4,h.lo⟩;intro y hy;rcases List.mem_append.1 hy with hy | hy
 ·obtain ⟨k1,k2,k3⟩:=h.ok y hy;have km:=k1.below hm;have kB:y.Ok wB:=by
   have hne:y.wb≠x.b∧y.rb≠x.b:=by
    rcases hk with ⟨-,e⟩ | ⟨-,e⟩ | ⟨-,e⟩ | e
    ·have:=h.lo.1
     omega
    ·have:=h.lo.2.1 _ e
     omega
    ·have:=h.lo.2.2 _ e
     omega
    ·exact km.ne hcs (.inl e)
   rw [hset];exact km.only (Only.set _ _ _ _) (by simp; exact hne.1) (by simp; exact hne.2)
  exact ⟨hlast y (hfun y (kB.below hC)) k2 k3,k2,k3⟩
 ·rw [List.mem_singleton.1 hy];have h1:=ex.hwb;have h2:=ex.hrb;have kB:x.Ok wB:=by
   rw [hset];exact ex.ok.only (Only.set _ _ _ _) (by simp; omega) (by simp; omega)
  exact ⟨hlast x (hfun x (kB.below hC)) (by omega) (by omega),by omega,by omega⟩
end

end

end Go.Proofs.YtcpdkcdfnpcemaaGreat
