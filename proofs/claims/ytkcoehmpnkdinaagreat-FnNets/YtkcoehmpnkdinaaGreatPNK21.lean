/-
  Packed: VlanTab VlanCopy BrCopyS Say14 BrTurnS VlanNew.
-/
import Derived.Test.YtkcoehmpnkdinaaGreatPNK05
import Derived.Test.YtkcoehmpnkdinaaGreatPNK20
import Derived.Test.YtkcoehmpnkdinaaGreatPNVlanOk
namespace Go.Proofs.YtkcoehmpnkdinaaGreat
set_option maxRecDepth 100000
set_option maxHeartbeats 16000000
open Go.RowKit

theorem zkO {l:List VR} {id:Int} (h:zaT l id=none):rowAt l id = -1:=by unfold rowAt; rw [h]
theorem zjV {l:List VR} {id:Int} {k:Nat} (h:zaT l id=some k):rowAt l id=k:=by unfold rowAt; rw [h]

theorem zcd (a:Option Addr) (n c:Nat) (o:Option Addr) (p q:Nat) (v:VT) (ports:Int) (w:World) (h:VTab w a n c o p q v) (hR:∀r∈v.rows,r.Rng) :
  Calls Tryz.prog 92 #[.agg #[.slice a n c,.slice o p q],.int .i64 ports] w fun r w'=>r=.returned (.bool (zU v ports))∧Below w.heap.size w w':=by
 have hle:=h.rows.le;have htop:=h.rows.top;have hle2:=h.own.le;have htop2:=h.own.top;unfold maxLen at htop htop2;have hsz:=hide h.rows.size;have hsz2:=hide h.own.size;generalize hw1:w.alloc (Obj.cells #[Value.slice a n c,Value.slice o p q] 59)=w1;have hW:=zb hw1;obtain ⟨e0,e1⟩:=zW hw1 (Below.refl _ w1);have h:=h.below hW;generalize hV:zU v ports=V;have HV:=hide hV;clear hV;cases t1:(decide (1≤ports) && decide (ports≤6))
 ·have HN:=hide (zlv (v:=v) t1);have T1:=hide t1;clear t1;go_enter Tryz.func92,Tryz.ntmps92;go_wp2_with (refine (zaN ports 1 6 _).mono ?_; rintro r w2 ⟨rfl,e2⟩; obtain rfl:=e2.symm; rw [T1.out])
  go_ret;exact ⟨zH (by rw [← HV.out,HN.out]),hW⟩
 have T1:=hide t1;simp only [Bool.and_eq_true,decide_eq_true_eq] at t1;by_cases t2:(p:Int)=ports
 case neg =>
  have HN:=hide (zkW (v:=v) (ports:=ports) (by rw [hsz2.out]; exact t2));go_enter Tryz.func92,Tryz.ntmps92;go_wp2_with (refine (zaN ports 1 6 _).mono ?_; rintro r w2 ⟨rfl,e2⟩; obtain rfl:=e2.symm; rw [T1.out])
  go_ret;exact ⟨zH (by rw [← HV.out,HN.out]),hW⟩
 subst t2;by_cases t3:n≤6
 case neg =>
  have HN:=hide (zj9 (v:=v) (ports:=p) (by rw [hsz.out]; exact t3));go_enter Tryz.func92,Tryz.ntmps92;go_wp2_with (refine (zaN (p:Int) 1 6 _).mono ?_; rintro r w2 ⟨rfl,e2⟩; obtain rfl:=e2.symm; rw [T1.out])
  go_ret;exact ⟨zH (by rw [← HV.out,HN.out]),hW⟩
 cases t4:vrises v.rows
 ·have HN:=hide (zka (v:=v) (ports:=p) t4);have T4:=hide t4;clear t4;go_enter Tryz.func92,Tryz.ntmps92;go_wp2_with (refine (zaN (p:Int) 1 6 _).mono ?_; rintro r w2 ⟨rfl,e2⟩; obtain rfl:=e2.symm; rw [T1.out])
  refine (zcb a n c o p q _).mono ?_;rintro r w2 ⟨rfl,hb2⟩;(go_wp2_with fail);refine (zcM a n c v.rows _ (h.rows.below hb2)).mono ?_;rintro r w3 ⟨rfl,hb3⟩;rw [T4.out];have HB:=hide (zc hW (zc hb2 hb3));clear hb2 hb3;go_wp2;go_ret;exact ⟨zH (by rw [← HV.out,HN.out]),HB.out⟩
 have T4:=hide t4;clear t4;go_enter Tryz.func92,Tryz.ntmps92;go_wp2_with (refine (zaN (p:Int) 1 6 _).mono ?_; rintro r w2 ⟨rfl,e2⟩; obtain rfl:=e2.symm; rw [T1.out])
 refine (zcb a n c o p q _).mono ?_;rintro r w2 ⟨rfl,hb2⟩;go_wp2_with fail
 refine (zcM a n c v.rows _ (h.rows.below hb2)).mono ?_;rintro r w3 ⟨rfl,hb3⟩;rw [T4.out];have b13:=zc hb2 hb3;obtain ⟨x0,x1⟩:=zW hw1 b13;clear hb2 hb3 e0 e1;go_wp2
 go_loopw [34] (fun i wr=>∃k:Nat,k≤n∧i=.int .i64 k∧zik (allOf p) v.rows k∧Below w1.heap.size w1 wr) (fun i _=>n - (intOf i).toNat)
 case atStart=>exact ⟨0,Nat.zero_le _,rfl,fun i x hi=>by omega,b13⟩
 case round =>
  obtain ⟨k,hk,rfl,hok,hb⟩:=hrel;by_cases hlt:k < n
  ·obtain ⟨x,b,off,hx,rfl,c0,c1,c2⟩:=zb2 (h.rows.below hb) k hlt;have hxr:x.Rng:=hR x (List.mem_of_getElem? hx);cases t5:zbi (allOf p) x
   ·have HN:=hide (zkX (v:=v) (p:=p) hx t5);have T5:=hide t5;have HB:=hide hb;clear t5 hok hb hx x0 x1;(go_wp2_with fail);refine (zde x p _ hxr (by omega) (by omega)).mono ?_;rintro r w5 ⟨rfl,hb5⟩;rw [T5.out];have HB1:=hide (zc hW (zc HB.out (zc (zg _ _) hb5)));clear hb5 c0 c1 c2;go_wp2;go_ret;exact ⟨zH (by rw [← HV.out,HN.out]),HB1.out⟩
   ·have HO:=hide (zhL hok hx t5);have T5:=hide t5;have HB:=hide hb;clear t5 hok hb hx x0 x1;(go_wp2_with fail);refine (zde x p _ hxr (by omega) (by omega)).mono ?_;rintro r w5 ⟨rfl,hb5⟩;rw [T5.out];have HB1:=hide (zc HB.out (zc (zg _ _) hb5));clear hb5 c0 c1 c2;go_wp2
    go_roundw
    case rel=>exact ⟨k+1,by omega,by go_num,HO.out,HB1.out⟩
    case measure=>simp [intOf]; omega
  ·have HK:Hid (vokTo (allOf p) v.rows v.rows.length):=hide (zkV (fun i x hi hx=>hok i x (by have:=hsz.out; omega) hx) T4.out);obtain ⟨y0,y1⟩:=zW hw1 hb;have HB:=hide hb;have hkn:k=n:=by omega
   clear hok hb x0 x1;subst hkn;go_wp2
   go_loopw [46] (fun i wr=>∃k:Nat,k≤p∧i=.int .i64 k∧ownTo v k∧Below w1.heap.size w1 wr) (fun i _=>p - (intOf i).toNat)
   case atStart=>exact ⟨0,Nat.zero_le _,rfl,fun i x hi=>by omega,HB.out⟩
   case round =>
    obtain ⟨j,hj,rfl,hto,hb⟩:=hrel;by_cases hlt:j < p
    ·obtain ⟨x,b,off,hx,rfl,c0⟩:=zfZ (h.own.below hb) j hlt;obtain ⟨z0,z1⟩:=zW hw1 hb;clear y0 y1;cases hr:zaT v.rows x with
     | none =>
      have HN:=hide (ziq (p:=p) (List.mem_of_getElem? hx) hr);have HA:=hide (zkO hr);have HB3:=hide hb;clear hto hb hx hr;(go_wp2_with fail);refine (zdE a k c v.rows (some ⟨b,off,none⟩) p q x _ (h.rows.below HB3.out)).mono ?_;rintro r w5 ⟨rfl,hb5⟩;rw [HA.out];have HB1:=hide (zc hW (zc HB3.out hb5));clear hb5 c0 z0 z1;go_wp2;go_ret;exact ⟨zH (by rw [← HV.out,HN.out]),HB1.out⟩
     | some i =>
      have HO:=hide (zfA hto hx (by rw [hr]; exact fun h=>by cases h));have HA:=hide (zjV hr);have HB3:=hide hb;have hneg:¬((i:Int) < 0):=by omega
      clear hto hb hx hr;(go_wp2_with fail);refine (zdE a k c v.rows (some ⟨b,off,none⟩) p q x _ (h.rows.below HB3.out)).mono ?_;rintro r w5 ⟨rfl,hb5⟩;rw [HA.out];have HB1:=hide (zc HB3.out hb5);clear hb5 c0 z0 z1;go_wp2
      go_roundw
      case rel=>exact ⟨j+1,by omega,by go_num,HO.out,HB1.out⟩
      case measure=>simp [intOf]; omega
    ·have HN:Hid (zU v p=true):=hide (zir t1.1 t1.2 hsz2.out (by have:=hsz.out; omega) HK.out (zgR hto (by have:=hsz2.out; omega)));have HB3:=hide (zc hW hb);have hjn:j=p:=by omega
     clear hto hb y0 y1;subst hjn;go_wp2;go_ret;exact ⟨zH (by rw [← HV.out,HN.out]),HB3.out⟩

theorem ziB (ao:Option Addr) (n cap:Nat) (l:List VR) (w:World) (h:GRow vrowF w ao n cap l) (hn:n≤16777216) :
  Calls Tryz.prog 135 #[.slice ao n cap] w fun r w'=>∃ao' cap',r=.returned (.slice ao' n cap')∧w'.ownsRow w.heap.size 98 3 (.slice ao' n cap') n (vrowF.all l)∧Below w.heap.size w w':=by
 cases ao with
 | none =>
  have hc0:=h.nil rfl;have hn0:n=0:=by have:=h.le; omega
  subst hc0 hn0;have hl:l=[]:=List.eq_nil_of_length_eq_zero h.size;subst hl;have heq:∀W,(binOp .eql 57 (.slice none 0 0) (.slice none 0 0)).run Tryz.prog W=.ok (.bool true) W:=fun _=>by kernel_rfl
  go_enter Tryz.func135,Tryz.ntmps135;go_wp2;go_ret;exact ⟨none,0,rfl,World.ownsRow_nil _ _ _ _,Below.refl _ _⟩
 | some a =>
  have heq:∀W,(binOp .eql 57 (.slice (some a) n cap) (.slice none 0 0)).run Tryz.prog W=.ok (.bool false) W:=fun _=>by kernel_rfl
  go_enter Tryz.func135,Tryz.ntmps135;go_wp2_with (at_builtin; refine zE (F:=vrowF) _ rfl _ _ 57 98 rfl w.heap.size Tryz.underlying57 zbA rfl (by decide) _ 0 [] rfl (zaE vrowF w _ 98 w.heap.size (zt w _) (Nat.le_refl _)) (some a) n cap l rfl (h.below (zg _ _)) (by omega) (by simp) ?_)
  intro ao' cap' w' how hr hgr hb;have how:w'.ownsRow w.heap.size 98 3 (.slice ao' n cap') n (vrowF.all l):=by
   (try simp only [Nat.zero_add,List.nil_append] at how);exact how
  have HO:=hide how;have HB:=hide ((zg w _).trans hb);clear how hgr hb hr;go_wp2;go_ret;exact ⟨ao',cap',(by simp),HO.out,HB.out⟩

theorem zfg (a:Option Addr) (n c:Nat) (o:Option Addr) (p q:Nat) (v:VT) (w:World) (h:VTab w a n c o p q v) (hn:n≤16777216) (hp:p≤16777216) :
  Calls Tryz.prog 105 #[.agg #[.slice a n c,.slice o p q]] w fun r w'=>∃a' c' o' q',r=.returned (.agg #[.slice a' n c',.slice o' p q'])∧VOwn w' w.heap.size a' n c' o' p q' v∧Below w.heap.size w w':=by
 generalize hw1:w.alloc (Obj.cells #[Value.slice a n c,Value.slice o p q] 59)=w1;generalize hw2:w1.alloc (Obj.cells #[Value.slice none 0 0,Value.slice none 0 0] 59)=w2;have s1:w1.heap.size=w.heap.size+1:=by subst hw1; simp
 have s2:w2.heap.size=w.heap.size+1+1:=by subst hw2; simp [s1]
 have hk1:=zk hw2;have b01:=zb hw1;have vb:Below w1.heap.size w1 w2.drew:=by subst hw2; exact zr (zg _ _)
 have bw:Below w.heap.size w w2:=by subst hw2; exact zc b01 (zg _ _)
 have vv:Below w2.heap.size w2 w2.drew:=zr (Below.refl _ _);have HL:Hid (∀b,some w1.heap.size=some b→b < w2.heap.size):=hide (by intro b hb; cases hb; omega);clear s1 s2;go_enter Tryz.func105,Tryz.ntmps105;go_wp2_with fail
 refine wp_region_held_drew (S:=(fun W=>zcc W w.heap.size 0 (.slice a n c)∧zcc W w.heap.size 1 (.slice o p q))) (by kernel_rfl) (zW hw1 vb) (fun hHeld => ?_);refine kK 0 ?_;refine kK 1 ?_;refine kK 3 ?_;refine kK 4 ?_;refine kR 2 fun K hK => ?_
 go_simp;refine (ziB a n c v.rows _ (h.rows.below (zc bw vv)) hn).mono ?_;rintro e wx ⟨aR,cR,rfl,how,hbx⟩;have hR:=zL how (base':=w2.heap.size) vv.size
 try have hI:=zl hI hbx
 have vv:=zc vv hbx;have vb:=zc vb hbx;clear how hbx;go_wp2_with fail
 refine kO hK (zW hw1 vb) fun hHeld => ?_
 clear hK K;refine kR 5 fun K hK => ?_
 go_simp;refine (ziy o p q v.own _ ((h.own.below (zc bw vv)).flat) hp).mono ?_;rintro e wx ⟨aI,cI',rfl,how,hbx⟩;have hI:=zL how (base':=w2.heap.size) vv.size
 try have hR:=zl hR hbx
 have vv:=zc vv hbx;have vb:=zc vb hbx;clear how hbx;go_wp2_with fail
 refine kO hK (zW hw1 vb) fun hHeld => ?_
 clear hK K;refine kK 6 ?_;refine kR 7 fun K hK => ?_
 obtain ⟨⟨g0,g1⟩,f0,f1⟩:=zG (za hk1 vv);go_simp;have hR:=zw (zw hR (zm (rb:=w1.heap.size) 0 (.slice aR n cR)) HL.out) (zm (rb:=w1.heap.size) 1 (.slice aI p cI')) HL.out;have hI:=zw (zw hI (zm (rb:=w1.heap.size) 0 (.slice aR n cR)) HL.out) (zm (rb:=w1.heap.size) 1 (.slice aI p cI')) HL.out;have vb:=zj (zj vb (Nat.le_refl _) 0 (.slice aR n cR)) (Nat.le_refl _) 1 (.slice aI p cI');refine kO hK (zW hw1 vb) fun hHeld => ?_
 clear hK K;refine wpAnyH_done (by kernel_rfl) ?_ _;have HR:=hide hR;have HI:=hide hI;clear hR hI;go_wp2;refine bodyPost_ret (v:=.agg #[.slice aR n cR,.slice aI p cI']) (by simp [results,Tryz.results105,go_sem, *]) rfl ⟨_,_,_,_,rfl,⟨zL HR.out bw.size,zL (by rw [← zaF]; exact HI.out) bw.size,h.own.byte⟩,zc b01 vb⟩

theorem zby (a:Option Addr) (n c:Nat) (fa:Option Addr) (fn fc:Nat) (ra:Option Addr) (rn rc:Nat) (oa:Option Addr) (on oc:Nat) (B:BR) (w:World) (h:BrRow w a n c fa fn fc ra rn rc oa on oc B) (hn:n≤16777216) (hfn:fn≤16777216) (hrn:rn≤16777216) (hon:on≤16777216) :
  Calls Tryz.prog 59 #[.agg #[.int .i64 B.id,.string B.name,.slice a n c,.slice fa fn fc,.slice ra rn rc,.slice oa on oc,.int .i64 B.ticks,.int .i64 B.parse,.int .i64 B.word,.int .i64 B.drops,.int .i64 B.vers]] w fun e w'=>∃(a2:Option Addr) (c2:Nat) (fa2:Option Addr) (fc2:Nat) (ra2:Option Addr) (rc2:Nat) (oa2:Option Addr) (oc2:Nat),e=.returned (.agg #[.int .i64 B.id,.string B.name,.slice a2 n c2,.slice fa2 fn fc2,.slice ra2 rn rc2,.slice oa2 on oc2,.int .i64 B.ticks,.int .i64 B.parse,.int .i64 B.word,.int .i64 B.drops,.int .i64 B.vers])∧BrOwn w' w.heap.size a2 n c2 fa2 fn fc2 ra2 rn rc2 oa2 on oc2 B∧Below w.heap.size w w':=by
 generalize hw1:w.alloc (Obj.cells #[.int .i64 B.id,.string B.name,.slice a n c,.slice fa fn fc,.slice ra rn rc,.slice oa on oc,.int .i64 B.ticks,.int .i64 B.parse,.int .i64 B.word,.int .i64 B.drops,.int .i64 B.vers] 61)=w1;generalize hw2:w1.alloc (Obj.cells #[.int .i64 0,.string ⟨#[]⟩,.slice none 0 0,.slice none 0 0,.slice none 0 0,.slice none 0 0,.int .i64 0,.int .i64 0,.int .i64 0,.int .i64 0,.int .i64 0] 61)=w2;generalize hw3:w2.alloc (Obj.cells #[.int .i64 B.id,.string B.name,.slice a n c,.slice fa fn fc,.slice ra rn rc,.slice oa on oc,.int .i64 B.ticks,.int .i64 B.parse,.int .i64 B.word,.int .i64 B.drops,.int .i64 B.vers] 61)=w3;generalize hw4:w3.alloc (Obj.cells #[] 79)=w4;have b01:=zb hw1;have b12:=zb hw2;have b23:=zb hw3;have b34:=zb hw4;have z1:w.heap.size < w1.heap.size:=by rw [← hw1]; simp
 have z2:w1.heap.size < w2.heap.size:=by rw [← hw2]; simp
 have k1:=zk hw1;have kA2:=za k1 b12;have kA4:=za (za kA2 b23) b34;have st4:BcSt w w4 w1.heap.size w2.heap.size #[.int .i64 B.id,.string B.name,.slice a n c,.slice fa fn fc,.slice ra rn rc,.slice oa on oc,.int .i64 B.ticks,.int .i64 B.parse,.int .i64 B.word,.int .i64 B.drops,.int .i64 B.vers]:=BcSt.later ⟨by rw [← hw3]; exact zt _ _,za (zk hw2) b23,zc (zc b01 b12) b23,by omega,Nat.le_of_lt z1,Nat.ne_of_lt z2⟩ b34;have k4:=zk hw4;have b03:=zc (zc b01 b12) b23;have nil4:w4.ownsRow w.heap.size 79 8 (.slice (some ⟨w3.heap.size,0,none⟩) 0 0) 0 (ptF.all []):=zaE ptF w w4 79 w3.heap.size k4 b03.size;have HZ1:=hide z1;have HZ2:=hide z2;have nAX:¬w.heap.size=w2.heap.size:=by omega
 have nXA:¬w2.heap.size=w.heap.size:=by omega
 obtain ⟨x0,x1,x2,x3,x4,x5,x6,x7,x8,x9,x10⟩:=zp kA2;have SZ23:=hide b23.size;clear z1 z2 b01 b12 b23 b34 k1 b03;go_enter Tryz.func59,Tryz.ntmps59;go_upto_region 2 with fail
 clear x0 x1 x2 x3 x4 x5 x6 x7 x8 x9 x10 hw1 hw2 hw3;obtain ⟨x0,x1,x2,x3,x4,x5,x6,x7,x8,x9,x10⟩:=zp kA4;have HST:=hide st4;have HKA:=hide kA4;have HN4:=hide nil4;have hp4:=h.ports.below st4.below;have hs4:=st4.below.size;clear st4 kA4 kA2;go_wp2_with (at_builtin; refine zci _ rfl _ _ rfl w.heap.size _ 0 [] rfl nil4 a n c B.ports rfl hp4 (by omega) hs4 ?_)
 intro a4 c4 w5 o5 hr5 hg5 hb5;have o5:w5.ownsRow w.heap.size 79 8 (.slice a4 n c4) n (ptF.all B.ports):=by simpa using o5
 have st5:=HST.out.grown HN4.out (by decide) hg5 hb5;have kA5:=ze HKA.out hg5 (fun i e=>by have h1:=(HN4.out.lt i e).1; have h2:i=w3.heap.size:=(Option.some.inj e).symm; have h3:=HZ2.out; have h4:=HZ1.out; have h5:w2.heap.size≤w3.heap.size:=SZ23.out; omega)
 try simp only [Nat.zero_add]
 clear x0 x1 x2 x3 x4 x5 x6 x7 x8 x9 x10 hr5 hg5 hb5 nil4 hp4 hs4 HST HKA HN4;generalize hX:w2.heap.size=X at *;generalize hR:w1.heap.size=R at *;have st6:=st5.put 2 (.slice a4 n c4) (cs':=#[.int .i64 B.id,.string B.name,.slice a4 n c4,.slice fa fn fc,.slice ra rn rc,.slice oa on oc,.int .i64 B.ticks,.int .i64 B.parse,.int .i64 B.word,.int .i64 B.drops,.int .i64 B.vers]) rfl;have o6:=st5.stay o5 (by decide) 2 (.slice a4 n c4);have kA6:=zam (b:=X) (j:=2) (u:=.slice a4 n c4) kA5 nAX;obtain ⟨y0,y1,y2,y3,y4,y5,y6,y7,y8,y9,y10⟩:=zp st5.box;have f2:=zi st5.box 2;generalize hw6:w5.setCell ⟨X,2,none⟩ (.slice a4 n c4)=w6 at st6 o6 kA6;go_upto_region 3 with fail
 try rw [hw6]
 clear y0 y1 y2 y3 y4 y5 y6 y7 y8 y9 y10 f2 hw6 st5 o5 kA5;obtain ⟨x0,x1,x2,x3,x4,x5,x6,x7,x8,x9,x10⟩:=zp kA6;go_wp2_with fail
 refine (zaK fa fn fc B.f _ (h.f.below st6.below) hfn).mono ?_;rintro e w7 ⟨fa6,fc6,rfl,oF,-,hb7⟩;have st7:=st6.later hb7;have o7:=zl o6 hb7;have oF:=zL oF (base':=w.heap.size) st6.below.size;have kA7:=za kA6 hb7;clear x0 x1 x2 x3 x4 x5 x6 x7 x8 x9 x10 hb7 o6 st6 kA6;obtain ⟨y0,y1,y2,y3,y4,y5,y6,y7,y8,y9,y10⟩:=zp st7.box;have f3:=zi st7.box 3;have st8:=st7.put 3 (.slice fa6 fn fc6) (cs':=#[.int .i64 B.id,.string B.name,.slice a4 n c4,.slice fa6 fn fc6,.slice ra rn rc,.slice oa on oc,.int .i64 B.ticks,.int .i64 B.parse,.int .i64 B.word,.int .i64 B.drops,.int .i64 B.vers]) rfl;have o8:=st7.stay o7 (by decide) 3 (.slice fa6 fn fc6);have oF8:=st7.stay oF (by decide) 3 (.slice fa6 fn fc6);have kA8:=zam (b:=X) (j:=3) (u:=.slice fa6 fn fc6) kA7 nAX;generalize hw8:w7.setCell ⟨X,3,none⟩ (.slice fa6 fn fc6)=w8 at st8 o8 oF8 kA8;go_upto_region 4 with fail
 try rw [hw8]
 clear y0 y1 y2 y3 y4 y5 y6 y7 y8 y9 y10 f3 hw8 st7 o7 oF kA7;obtain ⟨x0,x1,x2,x3,x4,x5,x6,x7,x8,x9,x10⟩:=zp kA8;go_wp2_with fail
 refine (zat ra rn rc oa on oc B.v _ (h.v.below st8.below) hrn hon).mono ?_;rintro e w9 ⟨ra8,rc8,oa8,oc8,rfl,oV,hb9⟩;have st9:=st8.later hb9;have own9:BrOwn w9 w.heap.size a4 n c4 fa6 fn fc6 ra8 rn rc8 oa8 on oc8 B:=⟨zl o8 hb9,zl oF8 hb9,oV.lt (base':=w.heap.size) st8.below.size⟩;clear x0 x1 x2 x3 x4 x5 x6 x7 x8 x9 x10 hb9 o8 oF8 kA8 st8 oV;have st10:=(st9.put 4 (.slice ra8 rn rc8) rfl).put 5 (.slice oa8 on oc8) (cs':=#[.int .i64 B.id,.string B.name,.slice a4 n c4,.slice fa6 fn fc6,.slice ra8 rn rc8,.slice oa8 on oc8,.int .i64 B.ticks,.int .i64 B.parse,.int .i64 B.word,.int .i64 B.drops,.int .i64 B.vers]) rfl;have own10:=(own9.boxed st9.box 4 (.slice ra8 rn rc8)).boxed (st9.put 4 (.slice ra8 rn rc8) rfl).box 5 (.slice oa8 on oc8);obtain ⟨y0,y1,y2,y3,y4,y5,y6,y7,y8,y9,y10⟩:=zp st9.box;have f4:=zi st9.box 4;have f5:=zi st9.box 5;obtain ⟨u0,u1,u2,u3,u4,u5,u6,u7,u8,u9,u10⟩:=zp st9.res;have fr:=zi st9.res;have fr0:=fr 0;have fr1:=fr 1;have fr2:=fr 2;have fr3:=fr 3;have fr4:=fr 4;have fr5:=fr 5;have fr6:=fr 6;have fr7:=fr 7;have fr8:=fr 8;have fr9:=fr 9;have fr10:=fr 10;have ne1:¬X=R:=fun e=>st9.ne e.symm
 have ne2:¬R=X:=st9.ne;obtain ⟨HO0,HB0⟩:=st10.out own10 (.int .i64 B.id) (.string B.name) (.slice a4 n c4) (.slice fa6 fn fc6) (.slice ra8 rn rc8) (.slice oa8 on oc8) (.int .i64 B.ticks) (.int .i64 B.parse) (.int .i64 B.word) (.int .i64 B.drops) (.int .i64 B.vers);have HO:=hide HO0;have HB:=hide HB0;clear fr st9 st10 own9 own10 HO0 HB0;go_wp2;exact bodyPost_ret (v:=.agg #[.int .i64 B.id,.string B.name,.slice a4 n c4,.slice fa6 fn fc6,.slice ra8 rn rc8,.slice oa8 on oc8,.int .i64 B.ticks,.int .i64 B.parse,.int .i64 B.word,.int .i64 B.drops,.int .i64 B.vers]) (by simp [results,Tryz.results59,go_sem, *]) rfl ⟨a4,c4,fa6,fc6,ra8,rc8,oa8,oc8,rfl,HO.out,HB.out⟩

theorem zcz (a:Option Addr) (n c:Nat) (fa:Option Addr) (fn fc:Nat) (ra:Option Addr) (rn rc:Nat) (oa:Option Addr) (on oc:Nat) (B:BR) (port:Int) (w:World) (h:BrRow w a n c fa fn fc ra rn rc oa on oc B) :
  Calls Tryz.prog 60 #[.agg #[.int .i64 B.id,.string B.name,.slice a n c,.slice fa fn fc,.slice ra rn rc,.slice oa on oc,.int .i64 B.ticks,.int .i64 B.parse,.int .i64 B.word,.int .i64 B.drops,.int .i64 B.vers],.int .i64 port] w fun e w'=>e=.returned (.bool (za9 B port))∧Below w.heap.size w w':=by
 have hle:=h.ports.le;have htop:=h.ports.top;unfold maxLen at htop;have HTB:Hid (za9 B port=(zz B && (decide (0≤port) && decide (port≤(n:Int) - 1)))):=hide (by unfold za9; rw [h.ports.size]);generalize hw1:w.alloc (Obj.cells #[.int .i64 B.id,.string B.name,.slice a n c,.slice fa fn fc,.slice ra rn rc,.slice oa on oc,.int .i64 B.ticks,.int .i64 B.parse,.int .i64 B.word,.int .i64 B.drops,.int .i64 B.vers] 61)=w1;have b01:=zb hw1;have k1:=zk hw1;obtain ⟨x0,x1,x2,x3,x4,x5,x6,x7,x8,x9,x10⟩:=zp k1;cases hok:zz B
 ·have HQ:Hid (za9 B port=false):=hide (by rw [HTB.out,hok]; rfl);have HOK:=hide hok;clear hok;go_enter Tryz.func60,Tryz.ntmps60;(go_wp2_with fail);refine (zba a n c fa fn fc ra rn rc oa on oc B _ (h.below b01)).mono ?_;rintro e w2 ⟨rfl,hb2⟩;rw [HOK.out];have HB:=hide (zc b01 hb2);clear x0 x1 x2 x3 x4 x5 x6 x7 x8 x9 x10 hb2;go_wp2;go_ret;exact ⟨(by rw [HQ.out]; rfl),HB.out⟩
 ·have HOK:=hide hok;have HQ:Hid (za9 B port=(decide (0≤port) && decide (port≤(n:Int) - 1))):=hide (by rw [HTB.out,hok]; rfl);clear hok;go_enter Tryz.func60,Tryz.ntmps60;(go_wp2_with fail);refine (zba a n c fa fn fc ra rn rc oa on oc B _ (h.below b01)).mono ?_;rintro e w2 ⟨rfl,hb2⟩;rw [HOK.out];have HB:=hide (zc b01 hb2);have k2:=za k1 hb2;clear x0 x1 x2 x3 x4 x5 x6 x7 x8 x9 x10 hb2;obtain ⟨x0,x1,x2,x3,x4,x5,x6,x7,x8,x9,x10⟩:=zp k2;(go_wp2_with fail);refine (zh port 0 ((n:Int) - 1) _).mono ?_;rintro r w3 ⟨rfl,ew⟩;obtain rfl:=ew.symm;go_wp2;go_ret;exact ⟨(by rw [HQ.out]; rfl),HB.out⟩

theorem zjW (N:NV) (k i:Nat) (x:LK) (y:BV) (w:World) (h:zas w N) (hx:N.ls[k]? = some x) (hy0:N.bs[i]? = some y) (hi:x.a=(i:Int)) :
  Calls Tryz.prog 142 #[.agg #[.slice N.ba N.bn N.bc,.slice N.la N.ln N.lc,.slice N.sa N.sn N.sc],.int .i64 (k:Int),.bool false] w fun e w'=>e=.returned (.agg #[.int .i64 (sayV y.B.id y.B.ports x.p).r,.int .i64 (sayV y.B.id y.B.ports x.p).c,.int .i64 (sayV y.B.id y.B.ports x.p).h,.int .i64 (sayV y.B.id y.B.ports x.p).b,.int .i64 (sayV y.B.id y.B.ports x.p).p])∧Below w.heap.size w w':=by
 have hk:k < N.ln:=by have:=(List.getElem?_eq_some_iff.1 hx).1; have:=h.l.size; omega
 have hib:i < N.bn:=by have:=(List.getElem?_eq_some_iff.1 hy0).1; have:=h.b.size; omega
 generalize hw1:w.alloc (Obj.cells #[.slice N.ba N.bn N.bc,.slice N.la N.ln N.lc,.slice N.sa N.sn N.sc] 31)=w1;generalize hw2:w1.alloc (Obj.cells #[.int .i64 0,.int .i64 0,.int .i64 0,.int .i64 0,.int .i64 0] 72)=w2;have b01:=zb hw1;have b12:=zb hw2;have b02:=zc b01 b12;have kP:=za (zk hw1) b12;have kJ:=zk hw2;have HZ1:Hid (w1.heap.size=w.heap.size+1):=hide (by rw [← hw1]; simp);have HZ2:Hid (w2.heap.size=w.heap.size+2):=hide (by rw [← hw2,← hw1]; simp);obtain ⟨x',lb,lo,hx',hla,a0,a1,a2,a3⟩:=zaX (h.l.below b02) k hk;rw [hx] at hx';cases hx';obtain ⟨y',bb,off,hy',hba,-⟩:=br_at h.b i hib;rw [hy0] at hy';cases hy';have hy:=h.item y (List.mem_of_getElem? hy0);have hG:GRow brF w (some ⟨bb,off,none⟩) N.bn N.bc N.bs:=by rw [← hba]; exact h.b
 have HBC:Hid (∀W,Below w.heap.size w W→zcc W bb (off+i*11) (.int .i64 y.B.id)∧zcc W bb (off+i*11+2) (.slice y.a y.n y.c)):=hide (fun W hW=>by have:=zao hG hW hy0; exact ⟨this.1,this.2.2.1⟩);have HBA:=hide hba;obtain ⟨x0,x1,x2⟩:=zd kP;rw [hla] at x1;have i1:(0:Int)≤(k:Int):=by omega
 have i2:(k:Int) < (N.ln:Int):=by omega
 have i3:(0:Int)≤(i:Int):=by omega
 have i4:(i:Int) < (N.bn:Int):=by omega
 clear hla hba hx hy0 hG;go_enter Tryz.func142,Tryz.ntmps142;obtain ⟨xa,xp,xb,xq⟩:=x;dsimp only at hi a0 a1 a2 a3 ⊢;subst hi;go_upto_region 4 with fail
 generalize hw3:w2.alloc (Obj.cells #[.int .i64 (i:Int),.int .i64 xp,.int .i64 xb,.int .i64 xq] 44)=w3;have b23:=zb hw3;have kL:=zk hw3;have kP:=za kP b23;have kJ:=za kJ b23;have b3:=zc b02 b23;have vv:Below w3.heap.size w3 w3.drew:=zr (Below.refl _ _);clear hw3 b23 x0 x1 x2 a0 a1 a2 a3;refine wp_region_held_drew (S:=(fun W=>(zcc W w.heap.size 0 (.slice (some ⟨bb,off,none⟩) N.bn N.bc)∧zcc W w.heap.size 1 (.slice N.la N.ln N.lc)∧zcc W w.heap.size 2 (.slice N.sa N.sn N.sc))∧(zcc W w2.heap.size 0 (.int .i64 (i:Int))∧zcc W w2.heap.size 1 (.int .i64 xp)∧zcc W w2.heap.size 2 (.int .i64 xb)∧zcc W w2.heap.size 3 (.int .i64 xq))∧(zcc W bb (off+i*11) (.int .i64 y.B.id)∧zcc W bb (off+i*11+2) (.slice y.a y.n y.c)))) (by kernel_rfl) (⟨by have:=zd (za kP vv); rw [HBA.out] at this; exact this,zO (za kL vv),(HBC.out _ (zc b3 vv)).1,(HBC.out _ (zc b3 vv)).2⟩) (fun hHeld => ?_);refine kK 0 ?_;refine kK 1 ?_;refine kK 2 ?_;refine kK 3 ?_;refine kK 4 ?_;refine kK 5 ?_;refine kK 6 ?_;refine kK 7 ?_;refine kK 8 ?_;refine kK 9 ?_;refine kK 10 ?_;refine kK 11 ?_;refine kK 12 ?_;refine kK 13 ?_;refine kK 14 ?_;refine kK 15 ?_;refine kR 16 fun K hK => ?_
 go_simp;refine (zbz y.B.id y.a y.n y.c y.B.ports xp _ (hy.ports.below (zc b3 vv))).mono ?_;rintro e wz ⟨rfl,hbz⟩;have vv:=zc vv hbz;generalize hSV:sayV y.B.id y.B.ports xp=SV at *;go_wp2_with fail
 refine kO hK (⟨by have:=zd (za kP vv); rw [HBA.out] at this; exact this,zO (za kL vv),(HBC.out _ (zc b3 vv)).1,(HBC.out _ (zc b3 vv)).2⟩) fun hHeld => ?_
 clear hK K;refine kR 17 fun K hK => ?_
 obtain ⟨xx0,xx1,xx2,xx3,xx4⟩:=(zx (za kJ vv)).1;have ff:=zi (za kJ vv);have ff0:=ff 0;have ff1:=ff 1;have ff2:=ff 2;have ff3:=ff 3;have ff4:=ff 4;clear ff;go_simp;refine zgK (K:=K _) (za kJ vv) _ _ _ _ _ (fun wq kQ hgq => ?_);have vq:=(zc b3 vv).grown hgq (zc b3 vv).size (by intro j e; cases e; have:=HZ1.out; omega);have kPq:=ze (za kP vv) hgq (by intro j e; cases e; have:=HZ1.out; omega);have kLq:=ze (za kL vv) hgq (by intro j e; cases e; have:=HZ1.out; have:=HZ2.out; omega);refine kO hK (⟨by have:=zd kPq; rw [HBA.out] at this; exact this,zO kLq,(HBC.out _ vq).1,(HBC.out _ vq).2⟩) fun hHeld => ?_
 clear hK K;refine wpAnyH_done (by kernel_rfl) ?_ _;have HB:=hide vq;have HQ:=hide kQ;obtain ⟨⟨r0,r1,r2,r3,r4⟩,-⟩:=zx kQ;clear hHeld kPq kLq vq kQ hgq;go_wp2;exact bodyPost_ret (v:=.agg #[.int .i64 SV.r,.int .i64 SV.c,.int .i64 SV.h,.int .i64 SV.b,.int .i64 SV.p]) (by simp [results,Tryz.results142,go_sem, *]) rfl ⟨by rw [hSV],HB.out⟩

theorem ziX (N:NV) (k i:Nat) (x:LK) (y:BV) (w:World) (h:zas w N) (hx:N.ls[k]? = some x) (hy0:N.bs[i]? = some y) (hi:x.b=(i:Int)) :
  Calls Tryz.prog 142 #[.agg #[.slice N.ba N.bn N.bc,.slice N.la N.ln N.lc,.slice N.sa N.sn N.sc],.int .i64 (k:Int),.bool true] w fun e w'=>e=.returned (.agg #[.int .i64 (sayV y.B.id y.B.ports x.q).r,.int .i64 (sayV y.B.id y.B.ports x.q).c,.int .i64 (sayV y.B.id y.B.ports x.q).h,.int .i64 (sayV y.B.id y.B.ports x.q).b,.int .i64 (sayV y.B.id y.B.ports x.q).p])∧Below w.heap.size w w':=by
 have hk:k < N.ln:=by have:=(List.getElem?_eq_some_iff.1 hx).1; have:=h.l.size; omega
 have hib:i < N.bn:=by have:=(List.getElem?_eq_some_iff.1 hy0).1; have:=h.b.size; omega
 generalize hw1:w.alloc (Obj.cells #[.slice N.ba N.bn N.bc,.slice N.la N.ln N.lc,.slice N.sa N.sn N.sc] 31)=w1;generalize hw2:w1.alloc (Obj.cells #[.int .i64 0,.int .i64 0,.int .i64 0,.int .i64 0,.int .i64 0] 72)=w2;have b01:=zb hw1;have b12:=zb hw2;have b02:=zc b01 b12;have kP:=za (zk hw1) b12;have kJ:=zk hw2;have HZ1:Hid (w1.heap.size=w.heap.size+1):=hide (by rw [← hw1]; simp);have HZ2:Hid (w2.heap.size=w.heap.size+2):=hide (by rw [← hw2,← hw1]; simp);obtain ⟨x',lb,lo,hx',hla,a0,a1,a2,a3⟩:=zaX (h.l.below b02) k hk;rw [hx] at hx';cases hx';obtain ⟨y',bb,off,hy',hba,-⟩:=br_at h.b i hib;rw [hy0] at hy';cases hy';have hy:=h.item y (List.mem_of_getElem? hy0);have hG:GRow brF w (some ⟨bb,off,none⟩) N.bn N.bc N.bs:=by rw [← hba]; exact h.b
 have HBC:Hid (∀W,Below w.heap.size w W→zcc W bb (off+i*11) (.int .i64 y.B.id)∧zcc W bb (off+i*11+2) (.slice y.a y.n y.c)):=hide (fun W hW=>by have:=zao hG hW hy0; exact ⟨this.1,this.2.2.1⟩);have HBA:=hide hba;obtain ⟨x0,x1,x2⟩:=zd kP;rw [hla] at x1;have i1:(0:Int)≤(k:Int):=by omega
 have i2:(k:Int) < (N.ln:Int):=by omega
 have i3:(0:Int)≤(i:Int):=by omega
 have i4:(i:Int) < (N.bn:Int):=by omega
 clear hla hba hx hy0 hG;go_enter Tryz.func142,Tryz.ntmps142;obtain ⟨xa,xp,xb,xq⟩:=x;dsimp only at hi a0 a1 a2 a3 ⊢;subst hi;go_upto_region 3 with fail
 generalize hw3:w2.alloc (Obj.cells #[.int .i64 xa,.int .i64 xp,.int .i64 (i:Int),.int .i64 xq] 44)=w3;have b23:=zb hw3;have kL:=zk hw3;have kP:=za kP b23;have kJ:=za kJ b23;have b3:=zc b02 b23;have vv:Below w3.heap.size w3 w3.drew:=zr (Below.refl _ _);clear hw3 b23 x0 x1 x2 a0 a1 a2 a3;refine wp_region_held_drew (S:=(fun W=>(zcc W w.heap.size 0 (.slice (some ⟨bb,off,none⟩) N.bn N.bc)∧zcc W w.heap.size 1 (.slice N.la N.ln N.lc)∧zcc W w.heap.size 2 (.slice N.sa N.sn N.sc))∧(zcc W w2.heap.size 0 (.int .i64 xa)∧zcc W w2.heap.size 1 (.int .i64 xp)∧zcc W w2.heap.size 2 (.int .i64 (i:Int))∧zcc W w2.heap.size 3 (.int .i64 xq))∧(zcc W bb (off+i*11) (.int .i64 y.B.id)∧zcc W bb (off+i*11+2) (.slice y.a y.n y.c)))) (by kernel_rfl) (⟨by have:=zd (za kP vv); rw [HBA.out] at this; exact this,zO (za kL vv),(HBC.out _ (zc b3 vv)).1,(HBC.out _ (zc b3 vv)).2⟩) (fun hHeld => ?_);refine kK 0 ?_;refine kK 1 ?_;refine kK 2 ?_;refine kK 3 ?_;refine kK 4 ?_;refine kK 5 ?_;refine kK 6 ?_;refine kK 7 ?_;refine kK 8 ?_;refine kK 9 ?_;refine kK 10 ?_;refine kK 11 ?_;refine kK 12 ?_;refine kK 13 ?_;refine kK 14 ?_;refine kK 15 ?_;refine kR 16 fun K hK => ?_
 go_simp;refine (zbz y.B.id y.a y.n y.c y.B.ports xq _ (hy.ports.below (zc b3 vv))).mono ?_;rintro e wz ⟨rfl,hbz⟩;have vv:=zc vv hbz;generalize hSV:sayV y.B.id y.B.ports xq=SV at *;go_wp2_with fail
 refine kO hK (⟨by have:=zd (za kP vv); rw [HBA.out] at this; exact this,zO (za kL vv),(HBC.out _ (zc b3 vv)).1,(HBC.out _ (zc b3 vv)).2⟩) fun hHeld => ?_
 clear hK K;refine kR 17 fun K hK => ?_
 obtain ⟨xx0,xx1,xx2,xx3,xx4⟩:=(zx (za kJ vv)).1;have ff:=zi (za kJ vv);have ff0:=ff 0;have ff1:=ff 1;have ff2:=ff 2;have ff3:=ff 3;have ff4:=ff 4;clear ff;go_simp;refine zgK (K:=K _) (za kJ vv) _ _ _ _ _ (fun wq kQ hgq => ?_);have vq:=(zc b3 vv).grown hgq (zc b3 vv).size (by intro j e; cases e; have:=HZ1.out; omega);have kPq:=ze (za kP vv) hgq (by intro j e; cases e; have:=HZ1.out; omega);have kLq:=ze (za kL vv) hgq (by intro j e; cases e; have:=HZ1.out; have:=HZ2.out; omega);refine kO hK (⟨by have:=zd kPq; rw [HBA.out] at this; exact this,zO kLq,(HBC.out _ vq).1,(HBC.out _ vq).2⟩) fun hHeld => ?_
 clear hK K;refine wpAnyH_done (by kernel_rfl) ?_ _;have HB:=hide vq;have HQ:=hide kQ;obtain ⟨⟨r0,r1,r2,r3,r4⟩,-⟩:=zx kQ;clear hHeld kPq kLq vq kQ hgq;go_wp2;exact bodyPost_ret (v:=.agg #[.int .i64 SV.r,.int .i64 SV.c,.int .i64 SV.h,.int .i64 SV.b,.int .i64 SV.p]) (by simp [results,Tryz.results142,go_sem, *]) rfl ⟨by rw [hSV],HB.out⟩

theorem ze0 (n:Int) (w:World) (h:n≤9223372036854775806) (h0 : -9223372036854775808≤n) :
  Calls Tryz.prog 86 #[.int .i64 n] w fun e w'=>e=.returned (.int .i64 (zap n))∧w'=w:=by
 by_cases h1:n≥1000000
 ·rw [show zap n=n from if_pos h1];have h1':(1000000:Int)≤n:=h1;go_enter Tryz.func86,Tryz.ntmps86;go_wp2;go_ret;exact ⟨rfl,rfl⟩
 ·rw [show zap n=n+1 from if_neg h1];have h1':¬(1000000:Int)≤n:=h1;go_enter Tryz.func86,Tryz.ntmps86;go_wp2;go_ret;exact ⟨rfl,rfl⟩

theorem zhk (bits:Int) (l:List FE) (k:Nat):(zaz bits l k).length≤l.length:=(zcl bits l k).length_le

theorem zb1 (base:Nat) (a:Option Addr) (n c:Nat) (fa:Option Addr) (fn fc:Nat) (ra:Option Addr) (rn rc:Nat) (oa:Option Addr) (on oc:Nat) (B:BR) (w:World) (h:BrOwn w base a n c fa fn fc ra rn rc oa on oc B) (hbase:base≤w.heap.size) (hn:n≤1048576) (hfn:fn≤16777216) (hv : -9223372036854775808≤B.vers∧B.vers≤9223372036854775806) :
  Calls Tryz.prog 61 #[.agg #[.int .i64 B.id,.string B.name,.slice a n c,.slice fa fn fc,.slice ra rn rc,.slice oa on oc,.int .i64 B.ticks,.int .i64 B.parse,.int .i64 B.word,.int .i64 B.drops,.int .i64 B.vers]] w fun e w'=>∃(fa2:Option Addr) (fn2 fc2:Nat),e=.returned (.agg #[.int .i64 B.id,.string B.name,.slice a n c,.slice fa2 fn2 fc2,.slice ra rn rc,.slice oa on oc,.int .i64 B.ticks,.int .i64 B.parse,.int .i64 B.word,.int .i64 B.drops,.int .i64 (zap B.vers)])∧BrOwn w' base a n c fa2 fn2 fc2 ra rn rc oa on oc (turned B)∧Below w.heap.size w w':=by
 have hpl:B.ports.length=n:=(zD (F:=ptF) h.ports).size;have hfl:B.f.length=fn:=(zD (F:=fentF) h.f).size;generalize hw1:w.alloc (Obj.cells #[.int .i64 B.id,.string B.name,.slice a n c,.slice fa fn fc,.slice ra rn rc,.slice oa on oc,.int .i64 B.ticks,.int .i64 B.parse,.int .i64 B.word,.int .i64 B.drops,.int .i64 B.vers] 61)=w1;generalize hw2:w1.alloc (Obj.cells #[.int .i64 0,.string ⟨#[]⟩,.slice none 0 0,.slice none 0 0,.slice none 0 0,.slice none 0 0,.int .i64 0,.int .i64 0,.int .i64 0,.int .i64 0,.int .i64 0] 61)=w2;have b01:=zb hw1;have b12:=zb hw2;have z1:w.heap.size < w1.heap.size:=by rw [← hw1]; simp
 have st2:BcSt w w2 w1.heap.size w.heap.size #[.int .i64 B.id,.string B.name,.slice a n c,.slice fa fn fc,.slice ra rn rc,.slice oa on oc,.int .i64 B.ticks,.int .i64 B.parse,.int .i64 B.word,.int .i64 B.drops,.int .i64 B.vers]:=⟨za (zk hw1) b12,by rw [← hw2]; exact zt _ _,zc b01 b12,Nat.le_refl _,Nat.le_of_lt z1,Nat.ne_of_gt z1⟩;have own2:=h.below (zc b01 b12);obtain ⟨x0,x1,x2,x3,x4,x5,x6,x7,x8,x9,x10⟩:=zp st2.box;have f10:=zi st2.box 10;obtain ⟨V,hV⟩:∃V,V=zap B.vers:=⟨_,rfl⟩;have HV:=hide hV;have HVR:=hide hv;clear hv;go_enter Tryz.func61,Tryz.ntmps61;go_wp2_with fail
 refine (ze0 B.vers _ HVR.out.2 HVR.out.1).mono ?_;rintro e w3 ⟨rfl,e3⟩;obtain rfl:=e3.symm;rw [← hV];clear hV hw1 hw2;generalize hR:w1.heap.size=R at *;generalize hw4:w2.setCell ⟨w.heap.size,10,none⟩ (.int .i64 V)=w4;have st4:=st2.put 10 (.int .i64 V) (cs':=#[.int .i64 B.id,.string B.name,.slice a n c,.slice fa fn fc,.slice ra rn rc,.slice oa on oc,.int .i64 B.ticks,.int .i64 B.parse,.int .i64 B.word,.int .i64 B.drops,.int .i64 V]) rfl;have own4:=own2.boxed st2.box 10 (.int .i64 V);rw [hw4] at st4 own4;go_upto_region 2 with fail
 clear x0 x1 x2 x3 x4 x5 x6 x7 x8 x9 x10 f10 st2 own2 hw4;obtain ⟨x0,x1,x2,x3,x4,x5,x6,x7,x8,x9,x10⟩:=zp st4.box;go_wp2_with fail
 refine (zge B.id a n c B.ports _ (zD (F:=ptF) own4.ports)).mono ?_;rintro e w5 ⟨rfl,hb5⟩;have st5:=st4.later hb5;have own5:=own4.below hb5;generalize hbits:zbc B.id B.ports=bits;have HBI:=hide hbits;clear x0 x1 x2 x3 x4 x5 x6 x7 x8 x9 x10 st4 own4 hb5 hbits;have HFL:=hide hfl;clear hfl;go_wp2_with fail
 go_loopw [4] (fun i wr=>∃(k:Nat) (fa2:Option Addr) (fn2 fc2:Nat),k≤n∧i=.int .i64 k∧fn2≤fn∧BcSt w wr R w.heap.size #[.int .i64 B.id,.string B.name,.slice a n c,.slice fa2 fn2 fc2,.slice ra rn rc,.slice oa on oc,.int .i64 B.ticks,.int .i64 B.parse,.int .i64 B.word,.int .i64 B.drops,.int .i64 V]∧BrOwn wr base a n c fa2 fn2 fc2 ra rn rc oa on oc { B with f:=zaz bits B.f k }) (fun i _=>n - (intOf i).toNat)
 case atStart=>exact ⟨0,fa,fn,fc,Nat.zero_le _,rfl,Nat.le_refl _,st5,own5⟩
 case round =>
  obtain ⟨k,fa2,fn2,fc2,hk,rfl,hf2,st,own⟩:=hrel;clear st5 own5;obtain ⟨x0,x1,x2,x3,x4,x5,x6,x7,x8,x9,x10⟩:=zp st.box;by_cases hlt:k < n
  ·have i1:(0:Int)≤(k:Int):=by omega
   have i2:(k:Int) < (n:Int):=by omega
   (go_wp2_with fail);refine (zhM bits (k:Int) _).mono ?_;rintro e w6 ⟨rfl,e6⟩;obtain rfl:=e6.symm;cases hb:bitOf bits (k:Int)
   ·have HF:Hid (zaz bits B.f (k+1)=zY (zaz bits B.f k) (k:Int)):=hide (by rw [zaz,if_neg (by rw [hb]; decide)]);clear hb;(go_wp2_with fail);refine (zgd fa2 fn2 fc2 (zaz bits B.f k) (k:Int) _ (zD (F:=fentF) own.f) (by omega)).mono ?_;rintro e w7 ⟨fa7,fc7,rfl,o7,-,hb7⟩;have hlen:(zY (zaz bits B.f k) (k:Int)).length≤fn:=by
     have h1:(zY (zaz bits B.f k) (k:Int)).length≤(zaz bits B.f k).length:=List.length_filter_le _ _;have h2:=zhk bits B.f k;have h3:=HFL.out;omega
    have st7:=st.later hb7;have o7:=zL o7 (base':=base) (Nat.le_trans hbase st.below.size);have own7:=(own.below hb7).putF (Below.refl _ _) o7;clear x0 x1 x2 x3 x4 x5 x6 x7 x8 x9 x10 hb7 o7 st own;obtain ⟨x0,x1,x2,x3,x4,x5,x6,x7,x8,x9,x10⟩:=zp st7.box;have f3:=zi st7.box 3;rw [← HF.out] at own7 hlen ⊢;generalize hL:(zaz bits B.f (k+1)).length=L at *;have HST:=hide (st7.put 3 (.slice fa7 L fc7) (cs':=#[.int .i64 B.id,.string B.name,.slice a n c,.slice fa7 L fc7,.slice ra rn rc,.slice oa on oc,.int .i64 B.ticks,.int .i64 B.parse,.int .i64 B.word,.int .i64 B.drops,.int .i64 V]) rfl);have HOW:=hide (own7.boxed st7.box 3 (.slice fa7 L fc7));clear st7 own7;go_wp2
    go_roundw
    case rel=>exact ⟨k+1,fa7,L,fc7,by omega,by go_num,hlen,HST.out,HOW.out⟩
    case measure=>simp [intOf]; omega
   ·have HF:Hid (zaz bits B.f (k+1)=zaz bits B.f k):=hide (by rw [zaz,if_pos hb]);have HOW:Hid (BrOwn wr base a n c fa2 fn2 fc2 ra rn rc oa on oc { B with f:=zaz bits B.f (k+1) }):=hide (by rw [HF.out]; exact own);have HST:=hide st;clear hb st own x0 x1 x2 x3 x4 x5 x6 x7 x8 x9 x10;go_wp2
    go_roundw
    case rel=>exact ⟨k+1,fa2,fn2,fc2,by omega,by go_num,hf2,HST.out,HOW.out⟩
    case measure=>simp [intOf]; omega
  ·obtain rfl:n=k:=by omega
   obtain ⟨y0,y1,y2,y3,y4,y5,y6,y7,y8,y9,y10⟩:=zp st.res;have fr:=zi st.res;have f0:=fr 0;have f1:=fr 1;have f2:=fr 2;have f3:=fr 3;have f4:=fr 4;have f5:=fr 5;have f6:=fr 6;have f7:=fr 7;have f8:=fr 8;have f9:=fr 9;have f10:=fr 10;have ne1:¬R=w.heap.size:=st.ne;have ne2:¬w.heap.size=R:=fun e=>st.ne e.symm
   have HT:Hid (turned B={ B with vers:=V,f:=zaz bits B.f n }):=hide (by unfold turned; rw [HBI.out,hpl,HV.out]);obtain ⟨HO0,HB0⟩:=st.out own (.int .i64 B.id) (.string B.name) (.slice a n c) (.slice fa2 fn2 fc2) (.slice ra rn rc) (.slice oa on oc) (.int .i64 B.ticks) (.int .i64 B.parse) (.int .i64 B.word) (.int .i64 B.drops) (.int .i64 V);have HO:=hide HO0;have HB:=hide HB0;clear st own fr HO0 HB0;go_wp2;exact bodyPost_ret (v:=.agg #[.int .i64 B.id,.string B.name,.slice a n c,.slice fa2 fn2 fc2,.slice ra rn rc,.slice oa on oc,.int .i64 B.ticks,.int .i64 B.parse,.int .i64 B.word,.int .i64 B.drops,.int .i64 V]) (by simp [results,Tryz.results61,go_sem, *]) rfl ⟨fa2,fn2,fc2,(by rw [HV.out]),(by rw [HT.out]; exact ⟨HO.out.ports,HO.out.f,HO.out.v⟩),HB.out⟩

theorem zjG (p:Nat) (h1:1≤p) (h6:p≤6) (w:World) :
  Calls Tryz.prog 102 #[.int .u64 1,.int .u64 p] w fun e w'=>e=.returned (.tuple #[.int .u64 0,.int .u64 p])∧w'=w:=by
 rcases (show p=1∨p=2∨p=3∨p=4∨p=5∨p=6 by omega) with rfl | rfl | rfl | rfl | rfl | rfl
 ·show Calls Tryz.prog 102 #[.int .u64 1,.int .u64 1] w _
  go_enter Tryz.func102,Tryz.ntmps102;go_wp2;exact bodyPost_ret (v:=.tuple #[.int .u64 0,.int .u64 1]) (by kernel_rfl) rfl ⟨rfl,rfl⟩
 ·show Calls Tryz.prog 102 #[.int .u64 1,.int .u64 2] w _
  go_enter Tryz.func102,Tryz.ntmps102;go_wp2;exact bodyPost_ret (v:=.tuple #[.int .u64 0,.int .u64 2]) (by kernel_rfl) rfl ⟨rfl,rfl⟩
 ·show Calls Tryz.prog 102 #[.int .u64 1,.int .u64 3] w _
  go_enter Tryz.func102,Tryz.ntmps102;go_wp2;exact bodyPost_ret (v:=.tuple #[.int .u64 0,.int .u64 3]) (by kernel_rfl) rfl ⟨rfl,rfl⟩
 ·show Calls Tryz.prog 102 #[.int .u64 1,.int .u64 4] w _
  go_enter Tryz.func102,Tryz.ntmps102;go_wp2;exact bodyPost_ret (v:=.tuple #[.int .u64 0,.int .u64 4]) (by kernel_rfl) rfl ⟨rfl,rfl⟩
 ·show Calls Tryz.prog 102 #[.int .u64 1,.int .u64 5] w _
  go_enter Tryz.func102,Tryz.ntmps102;go_wp2;exact bodyPost_ret (v:=.tuple #[.int .u64 0,.int .u64 5]) (by kernel_rfl) rfl ⟨rfl,rfl⟩
 ·show Calls Tryz.prog 102 #[.int .u64 1,.int .u64 6] w _
  go_enter Tryz.func102,Tryz.ntmps102;go_wp2;exact bodyPost_ret (v:=.tuple #[.int .u64 0,.int .u64 6]) (by kernel_rfl) rfl ⟨rfl,rfl⟩

theorem zjH (p:Nat) (h1:1≤p) (h6:p≤6) (w:World) :
  Calls Tryz.prog 69 #[.int .u64 1,.int .u64 p] w fun e w'=>e=.returned (.tuple #[.int .u64 0,.int .u64 p])∧w'=w:=by
 go_enter Tryz.func69,Tryz.ntmps69;go_wp2_with fail
 refine (zjG p h1 h6 _).mono ?_;rintro e w1 ⟨rfl,e1⟩;obtain rfl:=e1.symm;go_wp2;exact bodyPost_ret (v:=.tuple #[.int .u64 0,.int .u64 p]) (by simp [results,Tryz.results69,go_sem, *]) rfl ⟨rfl,rfl⟩

def zcE (p k:Nat):List Int:=List.replicate k 1++List.replicate (p - k) 0

theorem zkC:(Tryz.prog.info? 3).map (·.size)=some 1:=by kernel_rfl

theorem zgP {w:World} {base g p k m:Nat} {cs:List Int} (h:w.ownsRow base 3 1 (.slice (some ⟨g,0,none⟩) p p) p (intF.all (zcE p k))) (hk:k+m≤p) (hcs:cs=List.replicate m 1) {a:Addr} {dl sl:Nat} (hmin:Nat.min sl dl=m) (hsrc:∀j v,(intF.all cs)[j]? = some v→w.cell? (a.add j)=some v) :
  ∃w',(∀ty dc sc,(Builtin.copy_ #[24,24] ty #[.slice (some ⟨g,k,none⟩) dl dc,.slice (some a) sl sc]).run Tryz.prog w=.ok (goInt m) w')∧w'.ownsRow base 3 1 (.slice (some ⟨g,0,none⟩) p p) p (intF.all (zcE p (k+m)))∧w.grownBy w' (some g):=by
 obtain ⟨hlen,⟨hv,h0⟩ | ⟨g',cap',cur,hv,hg,hh,h1,h2,h3,h4⟩⟩:=h
 ·cases hv
 ·cases hv;have hcl:(intF.all cs).length=m:=by rw [zaF,hcs]; simp [cI]
  have hfit:k+(intF.all cs).length≤cur.size:=by rw [hcl,h3]; omega
  refine ⟨w.setRow g (cur.toList.take k++intF.all cs++cur.toList.drop (k+(intF.all cs).length)).toArray,fun ty dc sc => ?_,⟨?_,.inr ⟨g,p,_,rfl,hg,setRow_heap w g cur _ 3 _ hh,Nat.le_refl _,h2, ?_, ?_⟩⟩, ?_⟩
  ·have:=zdM (P:=Tryz.prog) w 24 24 ty 3 g k dl dc a sl sc cur 3 (intF.all cs) 1 Tryz.underlying24 zkC hh (by rw [hcl,hmin,Nat.mul_one]) hsrc hfit (intF.all_oneCell cs)
   rw [hmin] at this;exact this
  ·rw [intF.all_length];unfold zcE
   have:intF.k=1:=rfl
   rw [this]
   simp
   omega
  ·have:cur.toList.length=p:=by have:=h3; simp at this; simpa using this
   simp
   rw [hcl]
   simp at this
   omega
  ·have hcs':cur.toList=intF.all (zcE p k):=by
    rw [← h4,List.take_of_length_le (by have:=h3; simp at this; simp; omega)]
   rw [hcs',zaF,zaF,zaF,hcs];unfold zcE cI;simp only [List.map_append,List.map_replicate,Nat.mul_one];have e1:(List.replicate k (Value.int .i64 1)++List.replicate (p - k) (Value.int .i64 0)).take k=List.replicate k (Value.int .i64 1):=by
    rw [List.take_append_of_le_length (by simp),List.take_of_length_le (by simp)]
   rw [e1];have e2:(List.replicate k (Value.int .i64 1)++List.replicate (p - k) (Value.int .i64 0)).drop (k+(List.replicate m (Value.int .i64 1)).length)=List.replicate (p - (k+m)) (Value.int .i64 0):=by
    rw [List.length_replicate,List.drop_append,List.drop_eq_nil_of_le (by rw [List.length_replicate]; omega),List.nil_append,List.length_replicate,List.drop_replicate]
    congr 1
    omega
   rw [e2,List.take_of_length_le (by simp; omega),← List.replicate_append_replicate]
  ·refine ⟨rfl,rfl,rfl, ?_, ?_⟩
   ·simp [World.setRow]
   ·intro i hi hkg;rw [setRow_other _ _ _ _ (fun e=>hkg (by rw [e]))]

theorem zhH (g p:Nat) (h1:1≤p) (h6:p≤6) (w:World) (kg:w.heap[g]? = some (.cells #[.int .i64 1] 3)) :
  Calls Tryz.prog 71 #[.slice (some ⟨g,0,none⟩) 1 1,.int .i64 p] w fun e w'=>∃a' c',e=.returned (.slice a' p c')∧w'.ownsRow w.heap.size 3 1 (.slice a' p c') p (cI (List.replicate p 1))∧Below w.heap.size w w':=by
 have hglt:g < w.heap.size:=(Array.getElem?_eq_some_iff.1 kg).1;obtain ⟨i0,hi,hz0,hz1,hz2⟩:=zbw (k:=1) Tryz.infoI64;have hnn:¬((p:Int) < 0):=by omega
 have hwp:IntKind.u64.wrap (p:Int)=(p:Int):=by rw [IntKind.wrap_u64]; omega
 have hwq:IntKind.i64.wrap (p:Int)=(p:Int):=by rw [IntKind.wrap_i64]; omega
 have hbig:¬((9223372036854775807:Int) < (p:Int)):=by omega
 go_enter Tryz.func71,Tryz.ntmps71;go_wp2_with fail
 refine (zjH p h1 h6 _).mono ?_;rintro e w1 ⟨rfl,e1⟩;obtain rfl:=e1.symm;go_wp2_with (at_make; refine wpList_make_full _ rfl _ _ 24 rfl w.heap.size 3 i0 (.int .i64 0) 1 Tryz.underlying24 hi hz0 hz1 .i64 .i64 _ _ p rfl rfl rfl rfl ?c1 ?c2 ?c3 ?_)
 case c1=>rw [hz2]; omega
 case c2=>unfold maxLen; omega
 case c3=>exact Nat.le_refl _
 intro w1 hown hgrow;have hb1:Below w.heap.size w w1:=(Below.refl _ _).grown hgrow (Nat.le_refl _) (by intro k hk; cases hk);have hown1:w1.ownsRow w.heap.size 3 1 (.slice (some ⟨w.heap.size,0,none⟩) p p) p (intF.all (zcE p 0)):=by
  unfold zcE;rw [List.replicate_zero,List.nil_append,Nat.sub_zero]
  have:=zeB intF 0 p
  rw [show intF.k=1 from rfl,Nat.mul_one] at this;rw [← this];exact hown
 have kg1:=za kg hb1;have hcell:w1.cell? ⟨g,0,none⟩=some (.int .i64 1):=by simp [World.cell?,kg1]
 obtain ⟨w2,hcp,hO2,hg2⟩:=zgP (cs:=[1]) (m:=1) (a:=⟨g,0,none⟩) (dl:=p) (sl:=1) hown1 (by omega) rfl (Nat.min_eq_left h1) (by
  intro j v hj
  match j,hj with
  | 0,hj=>cases hj; rw [zck]; exact hcell
  | j+1,hj=>simp [intF,Flat.all] at hj)
 have HO2:Hid (w2.ownsRow w.heap.size 3 1 (.slice (some ⟨w.heap.size,0,none⟩) p p) p (intF.all (zcE p 1))):=hide hO2;have HB2:Hid (Below w.heap.size w w2):=hide (hb1.grown hg2 hb1.size (by intro k hk; cases hk; exact Nat.le_refl _));clear hown hgrow hi hz0 hz1 hz2 hown1 hO2 hg2 kg1 hcell hb1;go_wp2_with (at_builtin; refine zdk _ rfl _ _ 24 24 rfl _ _ rfl rfl (hcp _ _ _) ?_)
 go_wp2
 go_loopw [8] (fun i wr=>∃k:Nat,1≤k∧k≤p∧i=.int .i64 k∧wr.ownsRow w.heap.size 3 1 (.slice (some ⟨w.heap.size,0,none⟩) p p) p (intF.all (zcE p k))∧Below w.heap.size w wr) (fun i _=>p - (intOf i).toNat)
 case atStart=>exact ⟨1,Nat.le_refl _,h1,rfl,HO2.out,HB2.out⟩
 case round =>
  obtain ⟨k,hk1,hk,rfl,ho,hb⟩:=hrel;by_cases hlt:k < p
  ·have ho':wr.drew.ownsRow w.heap.size 3 1 (.slice (some ⟨w.heap.size,0,none⟩) p p) p (intF.all (zcE p k)):=zl ho (zr (Below.refl _ _));have hm1:Nat.min k (p - k)≤k:=Nat.min_le_left _ _;have hm2:Nat.min k (p - k)≤p - k:=Nat.min_le_right _ _;have hm3:1≤Nat.min k (p - k):=Nat.le_min.2 ⟨hk1,by omega⟩;obtain ⟨w3,hcp3,hO3,hg3⟩:=zgP (w:=wr.drew) (cs:=List.replicate (Nat.min k (p - k)) 1) (m:=Nat.min k (p - k)) (a:=⟨w.heap.size,0,none⟩) (dl:=p - k) (sl:=k) ho' (by omega) rfl rfl (by
    intro j v hj;have hjl:=(List.getElem?_eq_some_iff.1 hj).1;rw [intF.all_length,List.length_replicate,show intF.k=1 from rfl,Nat.mul_one] at hjl;rw [zck,Nat.zero_add,ho'.cellAt j (by omega)];rw [zaF] at hj ⊢;unfold cI at hj ⊢;rw [List.getElem?_map] at hj ⊢;unfold zcE;rw [List.getElem?_append_left (by simp; omega),List.getElem?_replicate,if_pos (by omega)];rw [List.getElem?_replicate,if_pos (by omega)] at hj;exact hj)
   have HO:=hide hO3;have HB:=hide (hb.drew.grown hg3 (by simpa using hb.size) (by intro j hj; cases hj; exact Nat.le_refl _));have hcp:=hcp3;have i1:(0:Int)≤(k:Int):=by omega
   have i2:(k:Int)≤(p:Int):=by omega
   have i3:¬(p=k):=by omega
   have i4:IntKind.i64.wrap ((k:Int)+(Nat.min k (p - k):Nat))=((k+Nat.min k (p - k):Nat):Int):=by rw [IntKind.wrap_i64]; omega
   clear hcp3 hO3 hg3 ho ho' hb;(go_wp2_with fail);refine wp_region_held_drew (S:=(fun _=>True)) (by kernel_rfl) (trivial) (fun hHeld => ?_);refine kK 0 ?_;refine kK 1 ?_;refine kK 2 ?_;refine kK 3 ?_;refine kK 4 ?_;refine kK 5 ?_;refine kK 6 ?_;refine kR 7 fun K hK => ?_
   refine zed rfl _ _ 24 24 rfl _ _ rfl rfl (hcp _ _ _) ?_;refine kO hK (trivial) fun hHeld => ?_
   clear hK K;refine kK 8 ?_;refine kK 9 ?_;refine wpAnyH_done (by kernel_rfl) ?_ _;clear hHeld;go_wp2
   go_roundw
   case rel=>exact ⟨k+Nat.min k (p - k),by omega,by omega,by go_num,HO.out,HB.out⟩
   case measure=>simp [intOf]; omega
  ·have hkp:k=p:=by omega
   subst hkp;have HO:Hid (wr.ownsRow w.heap.size 3 1 (.slice (some ⟨w.heap.size,0,none⟩) k k) k (cI (List.replicate k 1))):=hide (by
    have h:=ho;unfold zcE at h;rw [Nat.sub_self,List.replicate_zero,List.append_nil,zaF] at h;exact h)
   have HB:=hide hb;clear ho hb;go_wp2;go_ret;exact ⟨_,_,rfl,HO.out,HB.out⟩

theorem zef (ports:Int) (w:World) :
  Calls Tryz.prog 48 #[.int .i64 ports] w fun e w'=>∃a n c o p q,e=.returned (.agg #[.slice a n c,.slice o p q])∧VOwn w' w.heap.size a n c o p q (zbr ports)∧Below w.heap.size w w':=by
 generalize hw1:w.alloc (Obj.cells #[Value.slice none 0 0,Value.slice none 0 0] 59)=w1;have b01:=zb hw1;have k0:=zk hw1;have z1:Hid (w.heap.size < w1.heap.size):=hide (by rw [← hw1]; simp);cases hin:(decide (1≤ports) && decide (ports≤6))
 ·rw [zfO hin];have HIN:=hide hin;clear hin;obtain ⟨⟨g0,g1⟩,f0,f1⟩:=zG k0;have HB:=hide (zj (zj b01 (Nat.le_refl _) 0 (.slice none 0 0)) (Nat.le_refl _) 1 (.slice none 0 0));go_enter Tryz.func48,Tryz.ntmps48;go_wp2_with (refine (zaN ports 1 6 _).mono ?_; rintro r w2 ⟨rfl,e2⟩; obtain rfl:=e2.symm; rw [HIN.out])
  exact bodyPost_ret (v:=.agg #[.slice none 0 0,.slice none 0 0]) (by simp [results,Tryz.results48,go_sem, *]) rfl ⟨_,_,_,_,_,_,rfl,zgl _ _,HB.out⟩
 ·obtain ⟨p,rfl⟩:∃p:Nat,ports=(p:Int):=⟨ports.toNat,by simp at hin; omega⟩;rw [zb3 hin];have HIN:=hide hin;have hp:1≤p∧p≤6:=by simp at hin; omega
  clear hin;generalize hw2:w1.alloc (Obj.cells #[Value.int .i64 1,Value.int .i64 (allOf p),Value.int .i64 (allOf p)] 98)=w2;have b12:=zb hw2;have k1:=zk hw2;generalize hw3:w2.alloc (Obj.cells #[Value.int .i64 1] 3)=w3;have b23:=zb hw3;have k2:=zk hw3;have hR:w3.ownsRow w1.heap.size 98 3 (.slice (some ⟨w1.heap.size,0,none⟩) 1 1) 1 (vrowF.all [⟨1,allOf p,allOf p⟩]):=zl (zdq vrowF (x:=⟨1,allOf p,allOf p⟩) k1 rfl (Nat.le_refl _)) b23;have b13:=zc b12 b23;go_enter Tryz.func48,Tryz.ntmps48;go_wp2_with (refine (zaN (p:Int) 1 6 _).mono ?_; rintro r wy ⟨rfl,ey⟩; obtain rfl:=ey.symm; rw [HIN.out])
  refine (zcP p hp.1 hp.2 _).mono ?_;rintro r wy ⟨rfl,ey⟩;obtain rfl:=ey.symm;(go_wp2_with fail);refine (zhH w2.heap.size p hp.1 hp.2 _ k2).mono ?_;rintro r w4 ⟨a4,c4,rfl,hI,hb4⟩;have hV:VOwn w4 w1.heap.size (some ⟨w1.heap.size,0,none⟩) 1 1 a4 p c4 ⟨[⟨1,allOf p,allOf p⟩],List.replicate p 1⟩:=⟨zl hR hb4,zL hI b13.size,zh8 _⟩;have b14:=zc b13 hb4;obtain ⟨⟨g0,g1⟩,f0,f1⟩:=zG (za k0 b14);have HO:=hide ((hV.set2 (g:=w.heap.size) z1.out (.slice (some ⟨w1.heap.size,0,none⟩) 1 1) (.slice a4 p c4)).lt (base':=w.heap.size) b01.size);have HB:=hide (zj (zj (zc b01 b14) (Nat.le_refl _) 0 (.slice (some ⟨w1.heap.size,0,none⟩) 1 1)) (Nat.le_refl _) 1 (.slice a4 p c4));clear hV hI hR hb4;go_wp2;exact bodyPost_ret (v:=.agg #[.slice (some ⟨w1.heap.size,0,none⟩) 1 1,.slice a4 p c4]) (by simp [results,Tryz.results48,go_sem, *]) rfl ⟨_,_,_,_,_,_,rfl,HO.out,HB.out⟩

end Go.Proofs.YtkcoehmpnkdinaaGreat
