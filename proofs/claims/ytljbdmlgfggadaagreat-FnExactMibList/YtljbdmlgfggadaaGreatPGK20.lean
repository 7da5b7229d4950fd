/-
  Packed: BrNewS VtabPut DrawFdb BrBuild Box11 MibHelp MibSpecG MibSpecN.
-/
import Derived.Test.YtljbdmlgfggadaaGreatPGK12
import Derived.Test.YtljbdmlgfggadaaGreatPGK19
import Derived.Test.YtljbdmlgfggadaaGreatPGVtabRow
namespace Go.Proofs.YtljbdmlgfggadaaGreat
set_option maxRecDepth 100000
set_option maxHeartbeats 16000000
open Go.RowKit

def newPt:PT:=⟨false,1,false,⟨0,0,0,0,0⟩⟩
def zeroBr:BR:=⟨0,ByteArray.empty,[],[],⟨[],[]⟩,0,0,0,0,0⟩
def zaN (id:Int) (m:Nat):BR:=⟨id,ByteArray.empty,List.replicate m newPt,[],zbS m,0,0,0,0,0⟩

theorem BrOwn.boxed11 {w:World} {base:Nat} {a:Option Addr} {n c:Nat} {fa:Option Addr} {fn fc:Nat} {ra:Option Addr} {rn rc:Nat} {oa:Option Addr} {on oc:Nat} {B:BR} (h:BrOwn w base a n c fa fn fc ra rn rc oa on oc B) {X:Nat} {cs:Array Value} (hX:w.heap[X]?=some (.cells cs 31)) (u0 u1 u2 u3 u4 u5 u6 u7 u8 u9 u10:Value):BrOwn (((((((((((w.setCell ⟨X,0,none⟩ u0).setCell ⟨X,1,none⟩ u1).setCell ⟨X,2,none⟩ u2).setCell ⟨X,3,none⟩ u3).setCell ⟨X,4,none⟩ u4).setCell ⟨X,5,none⟩ u5).setCell ⟨X,6,none⟩ u6).setCell ⟨X,7,none⟩ u7).setCell ⟨X,8,none⟩ u8).setCell ⟨X,9,none⟩ u9).setCell ⟨X,10,none⟩ u10) base a n c fa fn fc ra rn rc oa on oc B :=
 (BrOwn.boxed (BrOwn.boxed (BrOwn.boxed (BrOwn.boxed (BrOwn.boxed (BrOwn.boxed (BrOwn.boxed (BrOwn.boxed (BrOwn.boxed (BrOwn.boxed (BrOwn.boxed h hX 0 u0) (box11 hX 0 u0) 1 u1) (box11 (box11 hX 0 u0) 1 u1) 2 u2) (box11 (box11 (box11 hX 0 u0) 1 u1) 2 u2) 3 u3) (box11 (box11 (box11 (box11 hX 0 u0) 1 u1) 2 u2) 3 u3) 4 u4) (box11 (box11 (box11 (box11 (box11 hX 0 u0) 1 u1) 2 u2) 3 u3) 4 u4) 5 u5) (box11 (box11 (box11 (box11 (box11 (box11 hX 0 u0) 1 u1) 2 u2) 3 u3) 4 u4) 5 u5) 6 u6) (box11 (box11 (box11 (box11 (box11 (box11 (box11 hX 0 u0) 1 u1) 2 u2) 3 u3) 4 u4) 5 u5) 6 u6) 7 u7) (box11 (box11 (box11 (box11 (box11 (box11 (box11 (box11 hX 0 u0) 1 u1) 2 u2) 3 u3) 4 u4) 5 u5) 6 u6) 7 u7) 8 u8) (box11 (box11 (box11 (box11 (box11 (box11 (box11 (box11 (box11 hX 0 u0) 1 u1) 2 u2) 3 u3) 4 u4) 5 u5) 6 u6) 7 u7) 8 u8) 9 u9) (box11 (box11 (box11 (box11 (box11 (box11 (box11 (box11 (box11 (box11 hX 0 u0) 1 u1) 2 u2) 3 u3) 4 u4) 5 u5) 6 u6) 7 u7) 8 u8) 9 u9) 10 u10)

theorem zbc {K:Nat} {a w:World} (h:Below K a w) {g:Nat} (hB:K≤g) (u0 u1 u2 u3 u4 u5 u6 u7 u8 u9 u10:Value):Below K a (((((((((((w.setCell ⟨g,0,none⟩ u0).setCell ⟨g,1,none⟩ u1).setCell ⟨g,2,none⟩ u2).setCell ⟨g,3,none⟩ u3).setCell ⟨g,4,none⟩ u4).setCell ⟨g,5,none⟩ u5).setCell ⟨g,6,none⟩ u6).setCell ⟨g,7,none⟩ u7).setCell ⟨g,8,none⟩ u8).setCell ⟨g,9,none⟩ u9).setCell ⟨g,10,none⟩ u10) :=
 (zj (zj (zj (zj (zj (zj (zj (zj (zj (zj (zj h hB 0 u0) hB 1 u1) hB 2 u2) hB 3 u3) hB 4 u4) hB 5 u5) hB 6 u6) hB 7 u7) hB 8 u8) hB 9 u9) hB 10 u10)

theorem zc5 (id:Int) (m:Nat) (w:World) (hid:(decide (1≤id) && decide (id≤99))=true) (hm:(decide (1≤(m:Int)) && decide ((m:Int)≤6))=true) :
  Calls Tryz.prog 64 #[.int .i64 id,.int .i64 m] w fun e w'=>∃(a:Option Addr) (c:Nat) (ra:Option Addr) (rn rc:Nat) (oa:Option Addr) (on oc:Nat),e=.returned (.agg #[.int .i64 id,.string ⟨#[]⟩,.slice a m c,.slice none 0 0,.slice ra rn rc,.slice oa on oc,.int .i64 0,.int .i64 0,.int .i64 0,.int .i64 0,.int .i64 0])∧BrOwn w' w.heap.size a m c none 0 0 ra rn rc oa on oc (zaN id m)∧Below w.heap.size w w':=by
 have h6:m≤6:=by simp at hm; omega
 have HID:=hide hid;have HM:=hide hm;clear hid hm;generalize hw1:w.alloc (Obj.cells #[.int .i64 0,.string ⟨#[]⟩,.slice none 0 0,.slice none 0 0,.slice none 0 0,.slice none 0 0,.int .i64 0,.int .i64 0,.int .i64 0,.int .i64 0,.int .i64 0] 31)=w1;have b1:=zb hw1;have kJ:=zk hw1;go_enter Tryz.func64,Tryz.ntmps64;go_wp2_with fail
 refine (zg id 1 99 _).mono ?_;rintro r wx ⟨rfl,ew⟩;obtain rfl:=ew.symm;rw [HID.out];go_wp2_with fail
 refine (zg (m:Int) 1 6 _).mono ?_;rintro r wx ⟨rfl,ew⟩;obtain rfl:=ew.symm;rw [HM.out];go_wp2_with fail
 refine (zch (m:Int) _).mono ?_;rintro r w2 ⟨ra,rn,rc,oa,on,oc,rfl,hv,hb2⟩;have hv:=hv.lt (base':=w.heap.size) b1.size;have b2:=zd b1 hb2;have kJ:=ze kJ hb2;clear hw1 hb2 b1;go_upto_region 4 with fail
 generalize hw3:w2.alloc (Obj.cells #[.int .i64 id,.string ⟨#[]⟩,.slice none 0 0,.slice none 0 0,.slice ra rn rc,.slice oa on oc,.int .i64 0,.int .i64 0,.int .i64 0,.int .i64 0,.int .i64 0] 31)=w3;have b3:=zb hw3;have kX:=zk hw3;have kJ:=ze kJ b3;have o3:BrOwn w3 w.heap.size none 0 0 none 0 0 ra rn rc oa on oc { zaN id m with ports:=List.replicate 0 newPt }:=⟨World.ownsRow_nil _ _ _ _,World.ownsRow_nil _ _ _ _,hv.below b3⟩;have HX:Hid (w.heap.size < w2.heap.size):=hide (Array.getElem?_eq_some_iff.1 (show w2.heap[w.heap.size]?=some (.cells #[.int .i64 0,.string ⟨#[]⟩,.slice none 0 0,.slice none 0 0,.slice none 0 0,.slice none 0 0,.int .i64 0,.int .i64 0,.int .i64 0,.int .i64 0,.int .i64 0] 31) from by assumption)).1;have b3:=zd b2 b3;clear hw3 b2 hv;go_wp2_with fail
 go_loopw [6] (fun i wr=>∃(k:Nat) (a:Option Addr) (c:Nat),k≤m∧i=.int .i64 k∧wr.heap[w.heap.size]?=some (.cells #[.int .i64 0,.string ⟨#[]⟩,.slice none 0 0,.slice none 0 0,.slice none 0 0,.slice none 0 0,.int .i64 0,.int .i64 0,.int .i64 0,.int .i64 0,.int .i64 0] 31)∧wr.heap[w2.heap.size]?=some (.cells #[.int .i64 id,.string ⟨#[]⟩,.slice a k c,.slice none 0 0,.slice ra rn rc,.slice oa on oc,.int .i64 0,.int .i64 0,.int .i64 0,.int .i64 0,.int .i64 0] 31)∧BrOwn wr w.heap.size a k c none 0 0 ra rn rc oa on oc { zaN id m with ports:=List.replicate k newPt }∧Below w.heap.size w wr) (fun i _=>m - (intOf i).toNat)
 case atStart=>exact ⟨0,none,0,Nat.zero_le _,rfl,kJ,kX,o3,b3⟩
 case round =>
  obtain ⟨k,a,c,hk,rfl,kJ,kX,o,hb⟩:=hrel;clear o3 b3;obtain ⟨x0,x1,x2,x3,x4,x5,x6,x7,x8,x9,x10⟩:=zi kX;by_cases hlt:k < m
  ·have b9:=zh wr (.cells #[.bool false,.int .i64 1,.bool false,.int .i64 0,.int .i64 0,.int .i64 0,.int .i64 0,.int .i64 0] 118);have o9:=o.below b9;have p9:=o9.ports;have kX9:=ze kX b9;have kR9:=ze kJ b9;have HB9:=hide (zd hb b9);have hbase9:w.heap.size≤(wr.alloc (.cells #[.bool false,.int .i64 1,.bool false,.int .i64 0,.int .i64 0,.int .i64 0,.int .i64 0,.int .i64 0] 118)).heap.size:=HB9.out.size;have HO9:=hide o9;have KX9:=hide kX9;have KR9:=hide kR9;clear hb b9 o9 kX9 kR9 o kX kJ;go_wp2_with (at_builtin; refine zc3 _ rfl _ _ rfl w.heap.size _ k (List.replicate k newPt) rfl p9 _ 1 1 [newPt] rfl (zaA ptF _ newPt _ _ rfl) (by omega) hbase9 ?_)
   rintro a' c' wz oz - gz bz;have kz:=zr KX9.out gz (fun i e=>zay HO9.out.ports KX9.out (by decide) i e);have rz:=zr KR9.out gz (fun i e=>zay HO9.out.ports KR9.out (by decide) i e);have hrep:List.replicate k newPt++[newPt]=List.replicate (k+1) newPt:=by rw [List.replicate_succ']
   rw [hrep] at oz;have on:=HO9.out.newPorts gz oz;have HON:=hide (BrOwn.boxed on kz 2 (.slice a' (k+1) c'));have HKX:=hide (box11 kz 2 (.slice a' (k+1) c'));have HKR:Hid ((wz.setCell ⟨w2.heap.size,2,none⟩ (.slice a' (k+1) c')).heap[w.heap.size]?=some (.cells #[.int .i64 0,.string ⟨#[]⟩,.slice none 0 0,.slice none 0 0,.slice none 0 0,.slice none 0 0,.int .i64 0,.int .i64 0,.int .i64 0,.int .i64 0,.int .i64 0] 31)):=hide (zav rz (Nat.ne_of_lt HX.out));have HBZ:=hide (zj (g:=w2.heap.size) (HB9.out.trans bz) (Nat.le_of_lt HX.out) 2 (.slice a' (k+1) c'));have fz:=zQ kz 2;obtain ⟨-,-,y2,-⟩:=zi kz;clear x0 x1 x2 x3 x4 x5 x6 x7 x8 x9 x10 kz rz gz bz oz on p9 hbase9;go_wp2
   go_roundw
   case rel=>exact ⟨k+1,a',c',by omega,by go_num,HKR.out,HKX.out,HON.out,HBZ.out⟩
   case measure=>simp [intOf]; omega
  ·have hkm:k=m:=by omega
   subst hkm;obtain ⟨z0,z1,z2,z3,z4,z5,z6,z7,z8,z9,z10⟩:=zi kJ;have f0:=zQ kJ;have ne1:¬w2.heap.size=w.heap.size:=by have:=HX.out; omega
   have ne2:¬w.heap.size=w2.heap.size:=by have:=HX.out; omega
   have HO:=hide (o.boxed11 kJ (.int .i64 id) (.string ⟨#[]⟩) (.slice a k c) (.slice none 0 0) (.slice ra rn rc) (.slice oa on oc) (.int .i64 0) (.int .i64 0) (.int .i64 0) (.int .i64 0) (.int .i64 0));have HB:=hide (zbc hb (Nat.le_refl w.heap.size) (.int .i64 id) (.string ⟨#[]⟩) (.slice a k c) (.slice none 0 0) (.slice ra rn rc) (.slice oa on oc) (.int .i64 0) (.int .i64 0) (.int .i64 0) (.int .i64 0) (.int .i64 0));clear o hb kX kJ;go_wp2;exact bodyPost_ret (v:=.agg #[.int .i64 id,.string ⟨#[]⟩,.slice a k c,.slice none 0 0,.slice ra rn rc,.slice oa on oc,.int .i64 0,.int .i64 0,.int .i64 0,.int .i64 0,.int .i64 0]) (by simp [results,Tryz.results64,go_sem, *]) rfl ⟨a,c,ra,rn,rc,oa,on,oc,rfl,HO.out,HB.out⟩

def zcr (v:VT) (r:VR):VT × Bool:=if zP v v.own.length then orV ⟨zL v.rows r false,v.own⟩ v else (v,false)

theorem za9 (a:Option Addr) (n c:Nat) (o:Option Addr) (p q:Nat) (v:VT) (r:VR) (w:World) (h:VTab w a n c o p q v) (hn:n≤16777216) (hp:p≤16777216) :
  Calls Tryz.prog 102 #[.agg #[.slice a n c,.slice o p q],.agg #[.int .i64 r.i,.int .i64 r.m,.int .i64 r.b]] w fun e w'=>∃a' n' c' o' p' q',e=.returned (.tuple #[.agg #[.slice a' n' c',.slice o' p' q'],.bool (zcr v r).2])∧VOwn w' w.heap.size a' n' c' o' p' q' (zcr v r).1∧Below w.heap.size w w':=by
 generalize hw1:w.alloc (Obj.cells #[Value.slice a n c,Value.slice o p q] 29)=w1;generalize hw2:w1.alloc (Obj.cells #[Value.int .i64 r.i,Value.int .i64 r.m,Value.int .i64 r.b] 82)=w2;generalize hw3:w2.alloc (Obj.cells #[Value.slice none 0 0,Value.slice none 0 0] 29)=w3;have b01:=zb hw1;have b12:=zb hw2;have b23:=zb hw3;have b13:=zd b12 b23;have b03:=zd b01 b13;have k2:=zk hw3;have z3:Hid (w2.heap.size < w3.heap.size):=hide (by rw [← hw3]; simp);obtain ⟨e0,e0x⟩:=zD hw1 b12;have kr:=zk hw2;obtain ⟨⟨e1,e2,e3⟩,-⟩:=zdh kr;have hb1:=zD hw1 b13;have h3:=h.below b03;have hl:=h.own.size;unfold zcr;rw [hl];cases hok:zP v p
 ·rw [if_neg Bool.false_ne_true];go_enter Tryz.func102,Tryz.ntmps102;go_wp2_with (refine (zS a n c o p q v (p:Int) _ h3).mono ?_; rintro e w4 ⟨rfl,hb4⟩; rw [hok]; have hc1:=zD hw1 (zd b13 hb4))
  go_wp2_with (refine (zat a n c o p q v _ (h3.below hb4) hn hp).mono ?_; rintro e w5 ⟨a',c',o',q',rfl,hO,hb5⟩; obtain ⟨⟨g0,g1⟩,f0,f1⟩:=zy (ze k2 (zd hb4 hb5)))
  have hbW:Below w.heap.size w ((w5.setCell ⟨w2.heap.size,0,none⟩ (.slice a' n c')).setCell ⟨w2.heap.size,1,none⟩ (.slice o' p q')):=zj (zj (zd b03 (zd hb4 hb5)) (zd b01 b12).size _ _) (zd b01 b12).size _ _;have hO':=(hO.set2 (g:=w2.heap.size) (by have:=hb4.size; have:=z3.out; omega) (.slice a' n c') (.slice o' p q')).lt (base':=w.heap.size) (by have:=hb4.size; have:=b03.size; omega);have HO:=hide hO';clear hO hO';exact bodyPost_ret (v:=.tuple #[.agg #[.slice a' n c',.slice o' p q'],.bool false]) (by simp [results,Tryz.results102,go_sem, *]) rfl ⟨_,_,_,_,_,_,rfl,HO.out,hbW⟩
 ·rw [if_pos rfl];go_enter Tryz.func102,Tryz.ntmps102;go_wp2_with (refine (zS a n c o p q v (p:Int) _ h3).mono ?_; rintro e w4 ⟨rfl,hb4⟩; rw [hok])
  have vv:Below w3.heap.size w3 w4.drew:=zw hb4;have vb:Below w2.heap.size w2 w4.drew:=zd b23 vv;refine wp_region_held_drew (S:=(fun W=>zcc W w.heap.size 0 (.slice a n c)∧zcc W w.heap.size 1 (.slice o p q)∧zcc W w1.heap.size 0 (.int .i64 r.i)∧zcc W w1.heap.size 1 (.int .i64 r.m)∧zcc W w1.heap.size 2 (.int .i64 r.b))) (by kernel_rfl) (⟨zf e0 vb,zf e0x vb,zf e1 vb,zf e2 vb,zf e3 vb⟩) (fun hHeld => ?_);refine kK 0 ⟨some 14,.load 29 (.tmp 2),29,"l09_vlan.go:113",#[],none⟩ ?_;refine kK 1 ⟨some 15,.load 82 (.tmp 3),82,"l09_vlan.go:113",#[],none⟩ ?_;refine kK 3 ⟨some 17,.load 29 (.tmp 2),29,"l09_vlan.go:113",#[],none⟩ ?_;refine kR 2 ⟨some 16,.call ⟨.value (.func 145),#[.tmp 14,.tmp 15],#[29,82]⟩,29,"l09_vlan.go:113",#[⟨0,.data⟩,⟨1,.data⟩],none⟩ (fun K hK => ?_);go_simp;refine (zfy a n c o p q v r _ (h3.below vv) hn hp).mono ?_;rintro e w5 ⟨a5,n5,c5,o5,q5,rfl,hO5,hb5⟩;have hO5:=hO5.lt (base':=w3.heap.size) vv.size;have vv:=zd vv hb5;have vb:=zd vb hb5;(go_wp2_with fail);refine kO hK (⟨zf e0 vb,zf e0x vb,zf e1 vb,zf e2 vb,zf e3 vb⟩) fun hHeld => ?_
  clear hK K;refine kR 4 ⟨some 18,.call ⟨.value (.func 144),#[.tmp 16,.tmp 17],#[29,29]⟩,137,"l09_vlan.go:113",#[⟨2,.data⟩,⟨3,.data⟩,⟨2,.chain⟩],none⟩ (fun K hK => ?_);go_simp;refine (zcL w3.heap.size a5 n5 c5 o5 p q5 _ a n c o p q v _ hO5 (h3.below vv) hn hp vv.size).mono ?_;rintro e w6 ⟨a6,n6,c6,o6,p6,q6,rfl,hO6,hb6⟩;have vv:=zd vv hb6;have vb:=zd vb hb6;clear hO5;(go_wp2_with fail);refine kO hK (⟨zf e0 vb,zf e0x vb,zf e1 vb,zf e2 vb,zf e3 vb⟩) fun hHeld => ?_
  clear hK K;refine kK 5 ⟨some 19,.extract (.tmp 18) 0,29,"l09_vlan.go:113",#[⟨4,.data⟩],none⟩ ?_;refine kK 6 ⟨some 20,.extract (.tmp 18) 1,4,"l09_vlan.go:113",#[⟨4,.data⟩],none⟩ ?_;refine kR 7 ⟨none,.store 29 (.tmp 4) (.tmp 19),0,"l09_vlan.go:113",#[⟨5,.data⟩,⟨4,.chain⟩,⟨0,.phase⟩,⟨1,.phase⟩,⟨2,.phase⟩,⟨3,.phase⟩,⟨4,.phase⟩,⟨5,.phase⟩,⟨6,.phase⟩],none⟩ (fun K hK => ?_);obtain ⟨⟨g0,g1⟩,f0,f1⟩:=zy (ze k2 vv);go_simp;have vb:=zj (zj vb (Nat.le_refl _) 0 (.slice a6 n6 c6)) (Nat.le_refl _) 1 (.slice o6 p6 q6);have hO6:=hO6.set2 (g:=w2.heap.size) z3.out (.slice a6 n6 c6) (.slice o6 p6 q6);refine kO hK (⟨zf e0 vb,zf e0x vb,zf e1 vb,zf e2 vb,zf e3 vb⟩) fun hHeld => ?_
  clear hK K;refine kK 8 ⟨some 5,.assign (.tmp 20),4,"l09_vlan.go:113",#[⟨6,.data⟩,⟨7,.chain⟩,⟨0,.phase⟩,⟨1,.phase⟩,⟨2,.phase⟩,⟨3,.phase⟩,⟨4,.phase⟩,⟨5,.phase⟩,⟨6,.phase⟩,⟨7,.phase⟩],none⟩ ?_;refine wpAnyH_done (by kernel_rfl) ?_ _;have HO:=hide (hO6.lt (base':=w.heap.size) b03.size);have HB:=hide (zd (zd b01 b12) vb);clear hO6;go_wp2;exact bodyPost_ret (v:=.tuple #[.agg #[.slice a6 n6 c6,.slice o6 p6 q6],.bool (orV ⟨zL v.rows r false,v.own⟩ v).2]) (by simp [results,Tryz.results102,go_sem, *]) rfl ⟨_,_,_,_,_,_,rfl,HO.out,HB.out⟩

theorem zdU (C:Nat) (a0:Option Addr) (l0 c0:Nat) (z0:List Int) (w:World) (hc:Cur w C a0 l0 c0 z0) :
  Calls Tryz.prog 69 #[.pointer (some ⟨C,0,none⟩)] w fun e w'=>∃y:Int,e=.returned (.int .i64 y)∧11≤y∧y≤14∧Went w w' C a0 l0 c0 z0:=by
 go_enter Tryz.func69,Tryz.ntmps69;go_wp2_with fail
 refine (zbj C a0 l0 c0 z0 [11,12,13,14] _ _ w hc rfl rfl (by simp) (by simp)).mono ?_;rintro e w2 ⟨y,hy,rfl,went2⟩;have hy:11≤y∧y≤14:=by simp at hy; omega
 go_wp2;go_ret;exact ⟨_,rfl,hy.1,hy.2,went2⟩

theorem zdl {l:List FE} (h:fdbOk l=true):l.length≤12:=((za4 l).1 h).2
theorem ok_rng {l:List FE} (h:fdbOk l=true):∀x∈l,x.Rng:=fun x hx=>ziR ((((za4 l).1 h).1).1 x hx)

structure BcSt (w wr:World) (R X:Nat) (cs:Array Value):Prop where
 box:wr.heap[X]?=some (.cells cs 31)
 res:wr.heap[R]?=some (.cells #[.int .i64 0,.string ⟨#[]⟩,.slice none 0 0,.slice none 0 0,.slice none 0 0,.slice none 0 0,.int .i64 0,.int .i64 0,.int .i64 0,.int .i64 0,.int .i64 0] 31)
 below:Below w.heap.size w wr
 hX:w.heap.size≤X
 hR:w.heap.size≤R
 ne:R≠X

theorem BcSt.later {w wr wx:World} {R X:Nat} {cs:Array Value} (h:BcSt w wr R X cs) (hb:Below wr.heap.size wr wx):BcSt w wx R X cs :=
 ⟨ze h.box hb,ze h.res hb,zd h.below hb,h.hX,h.hR,h.ne⟩

theorem BcSt.put {w wr:World} {R X:Nat} {cs:Array Value} (h:BcSt w wr R X cs) (j:Nat) (u:Value) {cs':Array Value} (he:cs.setIfInBounds j u=cs'):BcSt w (wr.setCell ⟨X,j,none⟩ u) R X cs' :=
 ⟨by rw [← he]; exact box11 h.box j u,zav h.res h.ne,zj h.below h.hX j u,h.hX,h.hR,h.ne⟩

theorem BcSt.grown {w wr wx:World} {R X:Nat} {cs:Array Value} (h:BcSt w wr R X cs) {base k:Nat} {e:TypeId} {v:Value} {n:Nat} {xs:List Value} (ho:wr.ownsRow base e k v n xs) (hne:(e:Nat)≠31) (hg:wr.grownBy wx v.ownBlock) (hb:Below w.heap.size wr wx):BcSt w wx R X cs :=
 ⟨zr h.box hg (fun i e=>zay ho h.box hne i e),zr h.res hg (fun i e=>zay ho h.res hne i e),h.below.trans hb,h.hX,h.hR,h.ne⟩

theorem BcSt.stay {w wr:World} {R X:Nat} {cs:Array Value} (h:BcSt w wr R X cs) {base k:Nat} {e:TypeId} {v:Value} {n:Nat} {xs:List Value} (ho:wr.ownsRow base e k v n xs) (hne:(e:Nat)≠31) (j:Nat) (u:Value):(wr.setCell ⟨X,j,none⟩ u).ownsRow base e k v n xs :=
 zI ho (zl (rb:=X) j u) (zay ho h.box hne)

theorem BcSt.out {w wr:World} {R X:Nat} {cs:Array Value} (h:BcSt w wr R X cs) {base:Nat} {a:Option Addr} {n c:Nat} {fa:Option Addr} {fn fc:Nat} {ra:Option Addr} {rn rc:Nat} {oa:Option Addr} {on oc:Nat} {B:BR} (ho:BrOwn wr base a n c fa fn fc ra rn rc oa on oc B) (u0 u1 u2 u3 u4 u5 u6 u7 u8 u9 u10:Value):BrOwn (((((((((((wr.setCell ⟨R,0,none⟩ u0).setCell ⟨R,1,none⟩ u1).setCell ⟨R,2,none⟩ u2).setCell ⟨R,3,none⟩ u3).setCell ⟨R,4,none⟩ u4).setCell ⟨R,5,none⟩ u5).setCell ⟨R,6,none⟩ u6).setCell ⟨R,7,none⟩ u7).setCell ⟨R,8,none⟩ u8).setCell ⟨R,9,none⟩ u9).setCell ⟨R,10,none⟩ u10) base a n c fa fn fc ra rn rc oa on oc B∧Below w.heap.size w (((((((((((wr.setCell ⟨R,0,none⟩ u0).setCell ⟨R,1,none⟩ u1).setCell ⟨R,2,none⟩ u2).setCell ⟨R,3,none⟩ u3).setCell ⟨R,4,none⟩ u4).setCell ⟨R,5,none⟩ u5).setCell ⟨R,6,none⟩ u6).setCell ⟨R,7,none⟩ u7).setCell ⟨R,8,none⟩ u8).setCell ⟨R,9,none⟩ u9).setCell ⟨R,10,none⟩ u10) :=
 ⟨ho.boxed11 h.res u0 u1 u2 u3 u4 u5 u6 u7 u8 u9 u10,zbc h.below h.hR u0 u1 u2 u3 u4 u5 u6 u7 u8 u9 u10⟩

theorem zgV {w:World} {X:Nat} {c0 c1 c2 c3 c4 c5 c6 c7 c8 c9 c10:Value} {T:TypeId} (h:w.heap[X]?=some (.cells #[c0,c1,c2,c3,c4,c5,c6,c7,c8,c9,c10] T)) (u0 u1 u2 u3 u4 u5 u6 u7 u8 u9 u10:Value):(((((((((((w.setCell ⟨X,0,none⟩ u0).setCell ⟨X,1,none⟩ u1).setCell ⟨X,2,none⟩ u2).setCell ⟨X,3,none⟩ u3).setCell ⟨X,4,none⟩ u4).setCell ⟨X,5,none⟩ u5).setCell ⟨X,6,none⟩ u6).setCell ⟨X,7,none⟩ u7).setCell ⟨X,8,none⟩ u8).setCell ⟨X,9,none⟩ u9).setCell ⟨X,10,none⟩ u10).heap[X]?=some (.cells #[u0,u1,u2,u3,u4,u5,u6,u7,u8,u9,u10] T):=by
 have h':=(box11 (box11 (box11 (box11 (box11 (box11 (box11 (box11 (box11 (box11 (box11 h 0 u0) 1 u1) 2 u2) 3 u3) 4 u4) 5 u5) 6 u6) 7 u7) 8 u8) 9 u9) 10 u10);simp only [lA,lB,lC] at h';exact h'

theorem zgM {W:World} {X:Nat} {c0 c1 c2 c3 c4 c5 c6 c7 c8 c9 c10:Value} {T:TypeId} {K:World→Prop} (hk:W.heap[X]?=some (.cells #[c0,c1,c2,c3,c4,c5,c6,c7,c8,c9,c10] T)) (u0 u1 u2 u3 u4 u5 u6 u7 u8 u9 u10:Value) (h:∀wq,wq.heap[X]?=some (.cells #[u0,u1,u2,u3,u4,u5,u6,u7,u8,u9,u10] T)→W.grownBy wq (some X)→K wq):K (((((((((((W.setCell ⟨X,0,none⟩ u0).setCell ⟨X,1,none⟩ u1).setCell ⟨X,2,none⟩ u2).setCell ⟨X,3,none⟩ u3).setCell ⟨X,4,none⟩ u4).setCell ⟨X,5,none⟩ u5).setCell ⟨X,6,none⟩ u6).setCell ⟨X,7,none⟩ u7).setCell ⟨X,8,none⟩ u8).setCell ⟨X,9,none⟩ u9).setCell ⟨X,10,none⟩ u10) :=
 h _ (zgV hk u0 u1 u2 u3 u4 u5 u6 u7 u8 u9 u10) (zE (zE (zE (zE (zE (zE (zE (zE (zE (zE (zl _ _) (zl _ _)) (zl _ _)) (zl _ _)) (zl _ _)) (zl _ _)) (zl _ _)) (zl _ _)) (zl _ _)) (zl _ _)) (zl _ _))

theorem BrOwn.grownBox {w w':World} {base:Nat} {a:Option Addr} {n c:Nat} {fa:Option Addr} {fn fc:Nat} {ra:Option Addr} {rn rc:Nat} {oa:Option Addr} {on oc:Nat} {B:BR} (h:BrOwn w base a n c fa fn fc ra rn rc oa on oc B) {X:Nat} {cs:Array Value} (hX:w.heap[X]?=some (.cells cs 31)) (hg:w.grownBy w' (some X)):BrOwn w' base a n c fa fn fc ra rn rc oa on oc B :=
 ⟨zI h.ports hg (zay h.ports hX (by decide)),zI h.f hg (zay h.f hX (by decide)),⟨zI h.v.rows hg (zay h.v.rows hX (by decide)),zI h.v.own hg (zay h.v.own hX (by decide)),h.v.i64⟩⟩

theorem BOwns.between {w w':World} {base:Nat} {ao:Option Addr} {n cap:Nat} {l:List BI} (h:BOwns w base ao n cap l) {L E:Nat} (hb:Between L E w w') (hE:E≤base):BOwns w' base ao n cap l :=
 ⟨hb.own h.row hE,fun x hx=>⟨hb.own (h.item x hx).o hE,hb.own (h.item x hx).z hE,(h.item x hx).ob,(h.item x hx).zb,(h.item x hx).s⟩,h.apart⟩

theorem BOwn.between {w w':World} {base:Nat} {y:BI} (h:BOwn w base y) {L E:Nat} (hb:Between L E w w') (hE:E≤base):BOwn w' base y :=
 ⟨hb.own h.o hE,hb.own h.z hE,h.ob,h.zb,h.s⟩

theorem zjg {w:World} {base:Nat} {y:BI} (h:BOwn w base y) (hl:LitB y.d):y.wt≤17:=by
 have h1:y.on=y.o.length:=by have:=h.o.1; simp [cI] at this; omega
 have h2:y.zn=y.z.length:=by have:=h.z.1; simp [cI] at this; omega
 have h3:y.o.length≤7:=hl.o;have h4:y.S.size≤10:=hl.s;have h5:y.z=[]:=hl.z;unfold BI.wt;rw [h1,h2,h5]
 simp
 omega

theorem zgp {w:World} {base:Nat}:∀(ys:List BI),(∀y∈ys,BOwn w base y)→(∀y∈ys,LitB y.d)→bulk ys≤17*ys.length
 | [],_,_=>Nat.le_refl _
 | y::r,h1,h2=>by
  have a1:=zjg (h1 y (List.mem_cons_self ..)) (h2 y (List.mem_cons_self ..));have a2:=zgp r (fun u hu=>h1 u (List.mem_cons_of_mem _ hu)) (fun u hu=>h2 u (List.mem_cons_of_mem _ hu));rw [zdH,List.length_cons];omega

theorem zig {w:World} {base:Nat} {ao:Option Addr} {cap:Nat} {l:List BI} {B:BR} (h:BOwns w base ao l.length cap l) (hd:l.map BI.d=zF B):l.length+bulk l≤1048576:=by
 have h1:=zgp l h.item (fun y hy=>zci hd hy);have h2:l.length≤100:=by
  have h3:=congrArg List.length hd;rw [List.length_map] at h3;rw [h3];exact zb7 B
 omega

theorem zfg (oa:Option Addr) (on oc:Nat) (o:List Int) (K N:Int) (S:ByteArray) (base:Nat) (k:Int) (w:World) (h:w.ownsRow base 3 1 (.slice oa on oc) on (cI o)) (hn:on≤16777216) (hk0:0≤k) (hk1:k≤1048576) :
  Calls Tryz.prog 32 #[.agg #[.slice oa on oc,.int .i64 K,.int .i64 N,.string S,.slice none 0 0],.int .i64 k] w fun e w'=>e=.returned (.int .i64 (k+on))∧w'.ownsRow base 3 1 (.slice oa on oc) on (cI (zaw k on))∧w.grownBy w' (Value.slice oa on oc).ownBlock:=by
 generalize hw1:w.alloc (Obj.cells #[.slice oa on oc,.int .i64 K,.int .i64 N,.string S,.slice none 0 0] 37)=w1;have b1:=zb hw1;have k1:=zk hw1;have hne:(37:Nat)≠3:=by decide
 obtain ⟨⟨x0,x1,x2,x3,x4⟩,-⟩:=zo k1;have h1:=zar h b1;go_enter Tryz.func32,Tryz.ntmps32;go_wp2_with fail
 refine (za0 base oa on oc o k _ h1 hn hk0 (by omega)).mono ?_;rintro e w2 ⟨rfl,ho,hg⟩;have k2:=zr k1 hg (zbl h1 k1 hne);clear x0 x1 x2 x3 x4 hw1;obtain ⟨⟨x0,x1,x2,x3,x4⟩,-⟩:=zo k2;have HO:=hide ho;have HG:=hide (zdN b1 hg);have hk:k+(on:Int)≤1099511627776:=by omega
 have hk2:0≤k+(on:Int):=by omega
 clear ho hg h1 k1 b1;go_wp2_with fail
 refine (zcY K N S base none 0 0 [] (k+(on:Int)) _ (World.ownsRow_nil _ _ _ _) (by omega) hk2 hk).mono ?_;rintro e w3 ⟨rfl,-,hg3⟩;have h23:Below w2.heap.size w2 w3:=(Below.refl _ _).grown hg3 (Nat.le_refl _) (by intro b hb; cases hb);have HO3:=hide (zar HO.out h23);have HG3:Hid (w.grownBy w3 (Value.slice oa on oc).ownBlock):=hide (zE HG.out (zdd h23));have e0:k+(on:Int)+((0:Nat):Int)=k+(on:Int):=by omega
 rw [e0];clear hg3 h23 k2 x0 x1 x2 x3 x4;go_wp2;go_ret;exact ⟨rfl,HO3.out,HG3.out⟩

theorem zdi (oa:Option Addr) (on oc:Nat) (K N:Int) (S:ByteArray) (k:Int) (w:World) (h:IRow w oa on oc (zaw k on)) (hn:on≤16777216) (hk0:0≤k) (hk1:k≤1048576) :
  Calls Tryz.prog 33 #[.agg #[.slice oa on oc,.int .i64 K,.int .i64 N,.string S,.slice none 0 0],.int .i64 k] w fun e w'=>e=.returned (.int .i64 (k+on))∧Below w.heap.size w w':=by
 generalize hw1:w.alloc (Obj.cells #[.slice oa on oc,.int .i64 K,.int .i64 N,.string S,.slice none 0 0] 37)=w1;have b1:=zb hw1;have k1:=zk hw1;obtain ⟨⟨x0,x1,x2,x3,x4⟩,-⟩:=zo k1;have hk:k+(on:Int)≤1099511627776:=by omega
 have hk2:0≤k+(on:Int):=by omega
 have hk3:¬(k+(on:Int) < 0):=by omega
 go_enter Tryz.func33,Tryz.ntmps33;go_wp2_with fail
 refine (zcT oa on oc k _ (h.below b1) hn hk0 (by omega)).mono ?_;rintro e w2 ⟨rfl,ew⟩;obtain rfl:=ew.symm;go_wp2_with fail
 refine (zcI K N S none 0 0 (k+(on:Int)) _ (by simpa [zaw] using zbi _) (by omega) hk2 hk).mono ?_;rintro e w3 ⟨rfl,hb3⟩;have HB:=hide (zd b1 hb3);have e0:k+(on:Int)+((0:Nat):Int)=k+(on:Int):=by omega
 rw [e0];clear hb3 x0 x1 x2 x3 x4 hw1 k1 b1;go_wp2;go_ret;exact ⟨rfl,HB.out⟩

theorem zea (a:Option Addr) (n c:Nat) (fa:Option Addr) (fn fc:Nat) (ra:Option Addr) (rn rc:Nat) (oa:Option Addr) (on oc:Nat) (B:BR) (ia:Option Addr) (il ic:Nat) (o:List Int) (w:World) (h:BrRow w a n c fa fn fc ra rn rc oa on oc B) (hi:IRow w ia il ic o) :
  Calls Tryz.prog 22 #[.agg #[.int .i64 B.id,.string B.name,.slice a n c,.slice fa fn fc,.slice ra rn rc,.slice oa on oc,.int .i64 B.ticks,.int .i64 B.parse,.int .i64 B.word,.int .i64 B.drops,.int .i64 B.vers],.slice ia il ic] w fun e w'=>∃(za:Option Addr) (zc:Nat),e=.returned (.agg #[.int .i64 (zcp (zF B) o).K,.int .i64 (zcp (zF B) o).N,.string (zcp (zF B) o).S,.slice za 0 zc])∧w'.ownsRow w.heap.size 3 1 (.slice za 0 zc) 0 (cI [])∧Below w.heap.size w w':=by
 generalize hw1:w.alloc (Obj.cells #[.int .i64 B.id,.string B.name,.slice a n c,.slice fa fn fc,.slice ra rn rc,.slice oa on oc,.int .i64 B.ticks,.int .i64 B.parse,.int .i64 B.word,.int .i64 B.drops,.int .i64 B.vers] 31)=w1;have b1:=zb hw1;have k1:=zk hw1;generalize hwr:w1.alloc (Obj.cells #[.int .i64 0,.int .i64 0,.string ⟨#[]⟩,.slice none 0 0] 35)=w1r;have b1r:=zb hwr;have kr0:=zk hwr;have b0r:=zd b1 b1r;have HW1:=hide b1.size;obtain ⟨x0,x1,x2,x3,x4,x5,x6,x7,x8,x9,x10⟩:=zi (ze k1 b1r);go_enter Tryz.func22,Tryz.ntmps22;go_wp2_with fail
 refine (zaY a n c fa fn fc ra rn rc oa on oc B _ (h.below b0r)).mono ?_;rintro e w2 ⟨la,lc,l,rfl,hd,ol,h2⟩;have b2:=zd b0r h2;have kr:=ze kr0 h2;have HBW:=hide b0r.size;clear x0 x1 x2 x3 x4 x5 x6 x7 x8 x9 x10 h k1 hw1 hwr h2 kr0 b1 b1r b0r;have HL:Hid (l.length≤100∧(zF B).length=l.length):=hide (by have h1:=congrArg List.length hd; rw [List.length_map] at h1; rw [h1]; exact ⟨zb7 B,rfl⟩);have HAT:Hid (∀(i:Nat) x,l[i]?=some x→(zF B)[i]?=some x.d):=hide (fun i x hx=>by rw [← hd,List.getElem?_map,hx]; rfl);have HLIT:Hid (∀x∈l,LitB x.d):=hide (fun x hx=>zci hd hx);have hi2:=hi.below b2;clear hd;go_wp2_with fail
 go_loopw [6] (fun vk wr=>∃(k:Nat),vk=.int .i64 (k:Int)∧k≤l.length∧(∀(i:Nat) y,i < k→(zF B)[i]?=some y→decide (y.o=o)=false)∧Below w2.heap.size w2 wr) (fun vk _=>102 - (intOf vk).toNat)
 case atStart=>exact ⟨0,rfl,Nat.zero_le _,(by intro i y hi; omega),Below.refl _ _⟩
 case round =>
  obtain ⟨k,rfl,hk,hno,hb⟩:=hrel;have hl100:=HL.out.1;have HNO:=hide hno;by_cases hkl:k < l.length
  ·have hkl':(k:Int) < (l.length:Int):=by omega
   have hk100:(k:Int)≤100:=by omega
   have hlc:=ol.brow.le;obtain ⟨x,xb,off,hx,hla,hat,hin⟩:=(ol.brow.below hb).at k hkl;subst hla;have HX:=hide (HAT.out k x hx);have HM:=hide (List.mem_of_getElem? hx);have HBS:=hide hb;have HATK:=hide hat;obtain ⟨a0,a1,a2,a3,a4⟩:=hat;have hnm:=hin.o;clear hx hno hb hin;(go_wp2_with fail);refine (zfz _ _ _ x.o ia il ic o _ hnm (hi2.below HBS.out)).mono ?_;rintro e w5 ⟨rfl,nd,rfl⟩;have h5:Below wr.heap.size wr (wr.drewN nd):=zV (Below.refl _ _) nd;have HB5:=hide (zd HBS.out h5);have hat5:=HATK.out.below h5;generalize wr.drewN nd=w5 at *;clear a0 a1 a2 a3 a4 h5 hnm HATK;cases hq:decide (x.o=o)
   ·have HNO2:=hide (zcl (p:=fun d:BD=>decide (d.o=o)) HNO.out HX.out hq);clear hq hat5;go_wp2
    go_roundw
    case rel=>exact ⟨k+1,by go_num,by omega,HNO2.out,HB5.out⟩
    case measure=>simp [intOf]; omega
   ·have HG:=hide (zgl HNO.out HX.out hq);clear hq;have hzz:x.z=[]:=(HLIT.out x HM.out).z;have hox:=(ol.below HB5.out).item x HM.out;have HZO:=hide hox.z;have hzn:x.zn=0:=by have h1:=hox.z.1; rw [hzz] at h1; simp [cI] at h1; omega
    have HZZ:=hide hzz;have HZN:=hide hzn;obtain ⟨a0,a1,a2,a3,a4⟩:=hat5;have kr5:=ze kr HB5.out;have HKR:=hide kr5;obtain ⟨⟨q0,q1,q2,q3⟩,f0,f1,f2,f3⟩:=zak kr5;have HB6:=hide (zd b2 HB5.out);clear kr kr5 hzz hzn hox;go_wp2;refine bodyPost_ret (v:=.agg #[.int .i64 x.K,.int .i64 x.N,.string x.S,.slice x.za x.zn x.zc]) (by simp [results,Tryz.results22,go_sem, *]) rfl ?_;have gs:=zfM w5 w1.heap.size (.int .i64 x.K) (.int .i64 x.N) (.string x.S) (.slice x.za x.zn x.zc);refine ⟨x.za,x.zc,(by rw [HG.out,HZN.out]; rfl), ?_,HB6.out.grown gs HB6.out.size (fun b hb2=>by cases hb2; exact HW1.out)⟩;have hne:(35:Nat)≠3:=by decide
    have hz:w5.ownsRow w.heap.size 3 1 (.slice x.za 0 x.zc) 0 (cI []):=by
     have h1:=zaU HZO.out HBW.out;rw [HZZ.out,HZN.out] at h1;exact h1
    exact zI hz gs (zbl hz HKR.out hne)
  ·have hkl':¬(k:Int) < (l.length:Int):=by omega
   have hke:k=l.length:=by omega
   have HG:=hide (zgm (fun i y hi hy=>HNO.out i y (by have:=HL.out.2; omega) hy));obtain ⟨⟨q0,q1,q2,q3⟩,f0,f1,f2,f3⟩:=zak (ze kr hb);have HB6:=hide (zd b2 hb);clear hno hb kr hke;go_wp2;refine bodyPost_ret (v:=.agg #[.int .i64 128,.int .i64 0,.string ⟨#[]⟩,.slice none 0 0]) (by simp [results,Tryz.results22,go_sem, *]) rfl ⟨none,0,(by rw [HG.out]),World.ownsRow_nil _ _ _ _,zaj HB6.out HW1.out _ _ _ _⟩

theorem zdw (a:Option Addr) (n c:Nat) (fa:Option Addr) (fn fc:Nat) (ra:Option Addr) (rn rc:Nat) (oa:Option Addr) (on oc:Nat) (B:BR) (ia:Option Addr) (il ic:Nat) (o:List Int) (w:World) (h:BrRow w a n c fa fn fc ra rn rc oa on oc B) (hi:IRow w ia il ic o) (hil:il≤16777216) :
  Calls Tryz.prog 30 #[.agg #[.int .i64 B.id,.string B.name,.slice a n c,.slice fa fn fc,.slice ra rn rc,.slice oa on oc,.int .i64 B.ticks,.int .i64 B.parse,.int .i64 B.word,.int .i64 B.drops,.int .i64 B.vers],.slice ia il ic] w fun e w'=>∃y:BI,e=.returned (.agg #[.slice y.oa y.on y.oc,.int .i64 y.K,.int .i64 y.N,.string y.S,.slice y.za y.zn y.zc])∧y.d=zb6 (zF B) o∧BOwn w' w.heap.size y∧Below w.heap.size w w':=by
 generalize hw1:w.alloc (Obj.cells #[.int .i64 B.id,.string B.name,.slice a n c,.slice fa fn fc,.slice ra rn rc,.slice oa on oc,.int .i64 B.ticks,.int .i64 B.parse,.int .i64 B.word,.int .i64 B.drops,.int .i64 B.vers] 31)=w1;have b1:=zb hw1;have k1:=zk hw1;generalize hwr:w1.alloc (Obj.cells #[.slice none 0 0,.int .i64 0,.int .i64 0,.string ⟨#[]⟩,.slice none 0 0] 37)=w1r;have b1r:=zb hwr;have kr0:=zk hwr;have b0r:=zd b1 b1r;have HW1:=hide b1.size;obtain ⟨x0,x1,x2,x3,x4,x5,x6,x7,x8,x9,x10⟩:=zi (ze k1 b1r);go_enter Tryz.func30,Tryz.ntmps30;go_wp2_with fail
 refine (zaY a n c fa fn fc ra rn rc oa on oc B _ (h.below b0r)).mono ?_;rintro e w2 ⟨la,lc,l,rfl,hd,ol,h2⟩;have b2:=zd b0r h2;have kr:=ze kr0 h2;have HBW:=hide b0r.size;clear x0 x1 x2 x3 x4 x5 x6 x7 x8 x9 x10 h k1 hw1 hwr h2 kr0 b1 b1r b0r;have HL:Hid (l.length≤100∧(zF B).length=l.length):=hide (by have h1:=congrArg List.length hd; rw [List.length_map] at h1; rw [h1]; exact ⟨zb7 B,rfl⟩);have HAT:Hid (∀(i:Nat) x,l[i]?=some x→(zF B)[i]?=some x.d):=hide (fun i x hx=>by rw [← hd,List.getElem?_map,hx]; rfl);have HLIT:Hid (∀x∈l,LitB x.d):=hide (fun x hx=>zci hd hx);have hi2:=hi.below b2;clear hd;go_wp2_with fail
 go_loopw [6] (fun vk wr=>∃(k:Nat),vk=.int .i64 (k:Int)∧k≤l.length∧(∀(i:Nat) y,i < k→(zF B)[i]?=some y→lessL o y.o=false)∧Below w2.heap.size w2 wr) (fun vk _=>102 - (intOf vk).toNat)
 case atStart=>exact ⟨0,rfl,Nat.zero_le _,(by intro i y hi; omega),Below.refl _ _⟩
 case round =>
  obtain ⟨k,rfl,hk,hno,hb⟩:=hrel;have hl100:=HL.out.1;have HNO:=hide hno;by_cases hkl:k < l.length
  ·have hkl':(k:Int) < (l.length:Int):=by omega
   have hk100:(k:Int)≤100:=by omega
   have hlc:=ol.brow.le;obtain ⟨x,xb,off,hx,hla,hat,hin⟩:=(ol.brow.below hb).at k hkl;subst hla;have HX:=hide (HAT.out k x hx);have HM:=hide (List.mem_of_getElem? hx);have HBS:=hide hb;have HATK:=hide hat;obtain ⟨a0,a1,a2,a3,a4⟩:=hat;have hnm:=hin.o;clear hx hno hb hin;(go_wp2_with fail);refine (zfw ia il ic o _ _ _ x.o _ (hi2.below HBS.out) hnm).mono ?_;rintro e w5 ⟨rfl,nd,rfl⟩;have h5:Below wr.heap.size wr (wr.drewN nd):=zV (Below.refl _ _) nd;have HB5:=hide (zd HBS.out h5);have hat5:=HATK.out.below h5;generalize wr.drewN nd=w5 at *;clear a0 a1 a2 a3 a4 h5 hnm HATK;cases hq:lessL o x.o
   ·have HNO2:=hide (zcl (p:=fun d:BD=>lessL o d.o) HNO.out HX.out hq);clear hq hat5;go_wp2
    go_roundw
    case rel=>exact ⟨k+1,by go_num,by omega,HNO2.out,HB5.out⟩
    case measure=>simp [intOf]; omega
   ·have HG:=hide (zd1 HNO.out HX.out hq);clear hq;have HOX:=hide ((ol.below HB5.out).item x HM.out);obtain ⟨a0,a1,a2,a3,a4⟩:=hat5;have kr5:=ze kr HB5.out;have HKR:=hide kr5;obtain ⟨⟨q0,q1,q2,q3,q4⟩,f0,f1,f2,f3,f4⟩:=zo kr5;have HB6:=hide (zd b2 HB5.out);clear kr kr5;go_wp2;refine bodyPost_ret (v:=.agg #[.slice x.oa x.on x.oc,.int .i64 x.K,.int .i64 x.N,.string x.S,.slice x.za x.zn x.zc]) (by simp [results,Tryz.results30,go_sem, *]) rfl ?_;have gs:=zb1 w5 w1.heap.size (.slice x.oa x.on x.oc) (.int .i64 x.K) (.int .i64 x.N) (.string x.S) (.slice x.za x.zn x.zc);exact ⟨x,rfl,HG.out.symm,zdx (HOX.out.lt HBW.out) HKR.out gs,HB6.out.grown gs HB6.out.size (fun b hb2=>by cases hb2; exact HW1.out)⟩
  ·have hkl':¬(k:Int) < (l.length:Int):=by omega
   have hke:k=l.length:=by omega
   have HG:=hide (zd2 (fun i y hi hy=>HNO.out i y (by have:=HL.out.2; omega) hy));have HIB:=hide hi.byte;generalize hwe:wr.alloc (Obj.cells #[] 3)=we;have be:=zb hwe;have ke:=zk hwe;have own:=zaK intF wr we 3 wr.heap.size ke (Nat.le_refl _);have hi3:=((hi2.below hb).below be).flat;have hbe:=be.size;have HBB:=hide hb;have HBE:=hide be;have HSZ:=hide b2.size;clear hke hno be ke hb;go_wp2_with (at_builtin; refine zx (F:=intF) _ rfl _ _ 27 3 rfl wr.heap.size Tryz.underlying27 Tryz.infoI64 rfl (by decide) _ 0 [] rfl own ia il ic o rfl hi3 (by omega) hbe ?_)
   intro na nc w6 how _ _ h6;have how:w6.ownsRow wr.heap.size 3 1 (.slice na il nc) il (intF.all o):=by
    (try simp only [Nat.zero_add,List.nil_append] at how);exact how
   have HO:=hide how;have hb6:=zd HBB.out (HBE.out.trans h6);have kr6:=ze kr hb6;obtain ⟨⟨q0,q1,q2,q3,q4⟩,f0,f1,f2,f3,f4⟩:=zo kr6;have HKR:=hide kr6;have HB6:=hide (zd b2 hb6);clear h6 hb6 kr kr6 how own hi3 hbe hwe;go_wp2;refine bodyPost_ret (v:=.agg #[.slice na il nc,.int .i64 130,.int .i64 0,.string ⟨#[]⟩,.slice none 0 0]) (by simp [results,Tryz.results30,go_sem, *]) rfl ?_;have gs:=zb1 w6 w1.heap.size (.slice na il nc) (.int .i64 130) (.int .i64 0) (.string ⟨#[]⟩) (.slice none 0 0);have ho2:BOwn w6 w.heap.size ⟨na,il,nc,o,130,0,⟨#[]⟩,none,0,0,[]⟩:=⟨zaU (by rw [← zG]; exact HO.out) (Nat.le_trans HSZ.out HBB.out.size),World.ownsRow_nil _ _ _ _,HIB.out,(by intro z hz; cases hz),by show 0≤maxLen; omega⟩;exact ⟨⟨na,il,nc,o,130,0,⟨#[]⟩,none,0,0,[]⟩,rfl,HG.out.symm,zdx ho2 HKR.out gs,HB6.out.grown gs HB6.out.size (fun b hb2=>by cases hb2; exact HW1.out)⟩

end Go.Proofs.YtljbdmlgfggadaaGreat
