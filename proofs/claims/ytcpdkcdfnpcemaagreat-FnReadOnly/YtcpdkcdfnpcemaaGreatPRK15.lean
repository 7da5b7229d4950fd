/-
  Packed: BrNewS BrBuild FdbLearnS FdbSetS VlanTab VlanCopy VlanDel.
-/
import Derived.Test.YtcpdkcdfnpcemaaGreatPRBrOkS
import Derived.Test.YtcpdkcdfnpcemaaGreatPRFdbPutT
import Derived.Test.YtcpdkcdfnpcemaaGreatPRVlanOk
import Derived.Laws.CopyRow
namespace Go.Proofs.YtcpdkcdfnpcemaaGreat
set_option maxRecDepth 100000
set_option maxHeartbeats 16000000
open Go.RowKit

def newPt:PT:=⟨false,1,false,⟨0,0,0,0,0⟩⟩
def zeroBr:BR:=⟨0,ByteArray.empty,[],[],⟨[],[]⟩,0,0,0,0,0⟩
def zaP (id:Int) (m:Nat):BR:=⟨id,ByteArray.empty,List.replicate m newPt,[],zbQ m,0,0,0,0,0⟩

theorem BrOwn.boxed11 {w:World} {base:Nat} {a:Option Addr} {n c:Nat} {fa:Option Addr} {fn fc:Nat} {ra:Option Addr} {rn rc:Nat} {oa:Option Addr} {on oc:Nat} {B:BR} (h:BrOwn w base a n c fa fn fc ra rn rc oa on oc B) {X:Nat} {cs:Array Value} (hX:w.heap[X]? = some (.cells cs 31)) (u0 u1 u2 u3 u4 u5 u6 u7 u8 u9 u10:Value):BrOwn (((((((((((w.setCell ⟨X,0,none⟩ u0).setCell ⟨X,1,none⟩ u1).setCell ⟨X,2,none⟩ u2).setCell ⟨X,3,none⟩ u3).setCell ⟨X,4,none⟩ u4).setCell ⟨X,5,none⟩ u5).setCell ⟨X,6,none⟩ u6).setCell ⟨X,7,none⟩ u7).setCell ⟨X,8,none⟩ u8).setCell ⟨X,9,none⟩ u9).setCell ⟨X,10,none⟩ u10) base a n c fa fn fc ra rn rc oa on oc B :=
 (BrOwn.boxed (BrOwn.boxed (BrOwn.boxed (BrOwn.boxed (BrOwn.boxed (BrOwn.boxed (BrOwn.boxed (BrOwn.boxed (BrOwn.boxed (BrOwn.boxed (BrOwn.boxed h hX 0 u0) (box11 hX 0 u0) 1 u1) (box11 (box11 hX 0 u0) 1 u1) 2 u2) (box11 (box11 (box11 hX 0 u0) 1 u1) 2 u2) 3 u3) (box11 (box11 (box11 (box11 hX 0 u0) 1 u1) 2 u2) 3 u3) 4 u4) (box11 (box11 (box11 (box11 (box11 hX 0 u0) 1 u1) 2 u2) 3 u3) 4 u4) 5 u5) (box11 (box11 (box11 (box11 (box11 (box11 hX 0 u0) 1 u1) 2 u2) 3 u3) 4 u4) 5 u5) 6 u6) (box11 (box11 (box11 (box11 (box11 (box11 (box11 hX 0 u0) 1 u1) 2 u2) 3 u3) 4 u4) 5 u5) 6 u6) 7 u7) (box11 (box11 (box11 (box11 (box11 (box11 (box11 (box11 hX 0 u0) 1 u1) 2 u2) 3 u3) 4 u4) 5 u5) 6 u6) 7 u7) 8 u8) (box11 (box11 (box11 (box11 (box11 (box11 (box11 (box11 (box11 hX 0 u0) 1 u1) 2 u2) 3 u3) 4 u4) 5 u5) 6 u6) 7 u7) 8 u8) 9 u9) (box11 (box11 (box11 (box11 (box11 (box11 (box11 (box11 (box11 (box11 hX 0 u0) 1 u1) 2 u2) 3 u3) 4 u4) 5 u5) 6 u6) 7 u7) 8 u8) 9 u9) 10 u10)

theorem za3 {K:Nat} {a w:World} (h:Below K a w) {g:Nat} (hB:K≤g) (u0 u1 u2 u3 u4 u5 u6 u7 u8 u9 u10:Value):Below K a (((((((((((w.setCell ⟨g,0,none⟩ u0).setCell ⟨g,1,none⟩ u1).setCell ⟨g,2,none⟩ u2).setCell ⟨g,3,none⟩ u3).setCell ⟨g,4,none⟩ u4).setCell ⟨g,5,none⟩ u5).setCell ⟨g,6,none⟩ u6).setCell ⟨g,7,none⟩ u7).setCell ⟨g,8,none⟩ u8).setCell ⟨g,9,none⟩ u9).setCell ⟨g,10,none⟩ u10) :=
 (zg (zg (zg (zg (zg (zg (zg (zg (zg (zg (zg h hB 0 u0) hB 1 u1) hB 2 u2) hB 3 u3) hB 4 u4) hB 5 u5) hB 6 u6) hB 7 u7) hB 8 u8) hB 9 u9) hB 10 u10)

theorem zcV (id:Int) (m:Nat) (w:World) (hid:(decide (1≤id) && decide (id≤99))=true) (hm:(decide (1≤(m:Int)) && decide ((m:Int)≤6))=true) :
  Calls Tryz.prog 105 #[.int .i64 id,.int .i64 m] w fun e w'=>∃(a:Option Addr) (c:Nat) (ra:Option Addr) (rn rc:Nat) (oa:Option Addr) (on oc:Nat),e=.returned (.agg #[.int .i64 id,.string ⟨#[]⟩,.slice a m c,.slice none 0 0,.slice ra rn rc,.slice oa on oc,.int .i64 0,.int .i64 0,.int .i64 0,.int .i64 0,.int .i64 0])∧BrOwn w' w.heap.size a m c none 0 0 ra rn rc oa on oc (zaP id m)∧Below w.heap.size w w':=by
 have h6:m≤6:=by simp at hm; omega
 have HID:=hide hid;have HM:=hide hm;clear hid hm;generalize hw1:w.alloc (Obj.cells #[.int .i64 0,.string ⟨#[]⟩,.slice none 0 0,.slice none 0 0,.slice none 0 0,.slice none 0 0,.int .i64 0,.int .i64 0,.int .i64 0,.int .i64 0,.int .i64 0] 31)=w1;have b1:=zb hw1;have kJ:=zk hw1;go_enter Tryz.func105,Tryz.ntmps105;go_wp2_with fail
 refine (zi id 1 99 _).mono ?_;rintro r wx ⟨rfl,ew⟩;obtain rfl:=ew.symm;rw [HID.out];go_wp2_with fail
 refine (zi (m:Int) 1 6 _).mono ?_;rintro r wx ⟨rfl,ew⟩;obtain rfl:=ew.symm;rw [HM.out];go_wp2_with fail
 refine (zcb (m:Int) _).mono ?_;rintro r w2 ⟨ra,rn,rc,oa,on,oc,rfl,hv,hb2⟩;have hv:=hv.lt (base':=w.heap.size) b1.size;have b2:=zd b1 hb2;have kJ:=ze kJ hb2;clear hw1 hb2 b1;go_upto_region 4 with fail
 generalize hw3:w2.alloc (Obj.cells #[.int .i64 id,.string ⟨#[]⟩,.slice none 0 0,.slice none 0 0,.slice ra rn rc,.slice oa on oc,.int .i64 0,.int .i64 0,.int .i64 0,.int .i64 0,.int .i64 0] 31)=w3;have b3:=zb hw3;have kX:=zk hw3;have kJ:=ze kJ b3;have o3:BrOwn w3 w.heap.size none 0 0 none 0 0 ra rn rc oa on oc { zaP id m with ports:=List.replicate 0 newPt }:=⟨World.ownsRow_nil _ _ _ _,World.ownsRow_nil _ _ _ _,hv.below b3⟩;have HX:Hid (w.heap.size < w2.heap.size):=hide (Array.getElem?_eq_some_iff.1 (show w2.heap[w.heap.size]? = some (.cells #[.int .i64 0,.string ⟨#[]⟩,.slice none 0 0,.slice none 0 0,.slice none 0 0,.slice none 0 0,.int .i64 0,.int .i64 0,.int .i64 0,.int .i64 0,.int .i64 0] 31) from by assumption)).1;have b3:=zd b2 b3;clear hw3 b2 hv;go_wp2_with fail
 go_loopw [6] (fun i wr=>∃(k:Nat) (a:Option Addr) (c:Nat),k≤m∧i=.int .i64 k∧wr.heap[w.heap.size]? = some (.cells #[.int .i64 0,.string ⟨#[]⟩,.slice none 0 0,.slice none 0 0,.slice none 0 0,.slice none 0 0,.int .i64 0,.int .i64 0,.int .i64 0,.int .i64 0,.int .i64 0] 31)∧wr.heap[w2.heap.size]? = some (.cells #[.int .i64 id,.string ⟨#[]⟩,.slice a k c,.slice none 0 0,.slice ra rn rc,.slice oa on oc,.int .i64 0,.int .i64 0,.int .i64 0,.int .i64 0,.int .i64 0] 31)∧BrOwn wr w.heap.size a k c none 0 0 ra rn rc oa on oc { zaP id m with ports:=List.replicate k newPt }∧Below w.heap.size w wr) (fun i _=>m - (intOf i).toNat)
 case atStart=>exact ⟨0,none,0,Nat.zero_le _,rfl,kJ,kX,o3,b3⟩
 case round =>
  obtain ⟨k,a,c,hk,rfl,kJ,kX,o,hb⟩:=hrel;clear o3 b3;obtain ⟨x0,x1,x2,x3,x4,x5,x6,x7,x8,x9,x10⟩:=zj kX;by_cases hlt:k < m
  ·have b9:=zh wr (.cells #[.bool false,.int .i64 1,.bool false,.int .i64 0,.int .i64 0,.int .i64 0,.int .i64 0,.int .i64 0] 113);have o9:=o.below b9;have p9:=o9.ports;have kX9:=ze kX b9;have kR9:=ze kJ b9;have HB9:=hide (zd hb b9);have hbase9:w.heap.size≤(wr.alloc (.cells #[.bool false,.int .i64 1,.bool false,.int .i64 0,.int .i64 0,.int .i64 0,.int .i64 0,.int .i64 0] 113)).heap.size:=HB9.out.size;have HO9:=hide o9;have KX9:=hide kX9;have KR9:=hide kR9;clear hb b9 o9 kX9 kR9 o kX kJ;go_wp2_with (at_builtin; refine zcg _ rfl _ _ rfl w.heap.size _ k (List.replicate k newPt) rfl p9 _ 1 1 [newPt] rfl (zaz ptF _ newPt _ _ rfl) (by omega) hbase9 ?_)
   rintro a' c' wz oz - gz bz;have kz:=zA KX9.out gz (fun i e=>zaf HO9.out.ports KX9.out (by decide) i e);have rz:=zA KR9.out gz (fun i e=>zaf HO9.out.ports KR9.out (by decide) i e);have hrep:List.replicate k newPt++[newPt]=List.replicate (k+1) newPt:=by rw [List.replicate_succ']
   rw [hrep] at oz;have on:=HO9.out.newPorts gz oz;have HON:=hide (BrOwn.boxed on kz 2 (.slice a' (k+1) c'));have HKX:=hide (box11 kz 2 (.slice a' (k+1) c'));have HKR:Hid ((wz.setCell ⟨w2.heap.size,2,none⟩ (.slice a' (k+1) c')).heap[w.heap.size]? = some (.cells #[.int .i64 0,.string ⟨#[]⟩,.slice none 0 0,.slice none 0 0,.slice none 0 0,.slice none 0 0,.int .i64 0,.int .i64 0,.int .i64 0,.int .i64 0,.int .i64 0] 31)):=hide (zx rz (Nat.ne_of_lt HX.out));have HBZ:=hide (zg (g:=w2.heap.size) (HB9.out.trans bz) (Nat.le_of_lt HX.out) 2 (.slice a' (k+1) c'));have fz:=zm kz 2;obtain ⟨-,-,y2,-⟩:=zj kz;clear x0 x1 x2 x3 x4 x5 x6 x7 x8 x9 x10 kz rz gz bz oz on p9 hbase9;go_wp2
   go_roundw
   case rel=>exact ⟨k+1,a',c',by omega,by go_num,HKR.out,HKX.out,HON.out,HBZ.out⟩
   case measure=>simp [intOf]; omega
  ·have hkm:k=m:=by omega
   subst hkm;obtain ⟨z0,z1,z2,z3,z4,z5,z6,z7,z8,z9,z10⟩:=zj kJ;have f0:=zm kJ;have ne1:¬w2.heap.size=w.heap.size:=by have:=HX.out; omega
   have ne2:¬w.heap.size=w2.heap.size:=by have:=HX.out; omega
   have HO:=hide (o.boxed11 kJ (.int .i64 id) (.string ⟨#[]⟩) (.slice a k c) (.slice none 0 0) (.slice ra rn rc) (.slice oa on oc) (.int .i64 0) (.int .i64 0) (.int .i64 0) (.int .i64 0) (.int .i64 0));have HB:=hide (za3 hb (Nat.le_refl w.heap.size) (.int .i64 id) (.string ⟨#[]⟩) (.slice a k c) (.slice none 0 0) (.slice ra rn rc) (.slice oa on oc) (.int .i64 0) (.int .i64 0) (.int .i64 0) (.int .i64 0) (.int .i64 0));clear o hb kX kJ;go_wp2;exact bodyPost_ret (v:=.agg #[.int .i64 id,.string ⟨#[]⟩,.slice a k c,.slice none 0 0,.slice ra rn rc,.slice oa on oc,.int .i64 0,.int .i64 0,.int .i64 0,.int .i64 0,.int .i64 0]) (by simp [results,Tryz.results105,go_sem, *]) rfl ⟨a,c,ra,rn,rc,oa,on,oc,rfl,HO.out,HB.out⟩

structure BcSt (w wr:World) (R X:Nat) (cs:Array Value):Prop where
 box:wr.heap[X]? = some (.cells cs 31)
 res:wr.heap[R]? = some (.cells #[.int .i64 0,.string ⟨#[]⟩,.slice none 0 0,.slice none 0 0,.slice none 0 0,.slice none 0 0,.int .i64 0,.int .i64 0,.int .i64 0,.int .i64 0,.int .i64 0] 31)
 below:Below w.heap.size w wr
 hX:w.heap.size≤X
 hR:w.heap.size≤R
 ne:R≠X

theorem BcSt.later {w wr wx:World} {R X:Nat} {cs:Array Value} (h:BcSt w wr R X cs) (hb:Below wr.heap.size wr wx):BcSt w wx R X cs :=
 ⟨ze h.box hb,ze h.res hb,zd h.below hb,h.hX,h.hR,h.ne⟩

theorem BcSt.put {w wr:World} {R X:Nat} {cs:Array Value} (h:BcSt w wr R X cs) (j:Nat) (u:Value) {cs':Array Value} (he:cs.setIfInBounds j u=cs'):BcSt w (wr.setCell ⟨X,j,none⟩ u) R X cs' :=
 ⟨by rw [← he]; exact box11 h.box j u,zx h.res h.ne,zg h.below h.hX j u,h.hX,h.hR,h.ne⟩

theorem BcSt.grown {w wr wx:World} {R X:Nat} {cs:Array Value} (h:BcSt w wr R X cs) {base k:Nat} {e:TypeId} {v:Value} {n:Nat} {xs:List Value} (ho:wr.ownsRow base e k v n xs) (hne:(e:Nat)≠31) (hg:wr.grownBy wx v.ownBlock) (hb:Below w.heap.size wr wx):BcSt w wx R X cs :=
 ⟨zA h.box hg (fun i e=>zaf ho h.box hne i e),zA h.res hg (fun i e=>zaf ho h.res hne i e),h.below.trans hb,h.hX,h.hR,h.ne⟩

theorem BcSt.stay {w wr:World} {R X:Nat} {cs:Array Value} (h:BcSt w wr R X cs) {base k:Nat} {e:TypeId} {v:Value} {n:Nat} {xs:List Value} (ho:wr.ownsRow base e k v n xs) (hne:(e:Nat)≠31) (j:Nat) (u:Value):(wr.setCell ⟨X,j,none⟩ u).ownsRow base e k v n xs :=
 zC ho (zl (rb:=X) j u) (zaf ho h.box hne)

theorem BcSt.out {w wr:World} {R X:Nat} {cs:Array Value} (h:BcSt w wr R X cs) {base:Nat} {a:Option Addr} {n c:Nat} {fa:Option Addr} {fn fc:Nat} {ra:Option Addr} {rn rc:Nat} {oa:Option Addr} {on oc:Nat} {B:BR} (ho:BrOwn wr base a n c fa fn fc ra rn rc oa on oc B) (u0 u1 u2 u3 u4 u5 u6 u7 u8 u9 u10:Value):BrOwn (((((((((((wr.setCell ⟨R,0,none⟩ u0).setCell ⟨R,1,none⟩ u1).setCell ⟨R,2,none⟩ u2).setCell ⟨R,3,none⟩ u3).setCell ⟨R,4,none⟩ u4).setCell ⟨R,5,none⟩ u5).setCell ⟨R,6,none⟩ u6).setCell ⟨R,7,none⟩ u7).setCell ⟨R,8,none⟩ u8).setCell ⟨R,9,none⟩ u9).setCell ⟨R,10,none⟩ u10) base a n c fa fn fc ra rn rc oa on oc B∧Below w.heap.size w (((((((((((wr.setCell ⟨R,0,none⟩ u0).setCell ⟨R,1,none⟩ u1).setCell ⟨R,2,none⟩ u2).setCell ⟨R,3,none⟩ u3).setCell ⟨R,4,none⟩ u4).setCell ⟨R,5,none⟩ u5).setCell ⟨R,6,none⟩ u6).setCell ⟨R,7,none⟩ u7).setCell ⟨R,8,none⟩ u8).setCell ⟨R,9,none⟩ u9).setCell ⟨R,10,none⟩ u10) :=
 ⟨ho.boxed11 h.res u0 u1 u2 u3 u4 u5 u6 u7 u8 u9 u10,za3 h.below h.hR u0 u1 u2 u3 u4 u5 u6 u7 u8 u9 u10⟩

theorem zgU (l:List FE) (t m:Int):(∃(i:Nat) (x:FE),atF l t m=i∧i < l.length∧l[i]? = some x∧lookE l t m=some x)∨(atF l t m = -1∧lookE l t m=none):=by
 cases hf:l.findIdx? (fun e=>both e t m) with
 | none =>
  refine .inr ⟨by unfold atF; rw [hf], ?_⟩;rw [List.findIdx?_eq_none_iff] at hf;exact ze3.2 (fun e he hb=>by have:=hf e he; rw [zbl.2 hb] at this; cases this)
 | some i =>
  obtain ⟨hi,hp,hno⟩:=List.findIdx?_eq_some_iff_getElem.1 hf;refine .inl ⟨i,l[i],by unfold atF; rw [hf],hi,List.getElem?_eq_getElem hi, ?_⟩;unfold lookE;rw [List.find?_eq_some_iff_getElem];exact ⟨hp,i,hi,rfl,fun j hj=>by simpa using hno j hj⟩

theorem zeC (ao:Option Addr) (n cap:Nat) (l:List FE) (t m p:Int) (w:World) (h:GRow fentF w ao n cap l) (hn:n≤16777216) :
  Calls Tryz.prog 109 #[.slice ao n cap,.int .i64 t,.int .i64 m,.int .i64 p] w fun r w'=>∃ao' cap',r=.returned (.slice ao' (zbo l t m p).length cap')∧w'.ownsRow w.heap.size 116 5 (.slice ao' (zbo l t m p).length cap') (zbo l t m p).length (fentF.all (zbo l t m p))∧GRow fentF w' ao' (zbo l t m p).length cap' (zbo l t m p)∧Below w.heap.size w w':=by
 have q0:=zh w (.cells #[.int .i64 t,.int .i64 m,.int .i64 p,.int .i64 0,.bool false] 116);have k0:=zv w (.cells #[.int .i64 t,.int .i64 m,.int .i64 p,.int .i64 0,.bool false] 116);obtain rfl:=h.size;have hla:=zgU l t m;cases hc:zcH l t m p
 ·rw [show zbo l t m p=l by unfold zbo; rw [hc]; rfl];unfold zcH at hc;cases h1:fdbOk l
  ·have H1:=hide h1;clear hc h1;go_enter Tryz.func109,Tryz.ntmps109;(go_wp2_with fail);generalize w.alloc (.cells #[.int .i64 t,.int .i64 m,.int .i64 p,.int .i64 0,.bool false] 116)=wb at *;refine (zaT _ _ _ l t m _ (h.below q0)).mono ?_;rintro r w1 ⟨rfl,rfl⟩;(go_wp2_with fail);refine (zQ _ _ _ l _ (h.below q0)).mono ?_;rintro r wx ⟨rfl,hbx⟩;rw [H1.out];have bx:=zd q0 hbx;clear hbx;(go_wp2_with fail);refine (zaG _ _ _ l _ (h.below bx) hn).mono ?_;rintro r w9 ⟨ao9,cap9,rfl,ho9,hr9,hb9⟩;have HO:=hide (zW ho9 (base':=w.heap.size) bx.size);have HR:=hide hr9;have HB:=hide (zd bx hb9);clear ho9 hr9 hb9 bx;go_wp2;go_ret;exact ⟨_,_,rfl,HO.out,HR.out,HB.out⟩
  ·cases h2:entOk (⟨t,m,p,0,false⟩:FE)
   ·have H1:=hide h1;have H2:=hide h2;clear hc h1 h2;go_enter Tryz.func109,Tryz.ntmps109;(go_wp2_with fail);generalize w.alloc (.cells #[.int .i64 t,.int .i64 m,.int .i64 p,.int .i64 0,.bool false] 116)=wb at *;refine (zaT _ _ _ l t m _ (h.below q0)).mono ?_;rintro r w1 ⟨rfl,rfl⟩;(go_wp2_with fail);refine (zQ _ _ _ l _ (h.below q0)).mono ?_;rintro r wy ⟨rfl,hby⟩;rw [H1.out];obtain ⟨⟨x0,x1,x2,x3,x4⟩,-⟩:=zt (ze k0 hby);(go_wp2_with fail);refine (zar (⟨t,m,p,0,false⟩:FE) _).mono ?_;rintro r wx ⟨rfl,hbx⟩;rw [H2.out];have bx:=zd q0 (zd hby hbx);clear hby hbx x0 x1 x2 x3 x4;(go_wp2_with fail);refine (zaG _ _ _ l _ (h.below bx) hn).mono ?_;rintro r w9 ⟨ao9,cap9,rfl,ho9,hr9,hb9⟩;have HO:=hide (zW ho9 (base':=w.heap.size) bx.size);have HR:=hide hr9;have HB:=hide (zd bx hb9);clear ho9 hr9 hb9 bx;go_wp2;go_ret;exact ⟨_,_,rfl,HO.out,HR.out,HB.out⟩
   ·rw [h1,h2,Bool.true_and,Bool.true_and] at hc;have H1:=hide h1;have H2:=hide h2;clear h1 h2;rcases hla with ⟨i,x,hat,hi,hx,hlk⟩ | ⟨hat,hlk⟩
    ·rw [hlk] at hc;have hs:x.s=true:=by simpa using hc
     have HAT:=hide hat;have hat1:(i:Int)≥0:=by omega
     have hat2:¬(i:Int) < 0:=by omega
     clear hc hat;go_enter Tryz.func109,Tryz.ntmps109;(go_wp2_with fail);generalize w.alloc (.cells #[.int .i64 t,.int .i64 m,.int .i64 p,.int .i64 0,.bool false] 116)=wb at *;refine (zaT _ _ _ l t m _ (h.below q0)).mono ?_;rintro r w1 ⟨rfl,rfl⟩;rw [HAT.out];(go_wp2_with fail);refine (zQ _ _ _ l _ (h.below q0)).mono ?_;rintro r wy ⟨rfl,hby⟩;rw [H1.out];obtain ⟨⟨x0,x1,x2,x3,x4⟩,-⟩:=zt (ze k0 hby);(go_wp2_with fail);refine (zar (⟨t,m,p,0,false⟩:FE) _).mono ?_;rintro r wx ⟨rfl,hbx⟩;rw [H2.out];have bx:=zd q0 (zd hby hbx);obtain ⟨x',b,off,hx',rfl,-,-,-,-,c4⟩:=zbi (h.below bx) i hi;rw [hx] at hx';cases hx';rw [hs] at c4;clear hby hbx x0 x1 x2 x3 x4;(go_wp2_with fail);refine (zaG _ _ _ l _ (h.below bx) hn).mono ?_;rintro r w9 ⟨ao9,cap9,rfl,ho9,hr9,hb9⟩;have HO:=hide (zW ho9 (base':=w.heap.size) bx.size);have HR:=hide hr9;have HB:=hide (zd bx hb9);clear ho9 hr9 hb9 bx;go_wp2;go_ret;exact ⟨_,_,rfl,HO.out,HR.out,HB.out⟩
    ·rw [hlk] at hc;have hlen:¬l.length < 12:=by simpa using hc
     have HAT:=hide hat;clear hc hat;go_enter Tryz.func109,Tryz.ntmps109;(go_wp2_with fail);generalize w.alloc (.cells #[.int .i64 t,.int .i64 m,.int .i64 p,.int .i64 0,.bool false] 116)=wb at *;refine (zaT _ _ _ l t m _ (h.below q0)).mono ?_;rintro r w1 ⟨rfl,rfl⟩;rw [HAT.out];(go_wp2_with fail);refine (zQ _ _ _ l _ (h.below q0)).mono ?_;rintro r wy ⟨rfl,hby⟩;rw [H1.out];obtain ⟨⟨x0,x1,x2,x3,x4⟩,-⟩:=zt (ze k0 hby);(go_wp2_with fail);refine (zar (⟨t,m,p,0,false⟩:FE) _).mono ?_;rintro r wx ⟨rfl,hbx⟩;rw [H2.out];have bx:=zd q0 (zd hby hbx);have i5:(12:Int)≤(l.length:Int):=by omega
     clear hby hbx x0 x1 x2 x3 x4;(go_wp2_with fail);refine (zaG _ _ _ l _ (h.below bx) hn).mono ?_;rintro r w9 ⟨ao9,cap9,rfl,ho9,hr9,hb9⟩;have HO:=hide (zW ho9 (base':=w.heap.size) bx.size);have HR:=hide hr9;have HB:=hide (zd bx hb9);clear ho9 hr9 hb9 bx;go_wp2;go_ret;exact ⟨_,_,rfl,HO.out,HR.out,HB.out⟩
 ·rw [show zbo l t m p=putF8 (⟨t,m,p,0,false⟩:FE) l by unfold zbo; rw [hc]; rfl];unfold zcH at hc;simp only [Bool.and_eq_true] at hc;obtain ⟨h1,h2,h3⟩:=hc;have H1:=hide h1;have H2:=hide h2;clear h1 h2;rcases hla with ⟨i,x,hat,hi,hx,hlk⟩ | ⟨hat,hlk⟩
  ·rw [hlk] at h3;have hs:x.s=false:=by simpa using h3
   have HAT:=hide hat;have hat1:(i:Int)≥0:=by omega
   have hat2:¬(i:Int) < 0:=by omega
   clear h3 hat;go_enter Tryz.func109,Tryz.ntmps109;(go_wp2_with fail);generalize w.alloc (.cells #[.int .i64 t,.int .i64 m,.int .i64 p,.int .i64 0,.bool false] 116)=wb at *;refine (zaT _ _ _ l t m _ (h.below q0)).mono ?_;rintro r w1 ⟨rfl,rfl⟩;rw [HAT.out];(go_wp2_with fail);refine (zQ _ _ _ l _ (h.below q0)).mono ?_;rintro r wy ⟨rfl,hby⟩;rw [H1.out];obtain ⟨⟨x0,x1,x2,x3,x4⟩,-⟩:=zt (ze k0 hby);(go_wp2_with fail);refine (zar (⟨t,m,p,0,false⟩:FE) _).mono ?_;rintro r wx ⟨rfl,hbx⟩;rw [H2.out];have bx:=zd q0 (zd hby hbx);have kx:=ze k0 (zd hby hbx);obtain ⟨x',b,off,hx',rfl,-,-,-,-,c4⟩:=zbi (h.below bx) i hi;rw [hx] at hx';cases hx';rw [hs] at c4;clear hby hbx x0 x1 x2 x3 x4;obtain ⟨⟨x0,x1,x2,x3,x4⟩,-⟩:=zt kx;(go_wp2_with fail);refine (zbO _ _ _ l (⟨t,m,p,0,false⟩:FE) _ (h.below bx) hn).mono ?_;rintro r w9 ⟨ao9,cap9,rfl,ho9,hr9,hb9⟩;have HO:=hide (zW ho9 (base':=w.heap.size) bx.size);have HR:=hide hr9;have HB:=hide (zd bx hb9);clear ho9 hr9 hb9 bx x0 x1 x2 x3 x4;go_wp2;go_ret;exact ⟨_,_,rfl,HO.out,HR.out,HB.out⟩
  ·rw [hlk] at h3;have hlen:l.length < 12:=by simpa using h3
   have HAT:=hide hat;clear h3 hat;go_enter Tryz.func109,Tryz.ntmps109;(go_wp2_with fail);generalize w.alloc (.cells #[.int .i64 t,.int .i64 m,.int .i64 p,.int .i64 0,.bool false] 116)=wb at *;refine (zaT _ _ _ l t m _ (h.below q0)).mono ?_;rintro r w1 ⟨rfl,rfl⟩;rw [HAT.out];(go_wp2_with fail);refine (zQ _ _ _ l _ (h.below q0)).mono ?_;rintro r wy ⟨rfl,hby⟩;rw [H1.out];obtain ⟨⟨x0,x1,x2,x3,x4⟩,-⟩:=zt (ze k0 hby);(go_wp2_with fail);refine (zar (⟨t,m,p,0,false⟩:FE) _).mono ?_;rintro r wx ⟨rfl,hbx⟩;rw [H2.out];have bx:=zd q0 (zd hby hbx);have kx:=ze k0 (zd hby hbx);have i5:¬(12:Int)≤(l.length:Int):=by omega
   clear hby hbx x0 x1 x2 x3 x4;obtain ⟨⟨x0,x1,x2,x3,x4⟩,-⟩:=zt kx;(go_wp2_with fail);refine (zbO _ _ _ l (⟨t,m,p,0,false⟩:FE) _ (h.below bx) hn).mono ?_;rintro r w9 ⟨ao9,cap9,rfl,ho9,hr9,hb9⟩;have HO:=hide (zW ho9 (base':=w.heap.size) bx.size);have HR:=hide hr9;have HB:=hide (zd bx hb9);clear ho9 hr9 hb9 bx x0 x1 x2 x3 x4;go_wp2;go_ret;exact ⟨_,_,rfl,HO.out,HR.out,HB.out⟩

theorem zfQ (ao:Option Addr) (n cap:Nat) (l:List FE) (t m p:Int) (w:World) (h:GRow fentF w ao n cap l) (hn:n≤16777216) :
  Calls Tryz.prog 111 #[.slice ao n cap,.int .i64 t,.int .i64 m,.int .i64 p] w fun r w'=>∃ao' cap',r=.returned (.tuple #[.slice ao' (setF l t m p).length cap',.bool (zea l t m p)])∧w'.ownsRow w.heap.size 116 5 (.slice ao' (setF l t m p).length cap') (setF l t m p).length (fentF.all (setF l t m p))∧GRow fentF w' ao' (setF l t m p).length cap' (setF l t m p)∧Below w.heap.size w w':=by
 have q0:=zh w (.cells #[.int .i64 t,.int .i64 m,.int .i64 p,.int .i64 0,.bool true] 116);have k0:=zv w (.cells #[.int .i64 t,.int .i64 m,.int .i64 p,.int .i64 0,.bool true] 116);obtain rfl:=h.size;have hla:=zgU l t m;cases hc:zea l t m p
 ·rw [show setF l t m p=l by unfold setF; rw [hc]; rfl];unfold zea at hc;cases h1:fdbOk l
  ·have H1:=hide h1;clear hc h1;go_enter Tryz.func111,Tryz.ntmps111;(go_wp2_with fail);generalize w.alloc (.cells #[.int .i64 t,.int .i64 m,.int .i64 p,.int .i64 0,.bool true] 116)=wb at *;refine (zQ _ _ _ l _ (h.below q0)).mono ?_;rintro r wy ⟨rfl,hby⟩;rw [H1.out];have bx:=zd q0 hby;have kx:=ze k0 hby;clear hby;(go_wp2_with fail);refine (zaG _ _ _ l _ (h.below bx) hn).mono ?_;rintro r w9 ⟨ao9,cap9,rfl,ho9,hr9,hb9⟩;have HO:=hide (zW ho9 (base':=w.heap.size) bx.size);have HR:=hide hr9;have HB:=hide (zd bx hb9);clear ho9 hr9 hb9 bx;go_wp2;exact bodyPost_ret (v:=.tuple #[.slice ao9 l.length cap9,.bool false]) (by simp [results,Tryz.results111,go_sem, *]) rfl ⟨_,_,rfl,HO.out,HR.out,HB.out⟩
  ·cases h2:entOk (⟨t,m,p,0,true⟩:FE)
   ·have H1:=hide h1;have H2:=hide h2;clear hc h1 h2;go_enter Tryz.func111,Tryz.ntmps111;(go_wp2_with fail);generalize w.alloc (.cells #[.int .i64 t,.int .i64 m,.int .i64 p,.int .i64 0,.bool true] 116)=wb at *;refine (zQ _ _ _ l _ (h.below q0)).mono ?_;rintro r wy ⟨rfl,hby⟩;rw [H1.out];obtain ⟨⟨x0,x1,x2,x3,x4⟩,-⟩:=zt (ze k0 hby);(go_wp2_with fail);refine (zar (⟨t,m,p,0,true⟩:FE) _).mono ?_;rintro r wx ⟨rfl,hbx⟩;rw [H2.out];have bx:=zd q0 (zd hby hbx);have kx:=ze k0 (zd hby hbx);clear hby hbx x0 x1 x2 x3 x4;(go_wp2_with fail);refine (zaG _ _ _ l _ (h.below bx) hn).mono ?_;rintro r w9 ⟨ao9,cap9,rfl,ho9,hr9,hb9⟩;have HO:=hide (zW ho9 (base':=w.heap.size) bx.size);have HR:=hide hr9;have HB:=hide (zd bx hb9);clear ho9 hr9 hb9 bx;go_wp2;exact bodyPost_ret (v:=.tuple #[.slice ao9 l.length cap9,.bool false]) (by simp [results,Tryz.results111,go_sem, *]) rfl ⟨_,_,rfl,HO.out,HR.out,HB.out⟩
   ·rw [h1,h2,Bool.true_and,Bool.true_and] at hc;have H1:=hide h1;have H2:=hide h2;clear h1 h2;rcases hla with ⟨i,x,hat,hi,hx,hlk⟩ | ⟨hat,hlk⟩
    ·rw [hlk] at hc
     simp at hc
    ·rw [hlk] at hc;have hlen:¬l.length < 12:=by simpa using hc
     have i5:(12:Int)≤(l.length:Int):=by omega
     have HAT:=hide hat;clear hc hat;go_enter Tryz.func111,Tryz.ntmps111;(go_wp2_with fail);generalize w.alloc (.cells #[.int .i64 t,.int .i64 m,.int .i64 p,.int .i64 0,.bool true] 116)=wb at *;refine (zQ _ _ _ l _ (h.below q0)).mono ?_;rintro r wy ⟨rfl,hby⟩;rw [H1.out];obtain ⟨⟨x0,x1,x2,x3,x4⟩,-⟩:=zt (ze k0 hby);(go_wp2_with fail);refine (zar (⟨t,m,p,0,true⟩:FE) _).mono ?_;rintro r wx ⟨rfl,hbx⟩;rw [H2.out];have bx:=zd q0 (zd hby hbx);have kx:=ze k0 (zd hby hbx);clear hby hbx x0 x1 x2 x3 x4;(go_wp2_with fail);refine (zaT _ _ _ l t m _ (h.below bx)).mono ?_;rintro r w1 ⟨rfl,rfl⟩;rw [HAT.out];(go_wp2_with fail);refine (zaG _ _ _ l _ (h.below bx) hn).mono ?_;rintro r w9 ⟨ao9,cap9,rfl,ho9,hr9,hb9⟩;have HO:=hide (zW ho9 (base':=w.heap.size) bx.size);have HR:=hide hr9;have HB:=hide (zd bx hb9);clear ho9 hr9 hb9 bx;go_wp2;exact bodyPost_ret (v:=.tuple #[.slice ao9 l.length cap9,.bool false]) (by simp [results,Tryz.results111,go_sem, *]) rfl ⟨_,_,rfl,HO.out,HR.out,HB.out⟩
 ·rw [show setF l t m p=putF8 (⟨t,m,p,0,true⟩:FE) l by unfold setF; rw [hc]; rfl];unfold zea at hc;simp only [Bool.and_eq_true] at hc;obtain ⟨h1,h2,h3⟩:=hc;have H1:=hide h1;have H2:=hide h2;clear h1 h2;rcases hla with ⟨i,x,hat,hi,hx,hlk⟩ | ⟨hat,hlk⟩
  ·have HAT:=hide hat;have hat2:¬(i:Int) < 0:=by omega
   clear h3 hat;go_enter Tryz.func111,Tryz.ntmps111;(go_wp2_with fail);generalize w.alloc (.cells #[.int .i64 t,.int .i64 m,.int .i64 p,.int .i64 0,.bool true] 116)=wb at *;refine (zQ _ _ _ l _ (h.below q0)).mono ?_;rintro r wy ⟨rfl,hby⟩;rw [H1.out];obtain ⟨⟨x0,x1,x2,x3,x4⟩,-⟩:=zt (ze k0 hby);(go_wp2_with fail);refine (zar (⟨t,m,p,0,true⟩:FE) _).mono ?_;rintro r wx ⟨rfl,hbx⟩;rw [H2.out];have bx:=zd q0 (zd hby hbx);have kx:=ze k0 (zd hby hbx);clear hby hbx x0 x1 x2 x3 x4;(go_wp2_with fail);refine (zaT _ _ _ l t m _ (h.below bx)).mono ?_;rintro r w1 ⟨rfl,rfl⟩;rw [HAT.out];obtain ⟨⟨x0,x1,x2,x3,x4⟩,-⟩:=zt kx;(go_wp2_with fail);refine (zbO _ _ _ l (⟨t,m,p,0,true⟩:FE) _ (h.below bx) hn).mono ?_;rintro r w9 ⟨ao9,cap9,rfl,ho9,hr9,hb9⟩;have HO:=hide (zW ho9 (base':=w.heap.size) bx.size);have HR:=hide hr9;have HB:=hide (zd bx hb9);clear ho9 hr9 hb9 bx x0 x1 x2 x3 x4;go_wp2;exact bodyPost_ret (v:=.tuple #[.slice ao9 (putF8 (⟨t,m,p,0,true⟩:FE) l).length cap9,.bool true]) (by simp [results,Tryz.results111,go_sem, *]) rfl ⟨_,_,rfl,HO.out,HR.out,HB.out⟩
  ·rw [hlk] at h3;have hlen:l.length < 12:=by simpa using h3
   have i5:¬(12:Int)≤(l.length:Int):=by omega
   have HAT:=hide hat;clear h3 hat;go_enter Tryz.func111,Tryz.ntmps111;(go_wp2_with fail);generalize w.alloc (.cells #[.int .i64 t,.int .i64 m,.int .i64 p,.int .i64 0,.bool true] 116)=wb at *;refine (zQ _ _ _ l _ (h.below q0)).mono ?_;rintro r wy ⟨rfl,hby⟩;rw [H1.out];obtain ⟨⟨x0,x1,x2,x3,x4⟩,-⟩:=zt (ze k0 hby);(go_wp2_with fail);refine (zar (⟨t,m,p,0,true⟩:FE) _).mono ?_;rintro r wx ⟨rfl,hbx⟩;rw [H2.out];have bx:=zd q0 (zd hby hbx);have kx:=ze k0 (zd hby hbx);clear hby hbx x0 x1 x2 x3 x4;(go_wp2_with fail);refine (zaT _ _ _ l t m _ (h.below bx)).mono ?_;rintro r w1 ⟨rfl,rfl⟩;rw [HAT.out];obtain ⟨⟨x0,x1,x2,x3,x4⟩,-⟩:=zt kx;(go_wp2_with fail);refine (zbO _ _ _ l (⟨t,m,p,0,true⟩:FE) _ (h.below bx) hn).mono ?_;rintro r w9 ⟨ao9,cap9,rfl,ho9,hr9,hb9⟩;have HO:=hide (zW ho9 (base':=w.heap.size) bx.size);have HR:=hide hr9;have HB:=hide (zd bx hb9);clear ho9 hr9 hb9 bx x0 x1 x2 x3 x4;go_wp2;exact bodyPost_ret (v:=.tuple #[.slice ao9 (putF8 (⟨t,m,p,0,true⟩:FE) l).length cap9,.bool true]) (by simp [results,Tryz.results111,go_sem, *]) rfl ⟨_,_,rfl,HO.out,HR.out,HB.out⟩

theorem ziD {l:List VR} {id:Int} (h:zI l id=none):rowAt l id = -1:=by unfold rowAt; rw [h]
theorem zfe {l:List VR} {id:Int} {k:Nat} (h:zI l id=some k):rowAt l id=k:=by unfold rowAt; rw [h]

theorem zbP (a:Option Addr) (n c:Nat) (o:Option Addr) (p q:Nat) (v:VT) (ports:Int) (w:World) (h:VTab w a n c o p q v) (hR:∀r∈v.rows,r.Rng) :
  Calls Tryz.prog 67 #[.agg #[.slice a n c,.slice o p q],.int .i64 ports] w fun r w'=>r=.returned (.bool (zO v ports))∧Below w.heap.size w w':=by
 have hle:=h.rows.le;have htop:=h.rows.top;have hle2:=h.own.le;have htop2:=h.own.top;unfold maxLen at htop htop2;have hsz:=hide h.rows.size;have hsz2:=hide h.own.size;generalize hw1:w.alloc (Obj.cells #[Value.slice a n c,Value.slice o p q] 29)=w1;have hW:=zb hw1;obtain ⟨e0,e1⟩:=zP hw1 (Below.refl _ w1);have h:=h.below hW;generalize hV:zO v ports=V;have HV:=hide hV;clear hV;cases t1:(decide (1≤ports) && decide (ports≤6))
 ·have HN:=hide (zjd (v:=v) t1);have T1:=hide t1;clear t1;go_enter Tryz.func67,Tryz.ntmps67;go_wp2_with (refine (zaQ ports 1 6 _).mono ?_; rintro r w2 ⟨rfl,e2⟩; obtain rfl:=e2.symm; rw [T1.out])
  go_ret;exact ⟨zH (by rw [← HV.out,HN.out]),hW⟩
 have T1:=hide t1;simp only [Bool.and_eq_true,decide_eq_true_eq] at t1;by_cases t2:(p:Int)=ports
 case neg =>
  have HN:=hide (ziP (v:=v) (ports:=ports) (by rw [hsz2.out]; exact t2));go_enter Tryz.func67,Tryz.ntmps67;go_wp2_with (refine (zaQ ports 1 6 _).mono ?_; rintro r w2 ⟨rfl,e2⟩; obtain rfl:=e2.symm; rw [T1.out])
  go_ret;exact ⟨zH (by rw [← HV.out,HN.out]),hW⟩
 subst t2;by_cases t3:n≤6
 case neg =>
  have HN:=hide (zhX (v:=v) (ports:=p) (by rw [hsz.out]; exact t3));go_enter Tryz.func67,Tryz.ntmps67;go_wp2_with (refine (zaQ (p:Int) 1 6 _).mono ?_; rintro r w2 ⟨rfl,e2⟩; obtain rfl:=e2.symm; rw [T1.out])
  go_ret;exact ⟨zH (by rw [← HV.out,HN.out]),hW⟩
 cases t4:vrises v.rows
 ·have HN:=hide (zhY (v:=v) (ports:=p) t4);have T4:=hide t4;clear t4;go_enter Tryz.func67,Tryz.ntmps67;go_wp2_with (refine (zaQ (p:Int) 1 6 _).mono ?_; rintro r w2 ⟨rfl,e2⟩; obtain rfl:=e2.symm; rw [T1.out])
  refine (zaX a n c o p q _).mono ?_;rintro r w2 ⟨rfl,hb2⟩;(go_wp2_with fail);refine (zcd a n c v.rows _ (h.rows.below hb2)).mono ?_;rintro r w3 ⟨rfl,hb3⟩;rw [T4.out];have HB:=hide (zd hW (zd hb2 hb3));clear hb2 hb3;go_wp2;go_ret;exact ⟨zH (by rw [← HV.out,HN.out]),HB.out⟩
 have T4:=hide t4;clear t4;go_enter Tryz.func67,Tryz.ntmps67;go_wp2_with (refine (zaQ (p:Int) 1 6 _).mono ?_; rintro r w2 ⟨rfl,e2⟩; obtain rfl:=e2.symm; rw [T1.out])
 refine (zaX a n c o p q _).mono ?_;rintro r w2 ⟨rfl,hb2⟩;go_wp2_with fail
 refine (zcd a n c v.rows _ (h.rows.below hb2)).mono ?_;rintro r w3 ⟨rfl,hb3⟩;rw [T4.out];have b13:=zd hb2 hb3;obtain ⟨x0,x1⟩:=zP hw1 b13;clear hb2 hb3 e0 e1;go_wp2
 go_loopw [34] (fun i wr=>∃k:Nat,k≤n∧i=.int .i64 k∧zgb (allOf p) v.rows k∧Below w1.heap.size w1 wr) (fun i _=>n - (intOf i).toNat)
 case atStart=>exact ⟨0,Nat.zero_le _,rfl,fun i x hi=>by omega,b13⟩
 case round =>
  obtain ⟨k,hk,rfl,hok,hb⟩:=hrel;by_cases hlt:k < n
  ·obtain ⟨x,b,off,hx,rfl,c0,c1,c2⟩:=zaI (h.rows.below hb) k hlt;have hxr:x.Rng:=hR x (List.mem_of_getElem? hx);cases t5:zaY (allOf p) x
   ·have HN:=hide (ziQ (v:=v) (p:=p) hx t5);have T5:=hide t5;have HB:=hide hb;clear t5 hok hb hx x0 x1;(go_wp2_with fail);refine (zcw x p _ hxr (by omega) (by omega)).mono ?_;rintro r w5 ⟨rfl,hb5⟩;rw [T5.out];have HB1:=hide (zd hW (zd HB.out (zd (zh _ _) hb5)));clear hb5 c0 c1 c2;go_wp2;go_ret;exact ⟨zH (by rw [← HV.out,HN.out]),HB1.out⟩
   ·have HO:=hide (zfP hok hx t5);have T5:=hide t5;have HB:=hide hb;clear t5 hok hb hx x0 x1;(go_wp2_with fail);refine (zcw x p _ hxr (by omega) (by omega)).mono ?_;rintro r w5 ⟨rfl,hb5⟩;rw [T5.out];have HB1:=hide (zd HB.out (zd (zh _ _) hb5));clear hb5 c0 c1 c2;go_wp2
    go_roundw
    case rel=>exact ⟨k+1,by omega,by go_num,HO.out,HB1.out⟩
    case measure=>simp [intOf]; omega
  ·have HK:Hid (vokTo (allOf p) v.rows v.rows.length):=hide (ziN (fun i x hi hx=>hok i x (by have:=hsz.out; omega) hx) T4.out);obtain ⟨y0,y1⟩:=zP hw1 hb;have HB:=hide hb;have hkn:k=n:=by omega
   clear hok hb x0 x1;subst hkn;go_wp2
   go_loopw [46] (fun i wr=>∃k:Nat,k≤p∧i=.int .i64 k∧ownTo v k∧Below w1.heap.size w1 wr) (fun i _=>p - (intOf i).toNat)
   case atStart=>exact ⟨0,Nat.zero_le _,rfl,fun i x hi=>by omega,HB.out⟩
   case round =>
    obtain ⟨j,hj,rfl,hto,hb⟩:=hrel;by_cases hlt:j < p
    ·obtain ⟨x,b,off,hx,rfl,c0⟩:=zfD (h.own.below hb) j hlt;obtain ⟨z0,z1⟩:=zP hw1 hb;clear y0 y1;cases hr:zI v.rows x with
     | none =>
      have HN:=hide (zgh (p:=p) (List.mem_of_getElem? hx) hr);have HA:=hide (ziD hr);have HB3:=hide hb;clear hto hb hx hr;(go_wp2_with fail);refine (zaE a k c v.rows (some ⟨b,off,none⟩) p q x _ (h.rows.below HB3.out)).mono ?_;rintro r w5 ⟨rfl,hb5⟩;rw [HA.out];have HB1:=hide (zd hW (zd HB3.out hb5));clear hb5 c0 z0 z1;go_wp2;go_ret;exact ⟨zH (by rw [← HV.out,HN.out]),HB1.out⟩
     | some i =>
      have HO:=hide (zed hto hx (by rw [hr]; exact fun h=>by cases h));have HA:=hide (zfe hr);have HB3:=hide hb;have hneg:¬((i:Int) < 0):=by omega
      clear hto hb hx hr;(go_wp2_with fail);refine (zaE a k c v.rows (some ⟨b,off,none⟩) p q x _ (h.rows.below HB3.out)).mono ?_;rintro r w5 ⟨rfl,hb5⟩;rw [HA.out];have HB1:=hide (zd HB3.out hb5);clear hb5 c0 z0 z1;go_wp2
      go_roundw
      case rel=>exact ⟨j+1,by omega,by go_num,HO.out,HB1.out⟩
      case measure=>simp [intOf]; omega
    ·have HN:Hid (zO v p=true):=hide (zgi t1.1 t1.2 hsz2.out (by have:=hsz.out; omega) HK.out (ze6 hto (by have:=hsz2.out; omega)));have HB3:=hide (zd hW hb);have hjn:j=p:=by omega
     clear hto hb y0 y1;subst hjn;go_wp2;go_ret;exact ⟨zH (by rw [← HV.out,HN.out]),HB3.out⟩

theorem zgp (ao:Option Addr) (n cap:Nat) (l:List VR) (w:World) (h:GRow vrowF w ao n cap l) (hn:n≤16777216) :
  Calls Tryz.prog 197 #[.slice ao n cap] w fun r w'=>∃ao' cap',r=.returned (.slice ao' n cap')∧w'.ownsRow w.heap.size 119 3 (.slice ao' n cap') n (vrowF.all l)∧Below w.heap.size w w':=by
 cases ao with
 | none =>
  have hc0:=h.nil rfl;have hn0:n=0:=by have:=h.le; omega
  subst hc0 hn0;have hl:l=[]:=List.eq_nil_of_length_eq_zero h.size;subst hl;have heq:∀W,(binOp .eql 26 (.slice none 0 0) (.slice none 0 0)).run Tryz.prog W=.ok (.bool true) W:=fun _=>by kernel_rfl
  go_enter Tryz.func197,Tryz.ntmps197;go_wp2;go_ret;exact ⟨none,0,rfl,World.ownsRow_nil _ _ _ _,Below.refl _ _⟩
 | some a =>
  have heq:∀W,(binOp .eql 26 (.slice (some a) n cap) (.slice none 0 0)).run Tryz.prog W=.ok (.bool false) W:=fun _=>by kernel_rfl
  go_enter Tryz.func197,Tryz.ntmps197;go_wp2_with (at_builtin; refine zw (F:=vrowF) _ rfl _ _ 26 119 rfl w.heap.size Tryz.underlying26 zaN rfl (by decide) _ 0 [] rfl (zaL vrowF w _ 119 w.heap.size (zv w _) (Nat.le_refl _)) (some a) n cap l rfl (h.below (zh _ _)) (by omega) (by simp) ?_)
  intro ao' cap' w' how hr hgr hb;have how:w'.ownsRow w.heap.size 119 3 (.slice ao' n cap') n (vrowF.all l):=by
   (try simp only [Nat.zero_add,List.nil_append] at how);exact how
  have HO:=hide how;have HB:=hide ((zh w _).trans hb);clear how hgr hb hr;go_wp2;go_ret;exact ⟨ao',cap',(by simp),HO.out,HB.out⟩

theorem zgn (ao:Option Addr) (n cap:Nat) (l:List VR) (w:World) (h:GRow vrowF w ao n cap l) (hn:n≤16777216) :
  Calls Tryz.prog 295 #[.slice ao n cap] w fun r w'=>∃ao' cap',r=.returned (.slice ao' n cap')∧w'.ownsRow w.heap.size 119 3 (.slice ao' n cap') n (vrowF.all l)∧Below w.heap.size w w':=by
 cases ao with
 | none =>
  have hc0:=h.nil rfl;have hn0:n=0:=by have:=h.le; omega
  subst hc0 hn0;have hl:l=[]:=List.eq_nil_of_length_eq_zero h.size;subst hl;have heq:∀W,(binOp .eql 188 (.slice none 0 0) (.slice none 0 0)).run Tryz.prog W=.ok (.bool true) W:=fun _=>by kernel_rfl
  go_enter Tryz.func295,Tryz.ntmps295;go_wp2;go_ret;exact ⟨none,0,rfl,World.ownsRow_nil _ _ _ _,Below.refl _ _⟩
 | some a =>
  have heq:∀W,(binOp .eql 188 (.slice (some a) n cap) (.slice none 0 0)).run Tryz.prog W=.ok (.bool false) W:=fun _=>by kernel_rfl
  go_enter Tryz.func295,Tryz.ntmps295;go_wp2_with (at_builtin; refine zw (F:=vrowF) _ rfl _ _ 188 119 rfl w.heap.size Tryz.underlying188 zaN rfl (by decide) _ 0 [] rfl (zaL vrowF w _ 119 w.heap.size (zv w _) (Nat.le_refl _)) (some a) n cap l rfl (h.below (zh _ _)) (by omega) (by simp) ?_)
  intro ao' cap' w' how hr hgr hb;have how:w'.ownsRow w.heap.size 119 3 (.slice ao' n cap') n (vrowF.all l):=by
   (try simp only [Nat.zero_add,List.nil_append] at how);exact how
  have HO:=hide how;have HB:=hide ((zh w _).trans hb);clear how hgr hb hr;go_wp2;go_ret;exact ⟨ao',cap',(by simp),HO.out,HB.out⟩

theorem zd2 (a:Option Addr) (n c:Nat) (o:Option Addr) (p q:Nat) (v:VT) (w:World) (h:VTab w a n c o p q v) (hn:n≤16777216) (hp:p≤16777216) :
  Calls Tryz.prog 118 #[.agg #[.slice a n c,.slice o p q]] w fun r w'=>∃a' c' o' q',r=.returned (.agg #[.slice a' n c',.slice o' p q'])∧VOwn w' w.heap.size a' n c' o' p q' v∧Below w.heap.size w w':=by
 generalize hw1:w.alloc (Obj.cells #[Value.slice a n c,Value.slice o p q] 29)=w1;generalize hw2:w1.alloc (Obj.cells #[Value.slice none 0 0,Value.slice none 0 0] 29)=w2;have s1:w1.heap.size=w.heap.size+1:=by subst hw1; simp
 have s2:w2.heap.size=w.heap.size+1+1:=by subst hw2; simp [s1]
 have hk1:=zk hw2;have b01:=zb hw1;have vb:Below w1.heap.size w1 w2.drew:=by subst hw2; exact zr (zh _ _)
 have bw:Below w.heap.size w w2:=by subst hw2; exact zd b01 (zh _ _)
 have vv:Below w2.heap.size w2 w2.drew:=zr (Below.refl _ _);have HL:Hid (∀b,some w1.heap.size=some b→b < w2.heap.size):=hide (by intro b hb; cases hb; omega);clear s1 s2;go_enter Tryz.func118,Tryz.ntmps118;go_wp2_with fail
 refine wp_region_held_drew (S:=(fun W=>zcc W w.heap.size 0 (.slice a n c)∧zcc W w.heap.size 1 (.slice o p q))) (by kernel_rfl) (zP hw1 vb) (fun hHeld => ?_);refine kK 0 ?_;refine kK 1 ?_;refine kK 3 ?_;refine kK 4 ?_;refine kR 2 fun K hK => ?_
 go_simp;refine (zgp a n c v.rows _ (h.rows.below (zd bw vv)) hn).mono ?_;rintro e wx ⟨aR,cR,rfl,how,hbx⟩;have hR:=zW how (base':=w2.heap.size) vv.size
 try have hI:=zo hI hbx
 have vv:=zd vv hbx;have vb:=zd vb hbx;clear how hbx;go_wp2_with fail
 refine kO hK (zP hw1 vb) fun hHeld => ?_
 clear hK K;refine kR 5 fun K hK => ?_
 go_simp;refine (zgm o p q v.own _ ((h.own.below (zd bw vv)).flat) hp).mono ?_;rintro e wx ⟨aI,cI',rfl,how,hbx⟩;have hI:=zW how (base':=w2.heap.size) vv.size
 try have hR:=zo hR hbx
 have vv:=zd vv hbx;have vb:=zd vb hbx;clear how hbx;go_wp2_with fail
 refine kO hK (zP hw1 vb) fun hHeld => ?_
 clear hK K;refine kK 6 ?_;refine kR 7 fun K hK => ?_
 obtain ⟨⟨g0,g1⟩,f0,f1⟩:=zU (ze hk1 vv);go_simp;have hR:=zN (zN hR (zl (rb:=w1.heap.size) 0 (.slice aR n cR)) HL.out) (zl (rb:=w1.heap.size) 1 (.slice aI p cI')) HL.out;have hI:=zN (zN hI (zl (rb:=w1.heap.size) 0 (.slice aR n cR)) HL.out) (zl (rb:=w1.heap.size) 1 (.slice aI p cI')) HL.out;have vb:=zg (zg vb (Nat.le_refl _) 0 (.slice aR n cR)) (Nat.le_refl _) 1 (.slice aI p cI');refine kO hK (zP hw1 vb) fun hHeld => ?_
 clear hK K;refine wpAnyH_done (by kernel_rfl) ?_ _;have HR:=hide hR;have HI:=hide hI;clear hR hI;go_wp2;refine bodyPost_ret (v:=.agg #[.slice aR n cR,.slice aI p cI']) (by simp [results,Tryz.results118,go_sem, *]) rfl ⟨_,_,_,_,rfl,⟨zW HR.out bw.size,zW (by rw [← zF]; exact HI.out) bw.size,h.own.byte⟩,zd b01 vb⟩

theorem zg8 {w:World} {base k:Nat} {e:TypeId} {a:Option Addr} {n cap:Nat} {xs:List Value} (h:w.ownsRow base e k (.slice a n cap) n xs) {i:Nat} (hi:i≤n):w.ownsRow base e k (.slice a i cap) i (xs.take (i*k)):=by
 have hik:i*k≤n*k:=Nat.mul_le_mul_right _ hi;obtain ⟨hl,⟨hv,h0⟩ | ⟨g,cap',cur,hv,hg,hh,h1,h2,h3,h4⟩⟩:=h
 ·cases hv
  have:i=0:=by omega
  subst this;exact ⟨by simp,.inl ⟨rfl,rfl⟩⟩
 ·cases hv;refine ⟨by rw [List.length_take,hl]; omega,.inr ⟨g,cap,cur,rfl,hg,hh,by omega,h2,h3, ?_⟩⟩;rw [← h4,List.take_take,Nat.min_eq_left hik]

theorem zfr (l:List VR) (i:Nat):(vrowF.all l).take (i*3)=vrowF.all (l.take i):=by
 induction l generalizing i with
 | nil=>simp [Flat.all]
 | cons x l ih =>
  cases i with
  | zero=>simp [Flat.all]
  | succ i =>
   rw [vrowF.all_cons,List.take_succ_cons,vrowF.all_cons,← ih i];have h3:(vrowF.cs x).length=3:=rfl;rw [List.take_append,h3,show (i+1)*3 - 3=i*3 by omega,List.take_of_length_le (by rw [h3]; omega)]

def DelSt (l L:List VR) (id:Int) (i j:Nat):Prop:=L.length=l.length∧i < j∧j≤l.length∧L.take i=(l.take j).filter (fun r=>r.i != id)∧L.drop j=l.drop j

theorem zfz {l:List VR} {id:Int} {k:Nat} (h:zI l id=some k):DelSt l l id k (k+1):=by
 obtain ⟨hk,he,hno⟩:=List.findIdx?_eq_some_iff_getElem.1 h;refine ⟨rfl,by omega,by omega, ?_,rfl⟩;rw [List.take_add_one,List.filter_append,List.getElem?_eq_getElem hk];have h1:(l.take k).filter (fun r=>r.i != id)=l.take k:=by
  refine List.filter_eq_self.2 fun x hx => ?_
  obtain ⟨j,hj,rfl⟩:=List.getElem_of_mem hx;have hjk:j < k:=by simp at hj; omega
  have:=hno j hjk
  simpa using this
 rw [h1];simp only [Option.toList_some];have he:(l[k].i == id)=true:=he
 simp at he
 simp [he]

theorem zgs {l L:List VR} {id:Int} {i j:Nat} {x:VR} (h:DelSt l L id i j) (hx:l[j]? = some x) (hn:(x.i == id)=false):DelSt l (L.set i x) id (i+1) (j+1):=by
 obtain ⟨h1,h2,h3,h4,h5⟩:=h;have hj:=(List.getElem?_eq_some_iff.1 hx).1;refine ⟨by simpa using h1,by omega,by omega, ?_, ?_⟩
 ·rw [List.take_add_one (l:=l),hx,List.filter_append,← h4];have hi:i < L.length:=by omega
  rw [List.take_add_one,List.getElem?_set_self hi,List.take_set_of_le (Nat.le_refl i)]
  simp at hn
  simp [hn]
 ·rw [List.drop_set_of_lt (by omega),← List.drop_drop,← List.drop_drop,h5]

theorem zgr {l L:List VR} {id:Int} {i j:Nat} {x:VR} (h:DelSt l L id i j) (hx:l[j]? = some x) (hn:(x.i == id)=true):DelSt l L id i (j+1):=by
 obtain ⟨h1,h2,h3,h4,h5⟩:=h;have hj:=(List.getElem?_eq_some_iff.1 hx).1;refine ⟨h1,by omega,by omega, ?_, ?_⟩
 ·rw [List.take_add_one (l:=l),hx,List.filter_append,← h4]
  simp at hn
  simp [hn]
 ·rw [← List.drop_drop,← List.drop_drop,h5]

theorem zg4 {l L:List VR} {id:Int} {i j:Nat} (h:DelSt l L id i j) (hj:¬j < l.length):L.take i=l.filter (fun r=>r.i != id):=by
 obtain ⟨h1,h2,h3,h4,h5⟩:=h;rw [h4,List.take_of_length_le (by omega)]

theorem zh7 {l L:List VR} {id:Int} {i j:Nat} (h:DelSt l L id i j):L[j]? = l[j]? := by
 obtain ⟨h1,h2,h3,h4,h5⟩:=h
 have:=congrArg (fun z=>z[0]?) h5
 simpa using this

theorem zi8 {w:World} {base g n cap:Nat} {L:List VR} (h:w.ownsRow base 119 3 (.slice (some ⟨g,0,none⟩) n cap) n (vrowF.all L)) {i:Nat} (hi:i < n) (x:VR) :
  ((∃u,w.cell? ⟨g,i*3,none⟩=some u)∧(∃u,w.cell? ⟨g,i*3+1,none⟩=some u)∧(∃u,w.cell? ⟨g,i*3+2,none⟩=some u)) ∧
  (w.frozen? ⟨g,i*3,none⟩=false∧w.frozen? ⟨g,i*3+1,none⟩=false∧w.frozen? ⟨g,i*3+2,none⟩=false) ∧
  (((w.setCell ⟨g,i*3,none⟩ (.int .i64 x.i)).setCell ⟨g,i*3+1,none⟩ (.int .i64 x.m)).setCell ⟨g,i*3+2,none⟩ (.int .i64 x.b)).ownsRow base 119 3 (.slice (some ⟨g,0,none⟩) n cap) n (vrowF.all (L.set i x)):=by
 have hl:L.length=n:=(zE (F:=vrowF) h).size;have hy:L[i]? = some (L[i]'(by omega)):=List.getElem?_eq_getElem (by omega);generalize L[i]'(by omega)=y at hy;have f0:=zaB (F:=vrowF) h hy (j:=0) (v:=.int .i64 y.i) rfl;have f1:=zaB (F:=vrowF) h hy (j:=1) (v:=.int .i64 y.m) rfl;have f2:=zaB (F:=vrowF) h hy (j:=2) (v:=.int .i64 y.b) rfl;refine ⟨⟨⟨_,f0.1⟩,⟨_,f1.1⟩,⟨_,f2.1⟩⟩,⟨f0.2,f1.2,f2.2⟩, ?_⟩;have hL:L=L.take i++y::L.drop (i+1):=by
  obtain ⟨hi',rfl⟩:=List.getElem?_eq_some_iff.1 hy;rw [List.getElem_cons_drop,List.take_append_drop]
 have hp:(L.take i).length=i:=by rw [List.length_take]; omega
 have hS:L.set i x=L.take i++x::L.drop (i+1):=by rw [List.set_eq_take_append_cons_drop,if_pos (by omega)]
 rw [hS];rw [hL] at h;have g0:=zbX (F:=vrowF) (pre:=L.take i) (x:=y) (x':=⟨x.i,y.m,y.b⟩) h 0 (.int .i64 x.i) (by decide) rfl;have g1:=zbX (F:=vrowF) (pre:=L.take i) (x:=⟨x.i,y.m,y.b⟩) (x':=⟨x.i,x.m,y.b⟩) g0 1 (.int .i64 x.m) (by decide) rfl;have g2:=zbX (F:=vrowF) (pre:=L.take i) (x:=⟨x.i,x.m,y.b⟩) (x':=x) g1 2 (.int .i64 x.b) (by decide) rfl;rw [hp] at g2;exact g2

theorem zd5 {w:World} {base g n cap i:Nat} {L:List VR} (h:w.ownsRow base 119 3 (.slice (some ⟨g,0,none⟩) n cap) n (vrowF.all L)) (hi:i < n) (ty:TypeId) :
  ∃w',(∀c,(Builtin.clear_ #[188] ty #[.slice (some ⟨g,i*3,none⟩) (n - i) c]).run Tryz.prog w=.ok (.tuple #[]) w')∧w'.ownsRow base 119 3 (.slice (some ⟨g,0,none⟩) i cap) i (vrowF.all (L.take i))∧w.grownBy w' (some g):=by
 have hl:L.length=n:=(zE (F:=vrowF) h).size;have hsh:=zg8 h (Nat.le_of_lt hi);rw [zfr] at hsh;obtain ⟨hlen,⟨hv,h0⟩ | ⟨g',cap',cur,hv,hg,hh,h1,h2,h3,h4⟩⟩:=h
 ·omega
 ·cases hv;have hz:∀w,(zeroValue 119).run Tryz.prog w=.ok (.agg #[.int .i64 0,.int .i64 0,.int .i64 0]) w:=fun w=>by kernel_rfl
  let Z:=(Builtin.zeroCells #[Value.int .i64 0,Value.int .i64 0,Value.int .i64 0] (n - i)).toList
  have hZl:Z.length=(n - i)*3:=by simp [Z,size_zeroCells]
  have hZ1:∀v∈Z,v.oneCell'=true:=by
   intro v hv;simp only [Z,Builtin.zeroCells,Array.toList_map,List.mem_map] at hv;obtain ⟨j,-,rfl⟩:=hv;rcases (show j % 3=0∨j % 3=1∨j % 3=2 by omega) with e | e | e <;> simp [e] <;> rfl
  have hfit:i*3+0+Z.length≤cur.size:=by rw [hZl,h3]; omega
  have hst:=run_storeCells_at (P:=Tryz.prog) g (i*3) 119 Z 0 cur w hh hfit hZ1;refine ⟨w.setRow g (cur.toList.take (i*3+0)++Z++cur.toList.drop (i*3+0+Z.length)).toArray,fun c => ?_, ?_, ?_⟩
  ·obtain ⟨m,hm⟩:∃m,n - i=m+1:=⟨n - i - 1,by omega⟩;have hst':=hst;simp only [Z] at hst';rw [hm] at hst' ⊢
   simp [Builtin.clear_,run_underlying Tryz.underlying188,hz,Value.cells,hst',Z,hm]
  ·refine ⟨hsh.1,.inr ⟨g,cap,_,rfl,hg,setRow_heap w g cur _ 119 _ hh,by omega,h2, ?_, ?_⟩⟩
   ·simp
    rw [hZl]
    have:cur.toList.length=cap*3:=by simpa using h3
    simp at this ⊢
    omega
   ·have hcs:cur.toList.length=cap*3:=by simpa using h3
    have e1:(cur.toList.take (i*3+0)).length=i*3:=by rw [List.length_take]; omega
    rw [List.append_assoc,List.take_append_of_le_length (by omega),List.take_of_length_le (by omega),← zfr,← h4,List.take_take,Nat.add_zero,Nat.min_eq_left (by omega)]
  ·refine ⟨rfl,rfl,rfl, ?_, ?_⟩
   ·simp [World.setRow]
   ·intro k hk hkg;rw [setRow_other _ _ _ _ (fun e=>hkg (by rw [e]))]

theorem zdv (B g n cap:Nat) (l:List VR) (id:Int) (k gi:Nat) (w:World) (how:w.ownsRow B 119 3 (.slice (some ⟨g,0,none⟩) n cap) n (vrowF.all l)) (cg:w.heap[gi]? = some (.cells #[.int .i64 id] 3)) (hk:zI l id=some k) (hB:B≤w.heap.size) :
  Calls Tryz.prog 294 #[.slice (some ⟨g,0,none⟩) n cap,.func (.func 296) #[] #[.pointer (some ⟨gi,0,none⟩)]] w fun e w'=>∃n',n'≤n∧e=.returned (.slice (some ⟨g,0,none⟩) n' cap)∧w'.ownsRow B 119 3 (.slice (some ⟨g,0,none⟩) n' cap) n' (vrowF.all (l.filter (fun r=>r.i != id)))∧Below B w w':=by
 have hrow:=zE (F:=vrowF) how;have hle:=hrow.le;have htop:=hrow.top;unfold maxLen at htop;have hsz:=hide hrow.size;have hBg:B≤g:=(how.lt g rfl).1;have hgi:gi≠g:=by
  intro e;subst e;exact zaf how cg (by decide) gi rfl rfl
 have hat:=hide (zfe hk);have hkn:k < n:=by have:=(List.findIdx?_eq_some_iff_getElem.1 hk).1; have:=hsz.out; omega
 have hneg:¬((k:Int) = -1):=by omega
 have HK:=hide hk;go_enter Tryz.func294,Tryz.ntmps294;go_wp2_with fail
 refine (zeB (some ⟨g,0,none⟩) n cap l id gi _ hrow cg).mono ?_;rintro r w1 ⟨rfl,hb1⟩;rw [hat.out];have how:=zo how hb1;have cg:=ze cg hb1;have HB:=hide (hb1.mono hB);clear hb1 hrow hk;go_wp2
 go_loopw [5,6] (fun s5 s6 wr=>∃(i j:Nat) (L:List VR),s5=.int .i64 i∧s6=.int .i64 j∧DelSt l L id i j∧wr.ownsRow B 119 3 (.slice (some ⟨g,0,none⟩) n cap) n (vrowF.all L)∧wr.heap[gi]? = some (.cells #[.int .i64 id] 3)∧Below B w wr) (fun _ s6 _=>n - (intOf s6).toNat)
 case atStart=>exact ⟨k,k+1,l,rfl,by go_num,zfz HK.out,how,cg,HB.out⟩
 case round =>
  obtain ⟨i,j,L,rfl,rfl,hst,ho,cgr,hb⟩:=hrel;have hij:=hst.2.1;have hjn:j≤n:=by have:=hst.2.2.1; have:=hsz.out; omega
  have hBr:B≤wr.heap.size:=Nat.le_trans hB hb.size;by_cases hlt:j < n
  ·have hjl:j < l.length:=by have:=hsz.out; omega
   have hx:l[j]? = some (l[j]'hjl):=List.getElem?_eq_getElem hjl;generalize l[j]'hjl=x at hx;have hxL:L[j]? = some x:=by rw [zh7 hst,hx]
   have a0:wr.cell? ⟨g,j*3,none⟩=some (.int .i64 x.i):=(zaB (F:=vrowF) ho hxL (j:=0) (v:=.int .i64 x.i) rfl).1;have a1:wr.cell? ⟨g,j*3+1,none⟩=some (.int .i64 x.m):=(zaB (F:=vrowF) ho hxL (j:=1) (v:=.int .i64 x.m) rfl).1;have a2:wr.cell? ⟨g,j*3+2,none⟩=some (.int .i64 x.b):=(zaB (F:=vrowF) ho hxL (j:=2) (v:=.int .i64 x.b) rfl).1;generalize hwa:wr.alloc (Obj.cells #[Value.int .i64 x.i,Value.int .i64 x.m,Value.int .i64 x.b] 119)=wa;have bra:=zb hwa;have ka:=zk hwa;obtain ⟨⟨x0,x1,x2⟩,-⟩:=zas ka;cases t1:(x.i == id)
   ·have HS:=hide (zgs hst hx t1);have T1:=hide t1;have HB1:=hide hb;clear t1 hx hxL hst hb;(go_wp2_with fail);refine (za1 x id gi _ (ze cgr bra)).mono ?_;rintro r wb ⟨rfl,hbb⟩;rw [T1.out];have brb:=zd bra hbb;obtain ⟨⟨y0,y1,y2⟩,-⟩:=zas (ze ka hbb);obtain ⟨⟨⟨u0,v0⟩,⟨u1,v1⟩,⟨u2,v2⟩⟩,⟨f0,f1,f2⟩,hO⟩:=zi8 (zo ho brb) (i:=i) (by omega) x;have HO:=hide hO;have HG:=hide (zx (b:=g) (j:=i*3+2) (u:=.int .i64 x.b) (zx (b:=g) (j:=i*3+1) (u:=.int .i64 x.m) (zx (b:=g) (j:=i*3) (u:=.int .i64 x.i) (ze cgr brb) hgi) hgi) hgi);have HB2:=hide (zg (zg (zg (HB1.out.trans (brb.mono hBr)) hBg (i*3) (.int .i64 x.i)) hBg (i*3+1) (.int .i64 x.m)) hBg (i*3+2) (.int .i64 x.b));have i1:(i:Int) < (n:Int):=by omega
    clear x0 x1 x2 a0 a1 a2 hO hbb ho;go_wp2
    go_roundw
    case rel =>
     refine ⟨_,_,_,_,_,_,_,_,_,_,_,_,_,_,_,_,_,_,_,_,_,_,_, ?_,rfl⟩;exact ⟨i+1,j+1,_,by go_num,by go_num,HS.out,HO.out,HG.out,HB2.out⟩
    case measure=>simp [intOf]; omega
   ·have HS:=hide (zgr hst hx t1);have T1:=hide t1;have HB1:=hide hb;clear t1 hx hxL hst hb;(go_wp2_with fail);refine (za1 x id gi _ (ze cgr bra)).mono ?_;rintro r wb ⟨rfl,hbb⟩;rw [T1.out];have brb:=zd bra hbb;have HO:=hide (zo ho brb);have HG:=hide (ze cgr brb);have HB2:=hide (HB1.out.trans (brb.mono hBr));clear x0 x1 x2 a0 a1 a2 hbb ho;go_wp2
    go_roundw
    case rel =>
     refine ⟨_,_,_,_,_,_,_,_,_,_,_,_,_,_,_,_,_,_,_,_,_,_,_, ?_,rfl⟩;exact ⟨i,j+1,_,rfl,by go_num,HS.out,HO.out,HG.out,HB2.out⟩
    case measure=>simp [intOf]; omega
  ·have hjn':j=n:=by omega
   subst hjn';have HE:=hide (zg4 hst (by have:=hsz.out; omega));obtain ⟨wc,hrun,hO,hgr⟩:=zd5 ho (i:=i) hij 0;rw [HE.out] at hO;have HO:=hide hO;have HB2:=hide (hb.grown hgr hBr (by intro k hk; cases hk; exact hBg));have i1:(0:Int)≤(i:Int):=by omega
   have i2:(i:Int)≤(j:Int):=by omega
   have i3:¬cap=i:=by omega
   have i4:(i:Int)≤(cap:Int):=by omega
   clear hst hb ho hO hgr;go_wp2;go_ret;exact ⟨i,by omega,rfl,HO.out,HB2.out⟩

theorem zda (a:Option Addr) (n c:Nat) (l:List VR) (id:Int) (k:Nat) (w:World) (h:GRow vrowF w a n c l) (hn:n≤16777216) (hk:zI l id=some k) :
  Calls Tryz.prog 284 #[.slice a n c,.int .i64 id] w fun e w'=>∃a' n' c',n'≤n∧e=.returned (.slice a' n' c')∧w'.ownsRow w.heap.size 119 3 (.slice a' n' c') n' (vrowF.all (l.filter (fun r=>r.i != id)))∧Below w.heap.size w w':=by
 have hmf:∀(fn:Fn) (first cap:Array Value) (w:World),(Instr.makeFunc fn first cap).run Tryz.prog w=.ok (.func fn first cap) w:=fun _ _ _ _=>rfl
 have q:=zh w (.cells #[.int .i64 id] 3);have kb:=zv w (.cells #[.int .i64 id] 3);have hkn:0 < n:=by have:=(List.findIdx?_eq_some_iff_getElem.1 hk).1; have:=h.size; omega
 have HK:=hide hk;clear hk;go_enter Tryz.func284,Tryz.ntmps284;go_wp2_with fail
 refine (zgn a n c l _ (h.below q) hn).mono ?_;rintro r w1 ⟨a1,c1,rfl,ho1,hb1⟩;obtain ⟨g,rfl,hg1,hg2⟩:=zbC (F:=vrowF) ho1 hkn;have q1:=zd q hb1;have kb1:=ze kb hb1;go_wp2_with fail
 refine (zdv w.heap.size g n c1 l id k w.heap.size _ (zW ho1 (base':=w.heap.size) q.size) kb1 HK.out q1.size).mono ?_;rintro r w2 ⟨n2,hn2,rfl,ho2,hb2⟩;have HO:=hide ho2;have HB:=hide (q1.trans hb2);clear ho2 hb2 ho1 hb1 q1 q kb kb1;go_wp2;go_ret;exact ⟨_,n2,c1,hn2,rfl,HO.out,HB.out⟩

end Go.Proofs.YtcpdkcdfnpcemaaGreat
