/-
  Packed: BindApp ValHelp L3Int MadeSet VlanRow VlanBits PtApp PduHelp OidMath MibFind OidSame OidLess Draw Drawb.
-/
import Derived.Test.YtljbdmlgfggadaaGreatPGK04
import Derived.Below
namespace Go.Proofs.YtljbdmlgfggadaaGreat
set_option maxRecDepth 100000
set_option maxHeartbeats 16000000
open Go.RowKit

theorem Tryz.infoBind':(Tryz.prog.info? 37).map (fun i=>(i.zero,i.size,i.bytes))=some (some (.agg #[.slice none 0 0,.int .i64 0,.int .i64 0,.string ⟨#[]⟩,.slice none 0 0]),5,80):=by kernel_rfl

theorem ze0 (w:World) (y:BI):∀(j:Nat) (u:Value),y.cs[j]?=some u→(w.alloc (.cells #[.slice y.oa y.on y.oc,.int .i64 y.K,.int .i64 y.N,.string y.S,.slice y.za y.zn y.zc] 37)).cell? ((⟨w.heap.size,0,none⟩:Addr).add j)=some u:=by
 intro j u hu;obtain ⟨⟨c0,c1,c2,c3,c4⟩,-⟩:=zo (zB w (.cells #[.slice y.oa y.on y.oc,.int .i64 y.K,.int .i64 y.N,.string y.S,.slice y.za y.zn y.zc] 37));rw [zcN,Nat.zero_add]
 match j,hu with
 | 0,hu=>rw [c0]; exact hu
 | 1,hu=>rw [c1]; exact hu
 | 2,hu=>rw [c2]; exact hu
 | 3,hu=>rw [c3]; exact hu
 | 4,hu=>rw [c4]; exact hu
 | k+5,hu=>simp [BI.cs] at hu

theorem zen (y:BI):∀u∈y.cs,u.oneCell'=true:=by
 intro u hu;simp only [BI.cs,List.mem_cons,List.not_mem_nil,or_false] at hu;rcases hu with rfl | rfl | rfl | rfl | rfl <;> rfl

theorem zfo {w:World} {base:Nat} {e:TypeId} {s:Nat} {v:Value} {n:Nat} {xs:List Value} (h:w.ownsRow base e s v n xs):∃ao cap,v=.slice ao n cap:=by
 rcases h.2 with ⟨rfl,rfl⟩ | ⟨g,cap,cur,rfl,_⟩
 ·exact ⟨_,_,rfl⟩
 ·exact ⟨_,_,rfl⟩

theorem ziO {w w':World} {base:Nat} {ao:Option Addr} {n cap:Nat} {l:List BI} (h:BOwns w base ao n cap l) (hg:w.grownBy w' (Value.slice ao n cap).ownBlock) (hb:base≤w.heap.size):Below base w w' :=
 (Only.of_grown hg).below hb (fun b hb=>(h.row.lt b (zab.2 hb)).1)

def sameV (K N:Int) (S:ByteArray) (z:List Int) (K' N':Int) (S':ByteArray) (z':List Int):Bool:=(K == K') && ((N == N') && ((S.toList == S'.toList) && decide (z=z')))

theorem zez (K N:Int) (S:ByteArray) (z:List Int):sameV K N S z K N S z=true:=by simp [sameV]

theorem ziz {K N:Int} {S:ByteArray} {z:List Int} {K' N':Int} {S':ByteArray} {z':List Int} (h:(K != K')=true):false=sameV K N S z K' N' S' z':=by
 simp at h; simp [sameV,h]
theorem ziA {K N:Int} {S:ByteArray} {z:List Int} {K' N':Int} {S':ByteArray} {z':List Int} (h:(N != N')=true):false=sameV K N S z K' N' S' z':=by
 simp at h; simp [sameV,h]
theorem ziC {K N:Int} {S:ByteArray} {z:List Int} {K' N':Int} {S':ByteArray} {z':List Int} (h:(!S.toList == S'.toList)=true):false=sameV K N S z K' N' S' z':=by
 simp at h; simp [sameV,h]
theorem ziB {K N:Int} {S:ByteArray} {z:List Int} {K' N':Int} {S':ByteArray} {z':List Int} (h:decide (z=z')=false):false=sameV K N S z K' N' S' z':=by
 simp at h; simp [sameV,h]
theorem ziD {K N:Int} {S:ByteArray} {z:List Int} {K' N':Int} {S':ByteArray} {z':List Int} (h1:(K != K')=false) (h2:(N != N')=false) (h3:(!S.toList == S'.toList)=false) (h4:decide (z=z')=true):true=sameV K N S z K' N' S' z':=by
 simp at h1 h2 h3 h4; simp [sameV,h1,h2,h3,h4]

theorem zhf (K N:Int) (S:ByteArray) (a1:Option Addr) (l1 c1:Nat) (z1:List Int) (K' N':Int) (S':ByteArray) (a2:Option Addr) (l2 c2:Nat) (z2:List Int) (w:World) (h1:IRow w a1 l1 c1 z1) (h2:IRow w a2 l2 c2 z2) :
  Calls Tryz.prog 25 #[.agg #[.int .i64 K,.int .i64 N,.string S,.slice a1 l1 c1],.agg #[.int .i64 K',.int .i64 N',.string S',.slice a2 l2 c2]] w fun e w'=>e=.returned (.bool (sameV K N S z1 K' N' S' z2))∧Below w.heap.size w w':=by
 generalize hP:sameV K N S z1 K' N' S' z2=P;have HP:=hide hP;clear hP;go_enter Tryz.func25,Tryz.ntmps25;go_wp2_with fail
 ·go_ret;exact ⟨zt ((ziz ‹_›).trans HP.out),zA _ _ _⟩
 ·go_ret;exact ⟨zt ((ziA ‹_›).trans HP.out),zA _ _ _⟩
 ·go_ret;exact ⟨zt ((ziC ‹_›).trans HP.out),zA _ _ _⟩
 ·have t1:=‹(K != K')=false›;have t2:=‹(N != N')=false›;have t3:=‹(!S.toList == S'.toList)=false›;cases hD:decide (z1=z2)
  ·refine (zfI a1 l1 c1 z1 a2 l2 c2 z2 _ (h1.below (zA _ _ _)) (h2.below (zA _ _ _))).mono ?_;rintro e w1 ⟨rfl,n,rfl⟩;rw [hD];have HD:=hide hD;clear hD;go_wp2;go_ret;exact ⟨zt ((ziB HD.out).trans HP.out),zV (zA _ _ _) n⟩
  ·refine (zfI a1 l1 c1 z1 a2 l2 c2 z2 _ (h1.below (zA _ _ _)) (h2.below (zA _ _ _))).mono ?_;rintro e w1 ⟨rfl,n,rfl⟩;rw [hD];have HD:=hide hD;clear hD;go_wp2;go_ret;exact ⟨zt ((ziD t1 t2 t3 HD.out).trans HP.out),zV (zA _ _ _) n⟩

theorem zcu (K N:Int) (S:ByteArray) (a1:Option Addr) (l1 c1:Nat) (a2:Option Addr) (l2 c2:Nat) (zs:List Int) (w:World) (h1:IRow w a1 l1 c1 zs) (h2:IRow w a2 l2 c2 zs) :
  Calls Tryz.prog 25 #[.agg #[.int .i64 K,.int .i64 N,.string S,.slice a1 l1 c1],.agg #[.int .i64 K,.int .i64 N,.string S,.slice a2 l2 c2]] w fun e w'=>e=.returned (.bool true)∧Below w.heap.size w w':=by
 refine (zhf K N S a1 l1 c1 zs K N S a2 l2 c2 zs w h1 h2).mono ?_;rintro e w' ⟨rfl,hb⟩;exact ⟨by rw [zez],hb⟩

theorem zcY (K N:Int) (S:ByteArray) (base:Nat) (ao:Option Addr) (n cap:Nat) (zs:List Int) (k:Int) (w:World) (hown:w.ownsRow base 3 1 (.slice ao n cap) n (cI zs)) (hn:n≤16777216) (hk0:0≤k) (hk1:k≤1099511627776) :
  Calls Tryz.prog 28 #[.agg #[.int .i64 K,.int .i64 N,.string S,.slice ao n cap],.int .i64 k] w fun e w'=>e=.returned (.int .i64 (k+n)) ∧
   w'.ownsRow base 3 1 (.slice ao n cap) n (cI (zaw k n))∧w.grownBy w' (Value.slice ao n cap).ownBlock:=by
 go_enter Tryz.func28,Tryz.ntmps28;go_wp2_with fail
 refine (za0 base ao n cap zs k _ (zar hown (zh _ _)) hn hk0 hk1).mono ?_;rintro e w1 ⟨rfl,ho,hg⟩;go_wp2;go_ret;exact ⟨rfl,ho,zdN (zh _ _) hg⟩

theorem zcI (K N:Int) (S:ByteArray) (ao:Option Addr) (n cap:Nat) (k:Int) (w:World) (h1:IRow w ao n cap (zaw k n)) (hn:n≤16777216) (hk0:0≤k) (hk1:k≤1099511627776) :
  Calls Tryz.prog 29 #[.agg #[.int .i64 K,.int .i64 N,.string S,.slice ao n cap],.int .i64 k] w fun e w'=>e=.returned (.int .i64 (k+n))∧Below w.heap.size w w':=by
 go_enter Tryz.func29,Tryz.ntmps29;go_wp2_with fail
 refine (zcT ao n cap k _ (h1.below (zh _ _)) hn hk0 hk1).mono ?_;rintro e w1 ⟨rfl,rfl⟩;go_wp2;go_ret;exact ⟨rfl,zh _ _⟩

theorem zhl (n:Int) (w:World) :
  Calls Tryz.prog 88 #[.int .i64 n] w fun e w'=>e=.returned (.agg #[.int .i64 2,.int .i64 n,.string ⟨#[]⟩,.slice none 0 0])∧Below w.heap.size w w':=by
 go_enter Tryz.func88,Tryz.ntmps88;go_wp2;exact bodyPost_ret (v:=.agg #[.int .i64 2,.int .i64 n,.string ⟨#[]⟩,.slice none 0 0]) (by simp [results,Tryz.results88,go_sem]) rfl ⟨rfl,zh _ _⟩

theorem zff {W:World} {X:Nat} {c0 c1 c2 c3 c4:Value} {T:TypeId} {K:World→Prop} (hk:W.heap[X]?=some (.cells #[c0,c1,c2,c3,c4] T)) (v0 v1 v2 v3 v4:Value) (h:∀wq,wq.heap[X]?=some (.cells #[v0,v1,v2,v3,v4] T)→W.grownBy wq (some X)→K wq):K (((((W.setCell ⟨X,0,none⟩ v0).setCell ⟨X,1,none⟩ v1).setCell ⟨X,2,none⟩ v2).setCell ⟨X,3,none⟩ v3).setCell ⟨X,4,none⟩ v4):=by
 refine h _ ?_ (zE (zE (zE (zE (zl 0 _) (zl 1 _)) (zl 2 _)) (zl 3 _)) (zl 4 _));have h0:=zu (j:=0) hk v0;have h1:=zu (j:=1) h0 v1;have h2:=zu (j:=2) h1 v2;have h3:=zu (j:=3) h2 v3;have h4:=zu (j:=4) h3 v4
 simpa using h4

theorem zdV {W:World} {X:Nat} {c0 c1:Value} {T:TypeId} {K:World→Prop} (hk:W.heap[X]?=some (.cells #[c0,c1] T)) (v0 v1:Value) (h:∀wq,wq.heap[X]?=some (.cells #[v0,v1] T)→W.grownBy wq (some X)→K wq):K ((W.setCell ⟨X,0,none⟩ v0).setCell ⟨X,1,none⟩ v1):=by
 refine h _ ?_ (zE (zl 0 _) (zl 1 _));have h1:=zu (j:=1) (zu (j:=0) hk v0) v1
 simpa using h1

theorem cell1 {w:World} {g:Nat} {T:TypeId} {v:Value} (h:w.heap[g]?=some (.cells #[v] T)):w.cell? ⟨g,0,none⟩=some v:=by simp [World.cell?,h]

theorem zfk (v:Value) (w:World):(method 304 82 v "loop.example/g00326/impl.number").run Tryz.prog w=.ok (188,v) w:=by kernel_rfl

theorem zaV (r:VR) (w:World):Calls Tryz.prog 188 #[.agg #[.int .i64 r.i,.int .i64 r.m,.int .i64 r.b]] w fun e w'=>e=.returned (.int .i64 r.i)∧Below w.heap.size w w':=by
 go_enter Tryz.func188,Tryz.ntmps188;go_wp2;go_ret;exact ⟨rfl,zh _ _⟩

theorem zbP (a:Option Addr) (n c:Nat) (o:Option Addr) (p q:Nat) (w:World):Calls Tryz.prog 150 #[.agg #[.slice a n c,.slice o p q]] w fun e w'=>e=.returned (.slice a n c)∧Below w.heap.size w w':=by
 go_enter Tryz.func150,Tryz.ntmps150;go_wp2;go_ret;exact ⟨rfl,zh _ _⟩

theorem zcA (r:VR) (id:Int) (g:Nat) (w:World) (c:w.heap[g]?=some (.cells #[.int .i64 id] 3)) :
  Calls Tryz.prog 168 #[.agg #[.int .i64 r.i,.int .i64 r.m,.int .i64 r.b],.pointer (some ⟨g,0,none⟩)] w fun e w'=>e=.returned (.bool (r.i == id))∧Below w.heap.size w w':=by
 have hm:=zfk;generalize hw1:w.alloc (Obj.cells #[.int .i64 r.i,.int .i64 r.m,.int .i64 r.b] 82)=w1;have q:=zb hw1;have k0:=zk hw1;have HS:Hid (∀W,Below w1.heap.size w1 W→(zcc W w.heap.size 0 (.int .i64 r.i)∧zcc W w.heap.size 1 (.int .i64 r.m)∧zcc W w.heap.size 2 (.int .i64 r.b))∧zcc W g 0 (.int .i64 id)):=hide (fun W hW=>⟨(zdh (ze k0 hW)).1,cell1 (ze (ze c q) hW)⟩);clear k0;have vv:Below w1.heap.size w1 w1.drew:=zw (Below.refl _ _);go_enter Tryz.func168,Tryz.ntmps168;go_wp2_with fail
 refine wp_region_held_drew (S:=(fun W=>(zcc W w.heap.size 0 (.int .i64 r.i)∧zcc W w.heap.size 1 (.int .i64 r.m)∧zcc W w.heap.size 2 (.int .i64 r.b))∧zcc W g 0 (.int .i64 id))) (by kernel_rfl) (HS.out _ vv) (fun hHeld => ?_);refine kK 0 ⟨some 4,.load 82 (.tmp 2),82,"l09_vlan.go:152",#[],none⟩ ?_;refine kK 1 ⟨some 5,.makeInterface 82 (.tmp 4),20,"l09_vlan.go:152",#[⟨0,.data⟩],none⟩ ?_;refine kK 3 ⟨some 7,.load 3 (.tmp 1),3,"l09_vlan.go:152",#[],none⟩ ?_;refine kR 2 ⟨some 6,.call ⟨.invoke (.tmp 5) "loop.example/g00326/impl.number",#[],#[]⟩,3,"l09_vlan.go:152",#[⟨1,.data⟩],none⟩ (fun K hK => ?_);go_simp;refine (zaV r _).mono ?_;rintro e wz ⟨rfl,hbz⟩;have vv:=zd vv hbz;go_wp2_with fail
 refine kO hK (HS.out _ vv) fun hHeld => ?_
 clear hK K;refine kK 4 ⟨some 8,.binOp .eql 3 (.tmp 6) (.tmp 7) 3,4,"l09_vlan.go:152",#[⟨2,.data⟩,⟨3,.data⟩],none⟩ ?_;refine kK 5 ⟨some 3,.assign (.tmp 8),4,"l09_vlan.go:152",#[⟨4,.data⟩,⟨2,.chain⟩,⟨0,.phase⟩,⟨1,.phase⟩,⟨2,.phase⟩,⟨3,.phase⟩,⟨4,.phase⟩],none⟩ ?_;refine wpAnyH_done (by kernel_rfl) ?_ _;have HB:=hide (zd q vv);clear HS vv q;go_wp2;go_ret;exact ⟨rfl,HB.out⟩

theorem zfv (a:Option Addr) (n c:Nat) (l:List VR) (id:Int) (g:Nat) (w:World) (h:GRow vrowF w a n c l) (cg:w.heap[g]?=some (.cells #[.int .i64 id] 3)) :
  Calls Tryz.prog 167 #[.slice a n c,.func (.func 168) #[] #[.pointer (some ⟨g,0,none⟩)]] w fun r w'=>r=.returned (.int .i64 (rowAt l id))∧Below w.heap.size w w':=by
 have hle:=h.le;have htop:=h.top;unfold maxLen at htop;have hsz:=h.size;go_enter Tryz.func167,Tryz.ntmps167;go_wp2
 go_loopw [8] (fun i wr=>∃k:Nat,k≤n∧i=.int .i64 k∧(∀(j:Nat) (y:VR),j < k→l[j]?=some y→(y.i == id)=false)∧Below w.heap.size w wr) (fun i _=>n - (intOf i).toNat)
 case atStart=>exact ⟨0,Nat.zero_le _,rfl,fun j y hj=>by omega,Below.refl _ _⟩
 case round =>
  obtain ⟨k,hk,rfl,hno,hb⟩:=hrel;by_cases hlt:k < n
  ·obtain ⟨x,b,off,hx,rfl,c0,c1,c2⟩:=zaJ (h.below hb) k hlt;cases t1:(x.i == id)
   ·have HO:=hide (zgy hno hx t1);have HA:=hide t1;have HB:=hide hb;clear t1 hno hb hx;(go_wp2_with fail);refine (zcA x id g _ (ze cg HB.out)).mono ?_;rintro r w1 ⟨rfl,hb1⟩;rw [HA.out];have HB1:=hide (zd HB.out hb1);clear hb1 c0 c1 c2;go_wp2
    go_roundw
    case rel=>exact ⟨k+1,by omega,by go_num,HO.out,HB1.out⟩
    case measure=>simp [intOf]; omega
   ·have HF:=hide (zd7 hno hx t1);have HA:=hide t1;have HB:=hide hb;clear t1 hno hb hx;(go_wp2_with fail);refine (zcA x id g _ (ze cg HB.out)).mono ?_;rintro r w1 ⟨rfl,hb1⟩;rw [HA.out];have HB1:=hide (zd HB.out hb1);clear hb1 c0 c1 c2;go_wp2;go_ret;exact ⟨(by rw [HF.out]; rfl),HB1.out⟩
  ·have hkn:k=n:=by omega
   have HF:=hide (zey (l:=l) (id:=id) (fun i y hy=>hno i y (by have:=(List.getElem?_eq_some_iff.1 hy).1; omega) hy));have HB:=hide hb;clear hno hb;subst hkn;go_wp2;go_ret;exact ⟨(by rw [HF.out]; rfl),HB.out⟩

theorem zeI (a:Option Addr) (n c:Nat) (l:List VR) (id:Int) (w:World) (h:GRow vrowF w a n c l) :
  Calls Tryz.prog 163 #[.slice a n c,.int .i64 id] w fun r w'=>r=.returned (.int .i64 (rowAt l id))∧Below w.heap.size w w':=by
 have hmf:∀(fn:Fn) (first cap:Array Value) (w:World),(Instr.makeFunc fn first cap).run Tryz.prog w=.ok (.func fn first cap) w:=fun _ _ _ _=>rfl
 have q:=zh w (.cells #[.int .i64 id] 3);go_enter Tryz.func163,Tryz.ntmps163;go_wp2_with fail
 refine (zfv a n c l id _ _ (h.below q) (zB w _)).mono ?_;rintro r w1 ⟨rfl,hb1⟩;have HB:=hide (zd q hb1);clear hb1 q;go_wp2;go_ret;exact ⟨rfl,HB.out⟩

theorem zcU (a:Option Addr) (n c:Nat) (l:List VR) (o:Option Addr) (p q:Nat) (id:Int) (w:World) (h:GRow vrowF w a n c l) :
  Calls Tryz.prog 153 #[.agg #[.slice a n c,.slice o p q],.int .i64 id] w fun r w'=>r=.returned (.int .i64 (rowAt l id))∧Below w.heap.size w w':=by
 have q0:=zh w (.cells #[.slice a n c,.slice o p q] 29);go_enter Tryz.func153,Tryz.ntmps153;go_wp2_with fail
 refine (zbP a n c o p q _).mono ?_;rintro r w1 ⟨rfl,hb1⟩;have q1:=zd q0 hb1;clear hb1;go_wp2_with fail
 refine (zeI a n c l id _ (h.below q1)).mono ?_;rintro r w2 ⟨rfl,hb2⟩;have HB:=hide (zd q1 hb2);clear hb2 q1 q0;go_wp2;go_ret;exact ⟨rfl,HB.out⟩

def I64 (x:Int):Prop := -9223372036854775808≤x∧x≤9223372036854775807

def VR.Rng (r:VR):Prop:=I64 r.i∧I64 r.m∧I64 r.b

theorem bv_of (x:Int):(BitVec.ofInt 64 x).toNat=(x % 18446744073709551616).toNat:=by
 rw [BitVec.toNat_ofInt]
 rfl

theorem zhW (x:BitVec 64):IntKind.i64.wrap (x.toNat:Int)=x.toInt:=by
 have:=x.isLt
 rw [IntKind.wrap_i64,BitVec.toInt_eq_toNat_cond]
 split <;> omega

theorem zeE (a b:Int):bits .and .i64 a b=(BitVec.ofInt 64 a &&& BitVec.ofInt 64 b).toInt:=by
 rw [← zhW]
 rfl
theorem zfE (a b:Int):bits .andNot .i64 a b=(BitVec.ofInt 64 a &&& ~~~(BitVec.ofInt 64 b)).toInt:=by
 rw [← zhW]
 rfl

theorem zgZ {x:BitVec 64}:x.toInt=0↔x=0#64:=by
 rw [← BitVec.toInt_inj]
 simp

theorem zc7 (x:Int) (h:I64 x):(BitVec.ofInt 64 x).toInt=x:=by
 unfold I64 at h;rw [BitVec.toInt_ofInt];rw [Int.bmod_def];omega

theorem zel (b m:Int) (hb:I64 b):(bits .andNot .i64 b m == 0)=(bits .and .i64 b m == b):=by
 rw [zeE,zfE];have key:(BitVec.ofInt 64 b &&& ~~~(BitVec.ofInt 64 m))=0#64↔(BitVec.ofInt 64 b &&& BitVec.ofInt 64 m)=BitVec.ofInt 64 b:=by
  constructor
  ·intro h
   apply BitVec.eq_of_getLsbD_eq
   intro i hi
   have:=congrArg (fun z=>z.getLsbD i) h
   simp only [BitVec.getLsbD_and,BitVec.getLsbD_not,hi,decide_true,Bool.true_and,BitVec.getLsbD_zero] at this;simp only [BitVec.getLsbD_and];cases h1:(BitVec.ofInt 64 b).getLsbD i <;> cases h2:(BitVec.ofInt 64 m).getLsbD i <;> simp_all
  ·intro h
   apply BitVec.eq_of_getLsbD_eq
   intro i hi
   have:=congrArg (fun z=>z.getLsbD i) h
   simp only [BitVec.getLsbD_and] at this;simp only [BitVec.getLsbD_and,BitVec.getLsbD_not,hi,decide_true,Bool.true_and,BitVec.getLsbD_zero];cases h1:(BitVec.ofInt 64 b).getLsbD i <;> cases h2:(BitVec.ofInt 64 m).getLsbD i <;> simp_all
 have e2:((BitVec.ofInt 64 b &&& BitVec.ofInt 64 m).toInt=b)↔(BitVec.ofInt 64 b &&& BitVec.ofInt 64 m)=BitVec.ofInt 64 b:=by
  constructor
  ·intro h
   apply BitVec.toInt_inj.1
   rw [h,zc7 b hb]
  ·intro h;rw [h,zc7 b hb]
 have e1:=zgZ (x:=BitVec.ofInt 64 b &&& ~~~(BitVec.ofInt 64 m));rw [Bool.eq_iff_iff];simp only [beq_iff_eq];rw [e1,key,e2]

theorem ziT (p:Nat) (hp:p≤6):(BitVec.ofInt 64 (allOf p)).toNat=2 ^ p - 1:=by
 rcases (show p=0∨p=1∨p=2∨p=3∨p=4∨p=5∨p=6 by omega) with rfl | rfl | rfl | rfl | rfl | rfl | rfl <;> rfl

theorem zhD (p:Nat) (hp:p≤6):(2:Nat) ^ p≤64∧((2:Int) ^ p=((2 ^ p:Nat):Int))∧1≤(2:Nat) ^ p:=by
 rcases (show p=0∨p=1∨p=2∨p=3∨p=4∨p=5∨p=6 by omega) with rfl | rfl | rfl | rfl | rfl | rfl | rfl <;> exact ⟨by decide,rfl,by decide⟩

theorem zfD (m:Int) (p:Nat) (hm:I64 m) (hp:p≤6):(bits .andNot .i64 m (allOf p) == 0)=in3 m 0 (allOf p):=by
 rw [zel m _ hm,zeE];have hn:(BitVec.ofInt 64 m &&& BitVec.ofInt 64 (allOf p)).toNat=(BitVec.ofInt 64 m).toNat % 2 ^ p:=by
  rw [BitVec.toNat_and,ziT p hp,Nat.and_two_pow_sub_one_eq_mod]
 have e2:((BitVec.ofInt 64 m &&& BitVec.ofInt 64 (allOf p)).toInt=m)↔(BitVec.ofInt 64 m &&& BitVec.ofInt 64 (allOf p)).toNat=(BitVec.ofInt 64 m).toNat:=by
  constructor
  ·intro h
   have:(BitVec.ofInt 64 m &&& BitVec.ofInt 64 (allOf p))=BitVec.ofInt 64 m:=by
    apply BitVec.toInt_inj.1
    rw [h,zc7 m hm]
   rw [this]
  ·intro h;rw [BitVec.eq_of_toNat_eq h,zc7 m hm]
 rw [Bool.eq_iff_iff];simp only [beq_iff_eq];rw [e2,hn,bv_of m];obtain ⟨h64,hc,h1⟩:=zhD p hp;unfold in3 allOf;rw [hc];unfold I64 at hm;generalize (2:Nat) ^ p=q at *;simp only [Bool.and_eq_true,decide_eq_true_eq]
 constructor
 ·intro h
  have:(m % 18446744073709551616).toNat % q < q:=Nat.mod_lt _ (by omega)
  omega
 ·intro h;rw [Nat.mod_eq_of_lt (by omega)]

theorem zg3 (b m:Int) (p:Nat) (hb:I64 b) (hp:p≤6) (hm:in3 m 0 (allOf p)=true) (h:(bits .and .i64 b m == b)=true):in3 b 0 (allOf p)=true:=by
 obtain ⟨h64,hc,h1⟩:=zhD p hp;unfold in3 allOf at hm ⊢;rw [hc] at hm ⊢;generalize (2:Nat) ^ p=q at *;simp only [Bool.and_eq_true,decide_eq_true_eq,beq_iff_eq] at *;have hmI:I64 m:=by unfold I64; omega
 rw [zeE] at h;have e:(BitVec.ofInt 64 b &&& BitVec.ofInt 64 m)=BitVec.ofInt 64 b:=by
  apply BitVec.toInt_inj.1
  rw [h,zc7 b hb]
 have e':=congrArg BitVec.toNat e;rw [BitVec.toNat_and,bv_of b,bv_of m] at e'
 have:(b % 18446744073709551616).toNat &&& (m % 18446744073709551616).toNat≤(m % 18446744073709551616).toNat:=Nat.and_le_right
 unfold I64 at hb;omega

theorem zhP (r:VR) (p:Nat) (hr:r.Rng) (hp:p≤6):(in3 r.i 1 99 && (bits .andNot .i64 r.m (allOf p) == 0) && (bits .andNot .i64 r.b r.m == 0))=za3 (allOf p) r:=by
 rw [zfD r.m p hr.2.1 hp,zel r.b r.m hr.2.2];unfold za3;cases h1:in3 r.i 1 99
 ·rfl
 ·cases h2:in3 r.m 0 (allOf p)
  ·rfl
  ·cases h3:(bits .and .i64 r.b r.m == r.b)
   ·simp
   ·rw [zg3 r.b r.m p hr.2.2 hp h2 h3]
    rfl

theorem zjm:(Tryz.prog.info? 118).map (fun i=>(i.zero,i.size,i.bytes))=some (some (.agg #[.bool false,.int .i64 0,.bool false,.int .i64 0,.int .i64 0,.int .i64 0,.int .i64 0,.int .i64 0]),ptF.k,64):=by kernel_rfl

theorem zc3 (w:World) {ops:Array Oper} {rest:List Oper} {o:Oper} {a:Act} {Q:Exit→Act→World→Prop} (hgd:o.guard=none)
  (s x:Operand) (ho:o.op=Op.call { callee:=Callee.builtin Builtin.append,args:=#[s,x],argTypes:=#[24,24] }) (base:Nat)
  (v:Value) (n:Nat) (xs:List PT) (hs:a.eval s=v) (hown:w.ownsRow base 118 8 v n (ptF.all xs)) (ao:Option Addr) (m c:Nat) (zs:List PT)
  (hx:a.eval x=.slice ao m c) (hrow:GRow ptF w ao m c zs) (hsm:n+m≤137438953472) (hbase:base≤w.heap.size)
  (h:∀ao' cap' w',w'.ownsRow base 118 8 (.slice ao' (n+m) cap') (n+m) (ptF.all (xs++zs))→GRow ptF w' ao' (n+m) cap' (xs++zs)→w.grownBy w' v.ownBlock→Below base w w'→wpList Tryz.prog ops Q rest (a.put o.dst (.slice ao' (n+m) cap')) w') :
  wpList Tryz.prog ops Q (o::rest) a w :=
 zx (F:=ptF) w hgd s x 24 118 ho base Tryz.underlying24 zjm rfl (by decide) v n xs hs hown ao m c zs hx hrow hsm hbase h

theorem zgU {w:World} {g:Nat} {T:TypeId} {c0 c1 c2 c3 c4 c5 c6 c7:Value} (h:w.heap[g]?=some (.cells #[c0,c1,c2,c3,c4,c5,c6,c7] T)) (u:Value):(w.setCell ⟨g,2,none⟩ u).heap[g]?=some (.cells #[c0,c1,u,c3,c4,c5,c6,c7] T):=zu (j:=2) h u

theorem zhF {w:World} {g:Nat} {T:TypeId} {c0 c1 c2 c3 c4 c5 c6 c7:Value} (h:w.heap[g]?=some (.cells #[c0,c1,c2,c3,c4,c5,c6,c7] T)) (u3 u4 u5 u6 u7:Value):(((((w.setCell ⟨g,3,none⟩ u3).setCell ⟨g,4,none⟩ u4).setCell ⟨g,5,none⟩ u5).setCell ⟨g,6,none⟩ u6).setCell ⟨g,7,none⟩ u7).heap[g]?=some (.cells #[c0,c1,c2,u3,u4,u5,u6,u7] T) :=
 zu (j:=7) (zu (j:=6) (zu (j:=5) (zu (j:=4) (zu (j:=3) h u3) u4) u5) u6) u7

theorem zQ {w:World} {g:Nat} {T:TypeId} {cs:Array Value} (h:w.heap[g]?=some (.cells cs T)) (j:Nat):w.frozen? ⟨g,j,none⟩=false:=by
 simp [World.frozen?,h]

theorem zis {w:World} {base k:Nat} {e:TypeId} {v:Value} {n:Nat} {xs:List Value} (h:w.ownsRow base e k v n xs):∀b,v.ownBlock=some b→b < w.heap.size:=fun b hb=>(h.lt b hb).2

theorem BI.In.le {w:World} {x:BI} (h:x.In w):x.on≤maxLen∧x.zn≤maxLen:=⟨Nat.le_trans h.o.le h.o.top,Nat.le_trans h.z.le h.z.top⟩

def BI.wt (x:BI):Nat:=x.on+x.S.size+x.zn
def bulk (l:List BI):Nat:=(l.map BI.wt).sum
theorem zcF (a b:List BI):bulk (a++b)=bulk a+bulk b:=by simp [bulk]
theorem zdH (x:BI) (l:List BI):bulk (x::l)=x.wt+bulk l:=by simp [bulk]
theorem zgh {l:List BI} {x:BI} (h:x∈l):x.wt≤bulk l:=by
 obtain ⟨a,b,rfl⟩:=List.append_of_mem h;rw [zcF,zdH]; omega
theorem zc6 {α:Type} {l:List α} {i:Nat} {x:α} (h:l[i]?=some x):l.take (i+1)=l.take i++[x]:=by
 obtain ⟨hl,rfl⟩:=List.getElem?_eq_some_iff.1 h;rw [List.take_succ_eq_append_getElem hl]
theorem ze1 (l:List BI) (i:Nat):bulk (l.take i)≤bulk l:=by
 conv=>rhs; rw [← List.take_append_drop i l,zcF]
 omega
theorem zi8 {l:List BI} {i:Nat} {x:BI} (h:l[i]?=some x):bulk (l.take (i+1))=bulk (l.take i)+x.wt:=by
 rw [zc6 h,zcF]; simp [bulk]

def lessL:List Int→List Int→Bool
 | [],[]=>false
 | [],_::_=>true
 | _::_,[]=>false
 | x::a,y::b=>if x=y then lessL a b else decide (x < y)

theorem zfR:∀(k:Nat) (a b:List Int),a.take k=b.take k→k < a.length→k < b.length→a.getD k 0≠b.getD k 0→lessL a b=decide (a.getD k 0 < b.getD k 0)
 | _,[],_,_,h,_,_=>by simp at h
 | _,_,[],_,_,h,_=>by simp at h
 | 0,x::a,y::b,_,_,_,h=>by simp at h; simp [lessL,h]
 | k+1,x::a,y::b,ht,h1,h2,h=>by
  simp at ht h1 h2 h
  simp only [lessL,ht.1,if_true];rw [zfR k a b ht.2 h1 h2 (by simpa using h)]
  simp

theorem zcW:∀(k:Nat) (a b:List Int),a.take k=b.take k→k≤a.length→k≤b.length→(k=a.length∨k=b.length)→lessL a b=decide (a.length < b.length)
 | 0,[],[],_,_,_,_=>rfl
 | 0,[],_::_,_,_,_,_=>by simp [lessL]
 | 0,_::_,[],_,_,_,_=>by simp [lessL]
 | 0,_::_,_::_,_,_,_,h=>by simp at h
 | k+1,[],_,_,h,_,_=>by simp at h
 | k+1,_::_,[],_,_,h,_=>by simp at h
 | k+1,x::a,y::b,ht,h1,h2,h=>by
  simp at ht h1 h2 h
  simp only [lessL,ht.1,if_true];rw [zcW k a b ht.2 h1 h2 h]
  simp

def zcp (l:List BD) (o:List Int):BD:=(l.find? (fun d=>decide (d.o=o))).getD ⟨[],128,0,⟨#[]⟩,[]⟩
def zb6 (l:List BD) (o:List Int):BD:=(l.find? (fun d=>lessL o d.o)).getD ⟨o,130,0,⟨#[]⟩,[]⟩

theorem ze8 {α:Type} {p:α→Bool} {l:List α} (h:∀(i:Nat) x,i < l.length→l[i]?=some x→p x=false):l.find? p=none:=by
 rw [List.find?_eq_none];intro x hx;obtain ⟨i,hi⟩:=List.getElem?_of_mem hx
 have:=h i x (List.getElem?_eq_some_iff.1 hi).1 hi
 rw [this]
 decide

theorem zdK {α:Type} {p:α→Bool}:∀{l:List α} {k:Nat} {x:α},(∀(i:Nat) y,i < k→l[i]?=some y→p y=false)→l[k]?=some x→p x=true→l.find? p=some x
 | [],k,x,_,h,_=>by simp at h
 | y::l,0,x,_,h,hp=>by
  simp at h
  subst h;rw [List.find?_cons,hp]
 | y::l,k+1,x,hn,h,hp=>by
  have h0:=hn 0 y (Nat.succ_pos _) rfl;rw [List.find?_cons,h0];exact zdK (k:=k) (fun i z hi hz=>hn (i+1) z (Nat.succ_lt_succ hi) (by simpa using hz)) (by simpa using h) hp

theorem zgl {l:List BD} {o:List Int} {k:Nat} {x:BD} (hn:∀(i:Nat) y,i < k→l[i]?=some y→decide (y.o=o)=false) (h:l[k]?=some x) (hp:decide (x.o=o)=true):zcp l o=x:=by
 unfold zcp;rw [zdK hn h hp]
 rfl
theorem zgm {l:List BD} {o:List Int} (hn:∀(i:Nat) y,i < l.length→l[i]?=some y→decide (y.o=o)=false):zcp l o=⟨[],128,0,⟨#[]⟩,[]⟩:=by
 unfold zcp;rw [ze8 hn]
 rfl
theorem zd1 {l:List BD} {o:List Int} {k:Nat} {x:BD} (hn:∀(i:Nat) y,i < k→l[i]?=some y→lessL o y.o=false) (h:l[k]?=some x) (hp:lessL o x.o=true):zb6 l o=x:=by
 unfold zb6;rw [zdK hn h hp]
 rfl
theorem zd2 {l:List BD} {o:List Int} (hn:∀(i:Nat) y,i < l.length→l[i]?=some y→lessL o y.o=false):zb6 l o=⟨o,130,0,⟨#[]⟩,[]⟩:=by
 unfold zb6;rw [ze8 hn]
 rfl
theorem zcl {α:Type} {p:α→Bool} {l:List α} {k:Nat} {x:α} (hn:∀(i:Nat) y,i < k→l[i]?=some y→p y=false) (h:l[k]?=some x) (hp:p x=false):∀(i:Nat) y,i < k+1→l[i]?=some y→p y=false:=by
 intro i y hi hy;by_cases e:i=k
 ·subst e;rw [h] at hy;cases hy;exact hp
 ·exact hn i y (by omega) hy

theorem zfz (a1:Option Addr) (l1 c1:Nat) (z1:List Int) (a2:Option Addr) (l2 c2:Nat) (z2:List Int) (w:World) (h1:IRow w a1 l1 c1 z1) (h2:IRow w a2 l2 c2 z2) :
  Calls Tryz.prog 61 #[.slice a1 l1 c1,.slice a2 l2 c2] w fun e w'=>e=.returned (.bool (decide (z1=z2)))∧∃n,w'=w.drewN n:=by
 have m1:=h1.top; have m2:=h2.top; have s1:=h1.size; have s2:=h2.size; have e1:=h1.le; have e2:=h2.le
 unfold maxLen at m1 m2;by_cases hl:l1=l2
 ·subst hl;by_cases h0:l1=0
  ·subst h0;have hz:z1=z2:=by rw [List.eq_nil_of_length_eq_zero s1,List.eq_nil_of_length_eq_zero s2]
   go_enter Tryz.func61,Tryz.ntmps61;go_wp2
   go_loop [5] (fun i=>i=.int .i64 0) (fun _=>0)
   case atStart=>rfl
   case round =>
    subst hrel;go_wp2;go_ret;exact ⟨by simp,0,rfl⟩
  ·rcases h1.cell with h | ⟨b1,o1,rfl,g1⟩
   ·exact absurd h h0
   rcases h2.cell with h | ⟨b2,o2,rfl,g2⟩
   ·exact absurd h h0
   clear h1 h2;have G1:Hid (∀i,i < l1→w.cell? ⟨b1,o1+i,none⟩=some (.int .i64 (z1.getD i 0))):=g1;have G2:Hid (∀i,i < l1→w.cell? ⟨b2,o2+i,none⟩=some (.int .i64 (z2.getD i 0))):=g2;clear g1 g2;go_enter Tryz.func61,Tryz.ntmps61;go_wp2
   go_loopw [5] (fun i wr=>∃k:Nat,k≤l1∧i=.int .i64 k∧z1.take k=z2.take k∧∃n,wr=w.drewN n) (fun i _=>l1 - (intOf i).toNat)
   case atStart=>exact ⟨0,Nat.zero_le _,rfl,rfl,0,rfl⟩
   case round =>
    obtain ⟨k,hk,rfl,ht,n,rfl⟩:=hrel;have HT:Hid (z1.take k=z2.take k):=ht;clear ht;by_cases hlt:k < l1
    ·have c1:=G1.out k hlt;have c2:=G2.out k hlt;generalize hx:z1.getD k 0=x at c1;generalize hy:z2.getD k 0=y at c2;have HX:Hid (z1.getD k 0=x):=hx;have HY:Hid (z2.getD k 0=y):=hy;clear hx hy;by_cases hq:x=y
     ·subst hq;go_wp2
      go_quiet (fail)
      go_wp2
      go_roundw
      case rel=>exact ⟨k+1,by omega,by go_num,by rw [zae _ _ (by omega),zae _ _ (by omega),HT.out,HX.out,HY.out],_,rfl⟩
      case measure=>simp [intOf]; omega
     ·have hne:(x != y)=true:=by simp [hq]
      go_wp2
      go_quiet (fail)
      go_wp2;go_ret;exact ⟨zt (decide_eq_false (ne_at k (by rw [HX.out,HY.out]; exact hq))).symm,_,World.drewN_drewN _ _ _⟩
    ·go_wp2;go_ret;have hk':k=l1:=by omega
     exact ⟨zt (decide_eq_true (zcG (by omega) (by rw [s1,← hk']; exact HT.out))).symm,_,rfl⟩
 ·have hne:((l1:Int) != (l2:Int))=true:=by simp; omega
  have hz:¬z1=z2:=by intro e; rw [e] at s1; omega
  go_enter Tryz.func61,Tryz.ntmps61;go_wp2;go_ret;exact ⟨zt (decide_eq_false hz).symm,0,rfl⟩

theorem ze6 (a1:Option Addr) (l1 c1:Nat) (z1:List Int) (a2:Option Addr) (l2 c2:Nat) (z2:List Int) (w:World) (h1:IRow w a1 l1 c1 z1) (h2:IRow w a2 l2 c2 z2) :
  Calls Tryz.prog 41 #[.slice a1 l1 c1,.slice a2 l2 c2] w fun e w'=>e=.returned (.bool (decide (z1=z2)))∧∃n,w'=w.drewN n:=by
 have m1:=h1.top; have m2:=h2.top; have s1:=h1.size; have s2:=h2.size; have e1:=h1.le; have e2:=h2.le
 unfold maxLen at m1 m2;by_cases hl:l1=l2
 ·subst hl;by_cases h0:l1=0
  ·subst h0;have hz:z1=z2:=by rw [List.eq_nil_of_length_eq_zero s1,List.eq_nil_of_length_eq_zero s2]
   go_enter Tryz.func41,Tryz.ntmps41;go_wp2
   go_loop [13] (fun i=>i=.int .i64 0) (fun _=>0)
   case atStart=>rfl
   case round =>
    subst hrel;go_wp2;go_ret;exact ⟨by simp,0,rfl⟩
  ·rcases h1.cell with h | ⟨b1,o1,rfl,g1⟩
   ·exact absurd h h0
   rcases h2.cell with h | ⟨b2,o2,rfl,g2⟩
   ·exact absurd h h0
   clear h1 h2;have G1:Hid (∀i,i < l1→w.cell? ⟨b1,o1+i,none⟩=some (.int .i64 (z1.getD i 0))):=g1;have G2:Hid (∀i,i < l1→w.cell? ⟨b2,o2+i,none⟩=some (.int .i64 (z2.getD i 0))):=g2;clear g1 g2;go_enter Tryz.func41,Tryz.ntmps41;go_wp2
   go_loopw [13] (fun i wr=>∃k:Nat,k≤l1∧i=.int .i64 k∧z1.take k=z2.take k∧∃n,wr=w.drewN n) (fun i _=>l1 - (intOf i).toNat)
   case atStart=>exact ⟨0,Nat.zero_le _,rfl,rfl,0,rfl⟩
   case round =>
    obtain ⟨k,hk,rfl,ht,n,rfl⟩:=hrel;have HT:Hid (z1.take k=z2.take k):=ht;clear ht;by_cases hlt:k < l1
    ·have c1:=G1.out k hlt;have c2:=G2.out k hlt;generalize hx:z1.getD k 0=x at c1;generalize hy:z2.getD k 0=y at c2;have HX:Hid (z1.getD k 0=x):=hx;have HY:Hid (z2.getD k 0=y):=hy;clear hx hy;by_cases hq:x=y
     ·subst hq;go_wp2
      go_quiet (fail)
      go_wp2
      go_roundw
      case rel=>exact ⟨k+1,by omega,by go_num,by rw [zae _ _ (by omega),zae _ _ (by omega),HT.out,HX.out,HY.out],_,rfl⟩
      case measure=>simp [intOf]; omega
     ·have hne:(x != y)=true:=by simp [hq]
      go_wp2
      go_quiet (fail)
      go_wp2;go_ret;exact ⟨zt (decide_eq_false (ne_at k (by rw [HX.out,HY.out]; exact hq))).symm,_,World.drewN_drewN _ _ _⟩
    ·go_wp2;go_ret;have hk':k=l1:=by omega
     exact ⟨zt (decide_eq_true (zcG (by omega) (by rw [s1,← hk']; exact HT.out))).symm,_,rfl⟩
 ·have hne:((l1:Int) != (l2:Int))=true:=by simp; omega
  have hz:¬z1=z2:=by intro e; rw [e] at s1; omega
  go_enter Tryz.func41,Tryz.ntmps41;go_wp2;go_ret;exact ⟨zt (decide_eq_false hz).symm,0,rfl⟩

theorem zco (a1:Option Addr) (l1 c1:Nat) (z1:List Int) (a2:Option Addr) (l2 c2:Nat) (z2:List Int) (w:World) (h1:IRow w a1 l1 c1 z1) (h2:IRow w a2 l2 c2 z2) :
  Calls Tryz.prog 12 #[.slice a1 l1 c1,.slice a2 l2 c2] w fun e w'=>e=.returned (.bool (decide (z1=z2)))∧∃n,w'=w.drewN n:=by
 go_enter Tryz.func12,Tryz.ntmps12;go_wp2_with fail
 refine (ze6 _ _ _ z1 _ _ _ z2 _ h1 h2).mono ?_;rintro e w1 ⟨rfl,n,rfl⟩;go_wp2;go_ret;exact ⟨rfl,n,rfl⟩

theorem IRow.take {w:World} {ao:Option Addr} {n c:Nat} {zs:List Int} (h:IRow w ao n c zs) (k:Nat) (hk:k≤n):IRow w ao k c (zs.take k) where
 size:=by have:=h.size; simp; omega
 le:=by have:=h.le; omega
 top:=h.top
 nil:=h.nil
 byte:=fun z hz=>h.byte z (List.mem_of_mem_take hz)
 cell:=by
  rcases h.cell with h0 | ⟨b,off,ha,hc⟩
  ·exact .inl (by omega)
  ·exact .inr ⟨b,off,ha,fun i hi=>by rw [hc i (by omega)]; simp [List.getD_eq_getElem?_getD,hi]⟩

theorem zde (x:Int) (w:World) :
  Calls Tryz.prog 132 #[.int .i64 x] w fun e w'=>e=.returned (.bool false)∧w'=w:=by
 go_enter Tryz.func132,Tryz.ntmps132;go_wp2;go_ret;exact ⟨by simp,rfl⟩

theorem zjd (x y:Int) (w:World) (h:x < y) :
  Calls Tryz.prog 80 #[.int .i64 x,.int .i64 y] w fun e w'=>e=.returned (.int .i64 (-1))∧w'=w:=by
 go_enter Tryz.func80,Tryz.ntmps80;go_wp2_with fail
 refine (zde x _).mono ?_;rintro e w1 ⟨rfl,rfl⟩;go_wp2_with fail
 refine (zde y _).mono ?_;rintro e w1 ⟨rfl,rfl⟩;go_wp2;go_ret;exact ⟨rfl,rfl⟩

theorem zjc (x y:Int) (w:World) (h:y < x) :
  Calls Tryz.prog 80 #[.int .i64 x,.int .i64 y] w fun e w'=>e=.returned (.int .i64 1)∧w'=w:=by
 have h':¬x < y:=by omega
 go_enter Tryz.func80,Tryz.ntmps80;go_wp2_with fail
 refine (zde x _).mono ?_;rintro e w1 ⟨rfl,rfl⟩;go_wp2_with fail
 refine (zde y _).mono ?_;rintro e w1 ⟨rfl,rfl⟩;go_wp2;go_ret;exact ⟨rfl,rfl⟩

theorem zjb (x:Int) (w:World) :
  Calls Tryz.prog 80 #[.int .i64 x,.int .i64 x] w fun e w'=>e=.returned (.int .i64 0)∧w'=w:=by
 go_enter Tryz.func80,Tryz.ntmps80;go_wp2_with fail
 refine (zde x _).mono ?_;rintro e w1 ⟨rfl,rfl⟩;go_wp2_with fail
 refine (zde x _).mono ?_;rintro e w1 ⟨rfl,rfl⟩;go_wp2;go_ret;exact ⟨rfl,rfl⟩

theorem zfG (a1:Option Addr) (l1 c1:Nat) (z1:List Int) (a2:Option Addr) (l2 c2:Nat) (z2:List Int) (w:World) (h1:IRow w a1 l1 c1 z1) (h2:IRow w a2 l2 c2 z2) :
  Calls Tryz.prog 40 #[.slice a1 l1 c1,.slice a2 l2 c2] w fun e w'=>∃c:Int,e=.returned (.int .i64 c)∧lessL z1 z2=decide (c < 0)∧w'=w:=by
 have m1:=h1.top; have m2:=h2.top; have s1:=h1.size; have s2:=h2.size; have e1:=h1.le; have e2:=h2.le
 unfold maxLen at m1 m2;have hc1:=h1.cell;have hc2:=h2.cell;clear h1 h2;go_enter Tryz.func40,Tryz.ntmps40;go_wp2
 go_loop [11] (fun i=>∃k:Nat,k≤l1∧k≤l2∧i=.int .i64 k∧z1.take k=z2.take k) (fun i=>l1 - (intOf i).toNat)
 case atStart=>exact ⟨0,Nat.zero_le _,Nat.zero_le _,rfl,rfl⟩
 case round =>
  obtain ⟨k,hk,hk2,rfl,ht⟩:=hrel;have HT:=hide ht;clear ht;by_cases hlt:k < l1
  ·rcases hc1 with h0 | ⟨b,off,rfl,hc⟩
   ·omega
   have cx:=hc k hlt;clear hc;by_cases hl2:k < l2
   ·rcases hc2 with h0 | ⟨b2,off2,rfl,hc⟩
    ·omega
    have cy:=hc k hl2;clear hc;generalize hx:z1.getD k 0=x at cx;generalize hy:z2.getD k 0=y at cy;have HX:=hide hx;have HY:=hide hy;clear hx hy;by_cases hq:x=y
    ·subst hq;(go_wp2_with fail);refine (zjb x _).mono ?_;rintro e w1 ⟨rfl,rfl⟩;go_wp2
     go_round
     case rel=>exact ⟨k+1,by omega,by omega,by go_num,by rw [zae _ _ (by omega),zae _ _ (by omega),HT.out,HX.out,HY.out]⟩
     case measure=>simp [intOf]; omega
    ·have HL:Hid (lessL z1 z2=decide (x < y)):=by
      rw [← HX.out,← HY.out];exact zfR k z1 z2 HT.out (by omega) (by omega) (by rw [HX.out,HY.out]; exact hq)
     by_cases hq2:x < y
     ·(go_wp2_with fail);refine (zjd x y _ hq2).mono ?_;rintro e w1 ⟨rfl,rfl⟩;go_wp2;go_ret;exact ⟨-1,rfl,by rw [HL.out,decide_eq_true hq2]; rfl,rfl⟩
     ·(go_wp2_with fail);refine (zjc x y _ (by omega)).mono ?_;rintro e w1 ⟨rfl,rfl⟩;go_wp2;go_ret;exact ⟨1,rfl,by rw [HL.out,decide_eq_false (by omega)]; rfl,rfl⟩
   ·go_wp2;go_ret;exact ⟨1,rfl,by rw [zcW k z1 z2 HT.out (by omega) (by omega) (.inr (by omega)),decide_eq_false (by omega)]; rfl,rfl⟩
  ·have HL:Hid (lessL z1 z2=decide (l1 < l2)):=by
    have:=zcW k z1 z2 HT.out (by omega) (by omega) (.inl (by omega))
    rw [s1,s2] at this;exact this
   by_cases hq:l1 < l2
   ·go_wp2;go_ret;exact ⟨-1,rfl,by rw [HL.out,decide_eq_true hq]; rfl,rfl⟩
   ·go_wp2;go_ret;exact ⟨0,rfl,by rw [HL.out,decide_eq_false hq]; rfl,rfl⟩

theorem zdj (a1:Option Addr) (l1 c1:Nat) (z1:List Int) (a2:Option Addr) (l2 c2:Nat) (z2:List Int) (w:World) (h1:IRow w a1 l1 c1 z1) (h2:IRow w a2 l2 c2 z2) :
  Calls Tryz.prog 11 #[.slice a1 l1 c1,.slice a2 l2 c2] w fun e w'=>e=.returned (.bool (lessL z1 z2))∧w'=w:=by
 go_enter Tryz.func11,Tryz.ntmps11;go_wp2_with fail
 refine (zfG _ _ _ z1 _ _ _ z2 _ h1 h2).mono ?_;rintro e w1 ⟨c,rfl,hc,rfl⟩;have HC:=hide hc;clear hc;go_wp2;go_ret;exact ⟨zt HC.out.symm,rfl⟩

theorem zfw (a1:Option Addr) (l1 c1:Nat) (z1:List Int) (a2:Option Addr) (l2 c2:Nat) (z2:List Int) (w:World) (h1:IRow w a1 l1 c1 z1) (h2:IRow w a2 l2 c2 z2) :
  Calls Tryz.prog 62 #[.slice a1 l1 c1,.slice a2 l2 c2] w fun e w'=>e=.returned (.bool (lessL z1 z2))∧∃n,w'=w.drewN n:=by
 have m1:=h1.top; have m2:=h2.top; have s1:=h1.size; have s2:=h2.size; have e1:=h1.le; have e2:=h2.le
 unfold maxLen at m1 m2;have hc1:=h1.cell;have hc2:=h2.cell;clear h1 h2;go_enter Tryz.func62,Tryz.ntmps62;go_wp2
 go_loopw [5] (fun i wr=>∃k:Nat,k≤l1∧k≤l2∧i=.int .i64 k∧z1.take k=z2.take k∧∃n,wr=w.drewN n) (fun i _=>l1 - (intOf i).toNat)
 case atStart=>exact ⟨0,Nat.zero_le _,Nat.zero_le _,rfl,rfl,0,rfl⟩
 case round =>
  obtain ⟨k,hk,hk2,rfl,ht,n,rfl⟩:=hrel;have HT:=hide ht;clear ht;by_cases hlt:k < l1
  ·rcases hc1 with h0 | ⟨b,off,rfl,hc⟩
   ·omega
   have cx:=hc k hlt;clear hc;by_cases hl2:k < l2
   ·rcases hc2 with h0 | ⟨b2,off2,rfl,hc⟩
    ·omega
    have cy:=hc k hl2;clear hc;generalize hx:z1.getD k 0=x at cx;generalize hy:z2.getD k 0=y at cy;have HX:=hide hx;have HY:=hide hy;clear hx hy;by_cases hq:x=y
    ·subst hq;go_wp2
     go_quiet (fail)
     go_wp2
     go_roundw
     case rel=>exact ⟨k+1,by omega,by omega,by go_num,by rw [zae _ _ (by omega),zae _ _ (by omega),HT.out,HX.out,HY.out],_,rfl⟩
     case measure=>simp [intOf]; omega
    ·have HL:Hid (lessL z1 z2=decide (x < y)):=by
      rw [← HX.out,← HY.out];exact zfR k z1 z2 HT.out (by omega) (by omega) (by rw [HX.out,HY.out]; exact hq)
     have hne:(x != y)=true:=by simp [hq]
     go_wp2
     go_quiet (fail)
     go_wp2
     go_quiet (fail)
     go_wp2;go_ret;exact ⟨zt HL.out.symm,_,by rw [World.drewN_drewN,World.drewN_drewN]⟩
   ·go_wp2;go_ret;exact ⟨zt (by rw [zcW k z1 z2 HT.out (by omega) (by omega) (.inr (by omega)),s1,s2,Bool.eq_iff_iff]),_,rfl⟩
  ·go_wp2;go_ret;exact ⟨zt (by rw [zcW k z1 z2 HT.out (by omega) (by omega) (.inl (by omega)),s1,s2,Bool.eq_iff_iff]),_,rfl⟩

theorem zct (x m:Int) (h:0≤m∧m≤9223372036854775807):0≤bits .and .i64 x m∧bits .and .i64 x m≤m:=by
 have e2:(BitVec.ofInt 64 m).toNat=m.toNat:=by
  rw [BitVec.toNat_ofInt]
  have:((2 ^ 64:Nat):Int)=18446744073709551616:=by decide
  rw [this]; omega
 have e3:((BitVec.ofInt 64 x) &&& (BitVec.ofInt 64 m)).toNat≤m.toNat:=by
  rw [BitVec.toNat_and,e2]; exact Nat.and_le_right
 have e:bits .and .i64 x m=IntKind.i64.wrap (((BitVec.ofInt 64 x) &&& (BitVec.ofInt 64 m)).toNat:Int):=rfl;rw [e,IntKind.wrap_i64];omega

theorem zcH {a b c:World} {C:Nat} (h:a.grownBy b (some C)) (k:b.grownBy c (some C)):a.grownBy c (some C) where
 os:=k.os.trans h.os
 tape:=k.tape.trans h.tape
 output:=k.output.trans h.output
 size:=Nat.le_trans h.size k.size
 block:=fun j hj hne=>(k.block j (Nat.lt_of_lt_of_le hj h.size) hne).trans (h.block j hj hne)

theorem zcy {a b:World} (C:Nat) (h:Below a.heap.size a b):a.grownBy b (some C) where
 os:=h.os
 tape:=h.tape
 output:=h.output
 size:=h.size
 block:=fun j hj _=>h.block j hj

theorem zbg {a b:World} {C B:Nat} (h:a.grownBy b (some C)) (hB:B≤C) (hs:C≤a.heap.size):Below B a b where
 os:=h.os
 tape:=h.tape
 output:=h.output
 size:=h.size
 block:=fun j hj=>h.block j (by omega) (by intro e; cases e; omega)

theorem zdO {a b:World} {C:Nat} (h:a.grownBy b (some C)) (n:Nat):a.grownBy (b.drewN n) (some C):=⟨h.os,h.tape,h.output,h.size,h.block⟩

structure Cur (w:World) (C:Nat) (a0:Option Addr) (l0 c0:Nat) (z0:List Int):Prop where
 row:∀w',Below C w w'→Row w' a0 l0 c0 z0
 small:l0≤1048576
 here:∃i h:Int,0≤i∧i≤l0∧w.heap[C]?=some (.cells #[.slice a0 l0 c0,.int .i64 i,.int .i64 h] 97)

theorem Cur.lt {w:World} {C:Nat} {a0:Option Addr} {l0 c0:Nat} {z0:List Int} (h:Cur w C a0 l0 c0 z0):C < w.heap.size:=by
 obtain ⟨i,x,_,_,e⟩:=h.here;by_cases hlt:C < w.heap.size
 ·exact hlt
 ·rw [Array.getElem?_eq_none (by omega)] at e; cases e

theorem Cur.below {w w':World} {C:Nat} {a0:Option Addr} {l0 c0:Nat} {z0:List Int} (h:Cur w C a0 l0 c0 z0) (hb:Below w.heap.size w w'):Cur w' C a0 l0 c0 z0 where
 row:=fun w2 h2=>h.row w2 ((hb.mono (Nat.le_of_lt h.lt)).trans h2)
 small:=h.small
 here:=by
  obtain ⟨i,x,h1,h2,e⟩:=h.here;exact ⟨i,x,h1,h2,by rw [hb.block C h.lt]; exact e⟩

theorem zhc (w:World) (a0:Option Addr) (l0 c0:Nat) (z0:List Int) (x:Int) (h0:Row w a0 l0 c0 z0) (hs:l0≤1048576):Cur (w.alloc (.cells #[.slice a0 l0 c0,.int .i64 0,.int .i64 x] 97)) w.heap.size a0 l0 c0 z0 where
 row:=fun w2 h2=>h0.below (((Below.refl _ _).alloc (Nat.le_refl _) _).trans h2)
 small:=hs
 here:=⟨0,x,by omega,by omega,by show (w.heap.push _)[w.heap.size]?=_; simp⟩

theorem Cur.drew {w:World} {C:Nat} {a0:Option Addr} {l0 c0:Nat} {z0:List Int} (h:Cur w C a0 l0 c0 z0) (n:Nat):Cur (w.drewN n) C a0 l0 c0 z0:=h.below (zV (Below.refl _ _) n)

theorem ziV (a0:Option Addr) (l0 c0:Nat) (z0:List Int) (w:World) (h0:Row w a0 l0 c0 z0) (hs:l0≤1048576) :
  Calls Tryz.prog 34 #[.slice a0 l0 c0] w fun e w'=>e=.returned (.pointer (some ⟨w.heap.size,0,none⟩))∧Cur w' w.heap.size a0 l0 c0 z0∧Below w.heap.size w w':=by
 have hby:=h0.byte;have hcell:=h0.cell;go_enter Tryz.func34,Tryz.ntmps34;go_wp2
 go_loop [3,4] (fun m i=>∃(k:Nat) (x:Int),k≤l0∧k≤4000∧i=.int .i64 k∧m=.int .i64 x∧0≤x∧x≤1073741823) (fun _ i=>l0 - (intOf i).toNat)
 case atStart=>exact ⟨0,_,Nat.zero_le _,by omega,rfl,rfl,by omega,by omega⟩
 case round =>
  obtain ⟨k,x,hk,hk4,rfl,rfl,hx0,hx1⟩:=hrel;by_cases hlt:k < l0
  ·by_cases hl4:k < 4000
   ·rcases hcell with h | ⟨b,off,rfl,hc⟩
    ·omega
    have cx:=hc k hlt;have bx:=hby.at k;clear hc;generalize z0.getD k 0=y at *;go_wp2
    go_round
    case rel=>exact ⟨k+1,_,by omega,by omega,by go_num,rfl,(zct (x*137+y+11) 1073741823 (by omega)).1,(zct (x*137+y+11) 1073741823 (by omega)).2⟩
    case measure=>simp [intOf]; omega
   ·have i1:¬(k:Int) < 4000:=by omega
    go_wp2;go_ret;exact ⟨rfl,zhc w a0 l0 c0 z0 x h0 hs,(Below.refl _ _).alloc (Nat.le_refl _) _⟩
  ·go_wp2;go_ret;exact ⟨rfl,zhc w a0 l0 c0 z0 x h0 hs,(Below.refl _ _).alloc (Nat.le_refl _) _⟩

structure Went (w w':World) (C:Nat) (a0:Option Addr) (l0 c0:Nat) (z0:List Int):Prop where
 cur:Cur w' C a0 l0 c0 z0
 grown:w.grownBy w' (some C)

theorem Cur.cells {w:World} {C:Nat} {c0 c1 c2:Value} (h:w.heap[C]?=some (.cells #[c0,c1,c2] 97)) :
  w.cell? ⟨C,0,none⟩=some c0∧w.cell? ⟨C,1,none⟩=some c1∧w.cell? ⟨C,2,none⟩=some c2∧(∀j,w.frozen? ⟨C,j,none⟩=false):=by
 refine ⟨?_, ?_, ?_,fun j => ?_⟩ <;> simp [World.cell?,World.frozen?,h]

theorem zh1 {w:World} {C:Nat} {a0:Option Addr} {l0 c0:Nat} {z0:List Int} {i h:Int} (hc:Cur w C a0 l0 c0 z0) (hh:w.heap[C]?=some (.cells #[.slice a0 l0 c0,.int .i64 i,.int .i64 h] 97)) (H:Int) (hi:0≤i∧i≤l0) :
  (w.setCell ⟨C,2,none⟩ (.int .i64 H)).heap[C]?=some (.cells #[.slice a0 l0 c0,.int .i64 i,.int .i64 H] 97)∧w.grownBy (w.setCell ⟨C,2,none⟩ (.int .i64 H)) (some C)∧Cur (w.setCell ⟨C,2,none⟩ (.int .i64 H)) C a0 l0 c0 z0:=by
 have e:(w.setCell ⟨C,2,none⟩ (.int .i64 H)).heap[C]?=some (.cells #[.slice a0 l0 c0,.int .i64 i,.int .i64 H] 97):=by
  have:=hc.lt
  simp [World.setCell,Array.getElem?_modify,hh]
 have g:w.grownBy (w.setCell ⟨C,2,none⟩ (.int .i64 H)) (some C):=zbu (World.grownBy.refl _ _) 2 _;exact ⟨e,g,⟨fun w2 h2=>hc.row w2 ((zbg g (Nat.le_refl _) (Nat.le_of_lt hc.lt)).trans h2),hc.small,i,H,hi.1,hi.2,e⟩⟩

theorem zh0 {w:World} {C:Nat} {a0:Option Addr} {l0 c0:Nat} {z0:List Int} {i h:Int} (hc:Cur w C a0 l0 c0 z0) (hh:w.heap[C]?=some (.cells #[.slice a0 l0 c0,.int .i64 i,.int .i64 h] 97)) (j:Int) (hj:0≤j∧j≤l0) :
  Went w (w.setCell ⟨C,1,none⟩ (.int .i64 j)) C a0 l0 c0 z0:=by
 have e:(w.setCell ⟨C,1,none⟩ (.int .i64 j)).heap[C]?=some (.cells #[.slice a0 l0 c0,.int .i64 j,.int .i64 h] 97):=by
  have:=hc.lt
  simp [World.setCell,Array.getElem?_modify,hh]
 have g:w.grownBy (w.setCell ⟨C,1,none⟩ (.int .i64 j)) (some C):=zbu (World.grownBy.refl _ _) 1 _;exact ⟨⟨fun w2 h2=>hc.row w2 ((zbg g (Nat.le_refl _) (Nat.le_of_lt hc.lt)).trans h2),hc.small,j,h,hj.1,hj.2,e⟩,g⟩

theorem zdy (C:Nat) (a0:Option Addr) (l0 c0:Nat) (z0:List Int) (w:World) (hc:Cur w C a0 l0 c0 z0) :
  Calls Tryz.prog 97 #[.pointer (some ⟨C,0,none⟩)] w fun e w'=>∃x:Int,e=.returned (.int .i64 x)∧0≤x∧x≤255∧Went w w' C a0 l0 c0 z0:=by
 obtain ⟨i,h,hi0,hi1,hh⟩:=hc.here;obtain ⟨k0,k1,k2,kf⟩:=Cur.cells hh;have kf2:=kf 2;clear kf;obtain ⟨k,rfl⟩:∃k:Nat,i=k:=⟨i.toNat,by omega⟩;go_enter Tryz.func97,Tryz.ntmps97;go_wp2;generalize wrap64 (wrap64 (h*6364136223846793005)+1442695040888963407)=H;have st:=zh1 hc hh H ⟨hi0,hi1⟩;generalize w.setCell ⟨C,2,none⟩ (.int .i64 H)=W at *;obtain ⟨hW,hg,hcw⟩:=st;clear k0 k1 k2 kf2 hh hc;obtain ⟨k0,k1,k2,kf⟩:=Cur.cells hW;have kf1:=kf 1;clear kf;have hrow:=hcw.row W (Below.refl _ _);have hl0:=hcw.small;have hby:=hrow.byte;have hcell:=hrow.cell
 go_quiet (fail)
 go_wp2;have hx:=zct (bits BinOp.xor IntKind.i64 (H / 8589934592) (H / 140737488355328)) 255 (by omega);generalize bits BinOp.and IntKind.i64 (bits BinOp.xor IntKind.i64 (H / 8589934592) (H / 140737488355328)) 255=x at *;by_cases hlt:k < l0
 ·rcases hcell with h | ⟨b,off,rfl,hc⟩
  ·omega
  have cx:=hc k hlt;have bx:=hby.at k;clear hc;generalize z0.getD k 0=y at *;have g1:(k:Int) < l0:=by omega
  go_quiet (fail)
  go_wp2
  go_quiet (fail)
  go_wp2;go_ret;refine ⟨_,rfl,(zct _ 255 (by omega)).1,(zct _ 255 (by omega)).2, ?_⟩;have t:=fun n=>zh0 (hcw.drew n) (by exact hW) ((k:Int)+1) (by omega)
  exact ⟨(t _).cur,zcH (zdO hg _) (t _).grown⟩
 ·have g1:¬(k:Int) < l0:=by omega
  go_quiet (fail)
  go_wp2;go_ret;exact ⟨x,rfl,hx.1,hx.2,hcw.drew _,zdO hg _⟩

theorem zgr (x n:Int) (hx:0≤x) (hn:0 < n):0≤x % n∧x % n < n∧x % n≤x:=by
 refine ⟨Int.emod_nonneg _ (by omega),Int.emod_lt_of_pos _ hn, ?_⟩;have h1:=Int.emod_add_mul_ediv x n;have h2:0≤x / n:=Int.ediv_nonneg hx (by omega);have h3:0≤n*(x / n):=Int.mul_nonneg (by omega) h2;omega

theorem Went.trans {a b c:World} {C:Nat} {a0:Option Addr} {l0 c0:Nat} {z0:List Int} (h:Went a b C a0 l0 c0 z0) (k:Went b c C a0 l0 c0 z0):Went a c C a0 l0 c0 z0:=⟨k.cur,zcH h.grown k.grown⟩

theorem Went.made {a b c:World} {C:Nat} {a0:Option Addr} {l0 c0:Nat} {z0:List Int} (h:Went a b C a0 l0 c0 z0) (k:Below b.heap.size b c):Went a c C a0 l0 c0 z0:=⟨h.cur.below k,zcH h.grown (zcy C k)⟩

theorem Went.start {a b:World} {C:Nat} {a0:Option Addr} {l0 c0:Nat} {z0:List Int} (h:Cur a C a0 l0 c0 z0) (k:Below a.heap.size a b):Went a b C a0 l0 c0 z0:=⟨h.below k,zcy C k⟩

theorem zz (C:Nat) (a0:Option Addr) (l0 c0:Nat) (z0:List Int) (n:Int) (w:World) (hc:Cur w C a0 l0 c0 z0) (hn:n≤1099511627776) :
  Calls Tryz.prog 63 #[.pointer (some ⟨C,0,none⟩),.int .i64 n] w fun e w'=>∃x:Int,e=.returned (.int .i64 x)∧0≤x∧(0 < n→x < n)∧x≤16777215∧Went w w' C a0 l0 c0 z0:=by
 by_cases k0:n≤0
 ·go_enter Tryz.func63,Tryz.ntmps63;go_wp2;go_ret;exact ⟨0,rfl,by omega,by omega,by omega,Went.start hc (Below.refl _ _)⟩
 by_cases k1:n≤256
 ·go_enter Tryz.func63,Tryz.ntmps63;(go_wp2_with fail);refine (zdy C a0 l0 c0 z0 _ hc).mono ?_;rintro e w1 ⟨x,rfl,hx0,hx1,went⟩;have hne:(n == 0)=false:=by simp; omega
  go_wp2;go_ret;exact ⟨_,rfl,(zgr x n hx0 (by omega)).1,fun _=>(zgr x n hx0 (by omega)).2.1,by have:=(zgr x n hx0 (by omega)).2.2; omega,went⟩
 ·go_enter Tryz.func63,Tryz.ntmps63;(go_wp2_with fail);refine (zdy C a0 l0 c0 z0 _ hc).mono ?_;rintro e w1 ⟨x,rfl,hx0,hx1,went1⟩;(go_wp2_with fail);refine (zdy C a0 l0 c0 z0 _ went1.cur).mono ?_;rintro e w2 ⟨y,rfl,hy0,hy1,went2⟩;(go_wp2_with fail);refine (zdy C a0 l0 c0 z0 _ went2.cur).mono ?_;rintro e w3 ⟨z,rfl,hz0,hz1,went3⟩;have hne:(n == 0)=false:=by simp; omega
  go_wp2;go_ret;have hm:=zgr (x*65536+y*256+z) n (by omega) (by omega);exact ⟨_,rfl,hm.1,fun _=>hm.2.1,by omega,(went1.trans went2).trans went3⟩

theorem zdC (C:Nat) (a0:Option Addr) (l0 c0:Nat) (z0:List Int) (n:Int) (w:World) (hc:Cur w C a0 l0 c0 z0) (hn:n≤1099511627776) :
  Calls Tryz.prog 70 #[.pointer (some ⟨C,0,none⟩),.int .i64 n] w fun e w'=>∃x:Bool,e=.returned (.bool x)∧Went w w' C a0 l0 c0 z0:=by
 go_enter Tryz.func70,Tryz.ntmps70;go_wp2_with fail
 refine (zz C a0 l0 c0 z0 n _ hc hn).mono ?_;rintro e w1 ⟨x,rfl,hx0,hx1,hx2,went⟩;go_wp2;go_ret;exact ⟨_,rfl,went⟩

theorem zid (w:World) (xs:List Int) (j:Nat) (hj:j < xs.length):(w.alloc (.cells (xs.map (Value.int .i64)).toArray 3)).cell? ⟨w.heap.size,j,none⟩=some (.int .i64 (xs.getD j 0)):=by
 have:(w.alloc (.cells (xs.map (Value.int .i64)).toArray 3)).cell? ⟨w.heap.size,j,none⟩=(xs.map (Value.int .i64)).toArray[j]?:=by simp
 rw [this]
 simp [hj]

theorem ziS (C:Nat) (a0:Option Addr) (l0 c0:Nat) (z0:List Int) (B n:Nat) (xs:List Int) (w:World) (hc:Cur w C a0 l0 c0 z0) (hB:C < B) (hcell:∀j,j < n→w.cell? ⟨B,j,none⟩=some (.int .i64 (xs.getD j 0))) (hxs:xs.length=n) (hn0:0 < n) (hn:n≤1000) :
  Calls Tryz.prog 72 #[.pointer (some ⟨C,0,none⟩),.slice (some ⟨B,0,none⟩) n n] w fun e w'=>∃x:Int,x∈xs∧e=.returned (.int .i64 x)∧Went w w' C a0 l0 c0 z0:=by
 have HC:=hide hcell;clear hcell;go_enter Tryz.func72,Tryz.ntmps72;go_wp2_with fail
 refine (zz C a0 l0 c0 z0 n _ hc (by omega)).mono ?_;rintro e w1 ⟨x,rfl,hx0,hx1,hx2,went⟩;have hx1:=hx1 (by omega);obtain ⟨j,rfl⟩:∃j:Nat,x=j:=⟨x.toNat,by omega⟩;have cx:w1.cell? ⟨B,j,none⟩=some (.int .i64 (xs.getD j 0)):=went.grown.cell (HC.out j (by omega)) (by intro e; simp at e; omega);have hm:xs.getD j 0∈xs:=by
  rw [List.getD_eq_getElem?_getD,List.getElem?_eq_getElem (by omega)]; exact List.getElem_mem _
 generalize xs.getD j 0=y at *;go_wp2;go_ret;exact ⟨y,hm,rfl,went⟩

theorem Cur.belowAt {w w':World} {C B:Nat} {a0:Option Addr} {l0 c0:Nat} {z0:List Int} (h:Cur w C a0 l0 c0 z0) (hb:Below B w w') (hC:C < B):Cur w' C a0 l0 c0 z0 where
 row:=fun w2 h2=>h.row w2 ((hb.mono (Nat.le_of_lt hC)).trans h2)
 small:=h.small
 here:=by
  obtain ⟨i,x,h1,h2,e⟩:=h.here;exact ⟨i,x,h1,h2,by rw [hb.block C hC]; exact e⟩

theorem Went.madeAt {a b c:World} {C B:Nat} {a0:Option Addr} {l0 c0:Nat} {z0:List Int} (h:Went a b C a0 l0 c0 z0) (k:Below B b c) (hC:C < B) (hB:a.heap.size≤B):Went a c C a0 l0 c0 z0 where
 cur:=h.cur.belowAt k hC
 grown:=⟨k.os.trans h.grown.os,k.tape.trans h.grown.tape,k.output.trans h.grown.output,Nat.le_trans h.grown.size k.size,fun j hj hne=>(k.block j (by omega)).trans (h.grown.block j hj hne)⟩

theorem Went.own {a b:World} {C:Nat} {a0:Option Addr} {l0 c0:Nat} {z0:List Int} (h:Went a b C a0 l0 c0 z0) {base:Nat} {v:Value} {n:Nat} {xs:List Value} (ho:a.ownsRow base 5 1 v n xs) (hC:C < base):b.ownsRow base 5 1 v n xs :=
 zc2 ho h.grown (by intro k hk; cases hk; exact hC)

theorem zbj (C:Nat) (a0:Option Addr) (l0 c0:Nat) (z0:List Int) (xs:List Int) (B n:Nat) (w:World) (hc:Cur w C a0 l0 c0 z0) (hB:B=w.heap.size) (hxs:xs.length=n) (hn0:0 < n) (hn:n≤1000) :
  Calls Tryz.prog 72 #[.pointer (some ⟨C,0,none⟩),.slice (some ⟨B,0,none⟩) n n] (w.alloc (.cells (xs.map (Value.int .i64)).toArray 3)) fun e w'=>∃x:Int,x∈xs∧e=.returned (.int .i64 x)∧Went w w' C a0 l0 c0 z0:=by
 subst hB hxs;have hb:Below w.heap.size w (w.alloc (.cells (xs.map (Value.int .i64)).toArray 3)):=(Below.refl _ _).alloc (Nat.le_refl _) _;refine (ziS C a0 l0 c0 z0 w.heap.size xs.length xs _ (hc.below hb) hc.lt (fun j hj=>zid w xs j hj) rfl hn0 hn).mono ?_;rintro e w' ⟨x,hx,rfl,went⟩;exact ⟨x,hx,rfl,(Went.start hc hb).trans went⟩

end Go.Proofs.YtljbdmlgfggadaaGreat
